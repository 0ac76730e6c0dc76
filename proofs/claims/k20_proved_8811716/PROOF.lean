import PyProof.Rows.All
import Wide.All
import OpenK.AllK
import Wide.FinOn
import KE.GoesMore
import KE.KStar
import HandS.ForMost
import HandS.Star
import HandS.Walk
import HandS.SlotsOwn
import HandS.ClsMeth
import HandS.Property
import HandS.OwnEq
import KE.KOpsOwn
import HandS.Text
import HandS.Replace
import HandS.DictComp
import HandS.Codes
import HandS.IsInst
import HandS.SetKeys
import HandS.Comp
import PyProof.Rows.StrPadFill
import PyProof.Rows.StrStrike
import HandS.ExcInit
import HandS.Nested
import HandS.FStr
import KE.KExcSuper
import KE.KSuper
import HandS.WordsExc
import HandS.ExcIs
import HandS.ExcField
import HandS.Lambda
import KE.KExcIs
import HandS.TupSets
import PyProof.InstNe
import HandS.ExcOwn
import PyProof.ExcBaseAll.ValueError
import HandS.StrMore
import PyProof.StrBlock2
import PyProof.ListStr
import HandS.Dict
import HandS.Style
import PyProof.Rows.StrCountLaw
import KE.KMathG
import HandS.Gcd
import HandS.Conv
import HandS.SortRule
import KE.LtData
import KE.KDictCopyH
import PyProof.CollectStr
import PyProof.ConsumeS
import PyProof.MinMaxWalk
import PyProof.SeqI3
import KE.KDictZip
import PyProof.CollectIter
import PyProof.WalksMore
import PyProof.Rows.TupIter
import HandS.TupAny
import KE.KWithOwn
import HandS.EndTab
import KE.KNestM
import HandS.Ends
import PySem.Challenge.RW_tiltheap_k20_whole_blocks_and_replays
section
set_option Elab.async false
set_option maxRecDepth 100000
set_option maxHeartbeats 4000000
namespace TH
open PySem PySem.Spec PyProof.Rows L2

/-- texts with their tokens -/
abbrev Tx := List (Str × Tok)
abbrev txv (ts : Tx) : List Value := ts.map fun v => .str v.1 v.2
abbrev txo (v : Str × Tok) : Obj := { cls := .type (strIterType v.1), data := .fields #[.str v.1 v.2, .int 0 0] }
def laid (h : Heap) : Tx → Heap
  | [] => h
  | v :: r => laid (h.push (txo v)) r
def refs (n : Nat) : Nat → List Value
  | 0 => []
  | k + 1 => .ref n :: refs (n + 1) k
theorem laid_size : ∀ (ts : Tx) (h : Heap), (laid h ts).objs.size = h.objs.size + ts.length
  | [], h => rfl
  | v :: r, h => by
    show (laid (h.push (txo v)) r).objs.size = _
    rw [laid_size r, Heap.size_push, List.length_cons]
    omega
theorem laid_old : ∀ (ts : Tx) (h : Heap) (b : Addr) (o : Obj), h.get? b = some o → (laid h ts).get? b = some o
  | [], _, _, _, e => e
  | _ :: r, _, b, o, e => laid_old r _ b o (Heap.get?_push_of_some _ e)
theorem laid_at : ∀ (ts : Tx) (h : Heap) (k : Nat) (v : Str × Tok), ts[k]? = some v → (laid h ts).get? (h.objs.size + k) = some (txo v)
  | [], _, k, _, e => by simp at e
  | u :: r, h, 0, v, e => by
    have e' : u = v := by simpa using e
    subst e'
    exact laid_old r _ _ _ (Heap.get?_push_size _ rfl)
  | u :: r, h, k + 1, v, e => by
    have z := laid_at r (h.push (txo u)) k v (by simpa using e)
    rw [Heap.size_push] at z
    have e2 : h.objs.size + 1 + k = h.objs.size + (k + 1) := by omega
    rw [e2] at z
    exact z
theorem refs_length (n : Nat) : ∀ k, (refs n k).length = k := fun k => by
  induction k generalizing n with
  | zero => rfl
  | succ k ih => show (refs (n + 1) k).length + 1 = k + 1; rw [ih]
theorem refs_at : ∀ (n k i : Nat), i < k → (refs n k)[i]? = some (.ref (n + i))
  | n, 0, i, h => absurd h (Nat.not_lt_zero _)
  | n, k + 1, 0, _ => rfl
  | n, k + 1, i + 1, h => by
    have z := refs_at (n + 1) k i (Nat.lt_of_succ_lt_succ h)
    have e : n + 1 + i = n + (i + 1) := by omega
    rw [e] at z
    simpa [refs] using z

section
variable {prog : Program} {w : World} {A : Around} {E : Value → Shared → Prop}
theorem iterAll_texts : ∀ (ts : Tx) (acc : Array Value) (s : Shared) (Q : Array Value → Shared → Prop), Q (acc ++ (refs s.heap.objs.size ts.length).toArray) { s with heap := laid s.heap ts } →
    wpAny (model prog w) A (forIn (txv ts) acc fun x r => (do let y ← holding r.toList (pyIter x); pure (ForInStep.yield (r.push y)))) Q E s
  | [], acc, s, Q, h => by
    rw [txv, List.map_nil, List.forIn_nil]
    refine wpAny_pure ?_
    simpa [refs, laid] using h
  | v :: r, acc, s, Q, h => by
    rw [txv, List.map_cons, List.forIn_cons]
    refine wpAny_bind (wpAny_bind (wpAny_holding (wpAny_pyIter_strU (wpAny_pure ?_))))
    refine iterAll_texts r _ _ Q ?_
    have e : acc.push (.ref s.heap.objs.size) ++ (refs (s.heap.push (txo v)).objs.size r.length).toArray = acc ++ (refs s.heap.objs.size (r.length + 1)).toArray := by
      rw [Heap.size_push]
      apply Array.toList_inj.mp
      simp [refs]
    show Q (acc.push (.ref s.heap.objs.size) ++ (refs (s.heap.push (txo v)).objs.size r.length).toArray) _
    rw [e]
    exact h
theorem iterAll_ok (ts : Tx) {s : Shared} {Q : List Value → Shared → Prop} (h : Q (refs s.heap.objs.size ts.length) { s with heap := laid s.heap ts }) :
    wpAny (model prog w) A (Builtin.SmallTypes.iterAll (txv ts)) Q E s := by
  unfold Builtin.SmallTypes.iterAll
  refine wpAny_bind (iterAll_texts ts #[] s _ ?_)
  refine wpAny_pure ?_
  simpa using h
end
end TH
end
section
set_option Elab.async false
set_option maxRecDepth 100000
set_option maxHeartbeats 4000000
namespace TH
open PySem PySem.Spec PyProof.Rows L2

abbrev tupO (l : List Value) : Obj := { cls := .type "tuple", data := .seq l.toArray }
abbrev zipO (f0 f1 : Value) (TI TO : Addr) : Obj := { cls := .type "zip", data := .fields #[f0, f1, .bool false, .ref TI, .ref TO] }
def zheap (h : Heap) (ts : Tx) : Heap :=
  (((laid h ts).push (tupO (refs h.objs.size ts.length))).push (tupO ((refs h.objs.size ts.length).map fun _ => .none))).push (zipO .none (.bool false) (h.objs.size + ts.length) (h.objs.size + ts.length + 1))

theorem argsOk_init : ∀ (obj : Value) (ts : Tx), ts.length ≤ 8 → argsOk "object.__init__" ⟨obj :: txv ts, []⟩
  | obj, [], _ => by show argsOk "object.__init__" ⟨[obj], []⟩; unfold argsOk; kernel_rfl
  | obj, [a], _ => by show argsOk "object.__init__" ⟨[obj, _], []⟩; unfold argsOk; kernel_rfl
  | obj, [a, b], _ => by show argsOk "object.__init__" ⟨[obj, _, _], []⟩; unfold argsOk; kernel_rfl
  | obj, [a, b, c], _ => by show argsOk "object.__init__" ⟨[obj, _, _, _], []⟩; unfold argsOk; kernel_rfl
  | obj, [a, b, c, d], _ => by show argsOk "object.__init__" ⟨[obj, _, _, _, _], []⟩; unfold argsOk; kernel_rfl
  | obj, [a, b, c, d, e], _ => by show argsOk "object.__init__" ⟨[obj, _, _, _, _, _], []⟩; unfold argsOk; kernel_rfl
  | obj, [a, b, c, d, e, f], _ => by show argsOk "object.__init__" ⟨[obj, _, _, _, _, _, _], []⟩; unfold argsOk; kernel_rfl
  | obj, [a, b, c, d, e, f, g], _ => by show argsOk "object.__init__" ⟨[obj, _, _, _, _, _, _, _], []⟩; unfold argsOk; kernel_rfl
  | obj, [a, b, c, d, e, f, g, h], _ => by show argsOk "object.__init__" ⟨[obj, _, _, _, _, _, _, _, _], []⟩; unfold argsOk; kernel_rfl
  | obj, _ :: _ :: _ :: _ :: _ :: _ :: _ :: _ :: _ :: r, h => by simp at h
theorem typeCall_zip : ∀ (ts : Tx), ts.length ≤ 8 → checkTypeCall "zip" ⟨txv ts, []⟩ = pure ()
  | [], _ => by show checkTypeCall "zip" ⟨[], []⟩ = pure (); kernel_rfl
  | [a], _ => by show checkTypeCall "zip" ⟨[_], []⟩ = pure (); kernel_rfl
  | [a, b], _ => by show checkTypeCall "zip" ⟨[_, _], []⟩ = pure (); kernel_rfl
  | [a, b, c], _ => by show checkTypeCall "zip" ⟨[_, _, _], []⟩ = pure (); kernel_rfl
  | [a, b, c, d], _ => by show checkTypeCall "zip" ⟨[_, _, _, _], []⟩ = pure (); kernel_rfl
  | [a, b, c, d, e], _ => by show checkTypeCall "zip" ⟨[_, _, _, _, _], []⟩ = pure (); kernel_rfl
  | [a, b, c, d, e, f], _ => by show checkTypeCall "zip" ⟨[_, _, _, _, _, _], []⟩ = pure (); kernel_rfl
  | [a, b, c, d, e, f, g], _ => by show checkTypeCall "zip" ⟨[_, _, _, _, _, _, _], []⟩ = pure (); kernel_rfl
  | [a, b, c, d, e, f, g, h], _ => by show checkTypeCall "zip" ⟨[_, _, _, _, _, _, _, _], []⟩ = pure (); kernel_rfl
  | _ :: _ :: _ :: _ :: _ :: _ :: _ :: _ :: _ :: r, h => by simp at h
theorem newCall_zip : ∀ (ts : Tx), ts.length ≤ 8 → checkBuiltinCall "zip.__new__" ⟨.type "zip" :: txv ts, []⟩ = pure ()
  | [], _ => by show checkBuiltinCall "zip.__new__" ⟨[_], []⟩ = pure (); kernel_rfl
  | [a], _ => by show checkBuiltinCall "zip.__new__" ⟨[_, _], []⟩ = pure (); kernel_rfl
  | [a, b], _ => by show checkBuiltinCall "zip.__new__" ⟨[_, _, _], []⟩ = pure (); kernel_rfl
  | [a, b, c], _ => by show checkBuiltinCall "zip.__new__" ⟨[_, _, _, _], []⟩ = pure (); kernel_rfl
  | [a, b, c, d], _ => by show checkBuiltinCall "zip.__new__" ⟨[_, _, _, _, _], []⟩ = pure (); kernel_rfl
  | [a, b, c, d, e], _ => by show checkBuiltinCall "zip.__new__" ⟨[_, _, _, _, _, _], []⟩ = pure (); kernel_rfl
  | [a, b, c, d, e, f], _ => by show checkBuiltinCall "zip.__new__" ⟨[_, _, _, _, _, _, _], []⟩ = pure (); kernel_rfl
  | [a, b, c, d, e, f, g], _ => by show checkBuiltinCall "zip.__new__" ⟨[_, _, _, _, _, _, _, _], []⟩ = pure (); kernel_rfl
  | [a, b, c, d, e, f, g, h], _ => by show checkBuiltinCall "zip.__new__" ⟨[_, _, _, _, _, _, _, _, _], []⟩ = pure (); kernel_rfl
  | _ :: _ :: _ :: _ :: _ :: _ :: _ :: _ :: _ :: r, h => by simp at h

theorem meets_zip_new (ts : Tx) (hl : ts.length ≤ 8) :
    Meets (Builtin.«zip.__new__» ⟨.type "zip" :: txv ts, []⟩) (fun _ R s => R (.ok (.ret (.ref (s.heap.objs.size + ts.length + 2)))) { s with heap := zheap s.heap ts }) :=
  .of_wp fun prog w A R s h => by
    obtain ⟨hp, g, d, tk, os⟩ := s
    have hsub := sub_zip
    have q1 : ∀ {A' : Around} {E : Value → Shared → Prop} {Q : List Value → Shared → Prop}, Q (refs hp.objs.size ts.length) ⟨laid hp ts, g, d, tk, os⟩ → wpAny (model prog w) A' (Builtin.SmallTypes.iterAll (txv ts)) Q E ⟨hp, g, d, tk, os⟩ :=
      fun q => iterAll_ok ts q
    have sz1 : (refs hp.objs.size ts.length).length ≤ sizeLine := by rw [refs_length]; exact Nat.le_trans hl (by decide)
    unfold Builtin.«zip.__new__»
    wp_walk using q1
    refine ⟨_, rfl, ?_⟩
    have z1 : (laid hp ts).objs.size = hp.objs.size + ts.length := laid_size ts hp
    have z2 : ((laid hp ts).push (tupO (refs hp.objs.size ts.length))).objs.size = hp.objs.size + ts.length + 1 := by rw [Heap.size_push, z1]
    have z3 : (((laid hp ts).push (tupO (refs hp.objs.size ts.length))).push (tupO ((refs hp.objs.size ts.length).map fun _ => .none))).objs.size = hp.objs.size + ts.length + 2 := by rw [Heap.size_push, z2]
    rw [z1, z2, z3]
    exact h

/-- what stands behind zip(..) over texts -/
structure ZAt (h : Heap) (b : Nat) (ts : Tx) (f0 f1 : Value) (i : Nat) : Prop where
  zip : h.get? (b + ts.length + 2) = some (zipO f0 f1 (b + ts.length) (b + ts.length + 1))
  its : h.get? (b + ts.length) = some (tupO (refs b ts.length))
  txt : ∀ (k : Nat) (v : Str × Tok), ts[k]? = some v → h.IsStrIter (b + k) (strIterType v.1) v.1 v.2 i
theorem zheap_old {h : Heap} {ts : Tx} {c : Addr} {o : Obj} (e : h.get? c = some o) : (zheap h ts).get? c = some o :=
  Heap.get?_push_of_some _ (Heap.get?_push_of_some _ (Heap.get?_push_of_some _ (laid_old ts h c o e)))
theorem zheap_at (h : Heap) (ts : Tx) : ZAt (zheap h ts) h.objs.size ts .none (.bool false) 0 ∧ ∃ l, l.length = ts.length ∧ (zheap h ts).get? (h.objs.size + ts.length + 1) = some (tupO l) := by
  have z1 : (laid h ts).objs.size = h.objs.size + ts.length := laid_size ts h
  have z2 : ((laid h ts).push (tupO (refs h.objs.size ts.length))).objs.size = h.objs.size + ts.length + 1 := by rw [Heap.size_push, z1]
  have z3 : (((laid h ts).push (tupO (refs h.objs.size ts.length))).push (tupO ((refs h.objs.size ts.length).map fun _ => .none))).objs.size = h.objs.size + ts.length + 2 := by rw [Heap.size_push, z2]
  have e1 : (zheap h ts).get? (h.objs.size + ts.length) = some (tupO (refs h.objs.size ts.length)) := by
    rw [← z1]
    exact Heap.get?_push_of_some _ (Heap.get?_push_of_some _ (Heap.get?_push_size _ rfl))
  have e2 : (zheap h ts).get? (h.objs.size + ts.length + 1) = some (tupO ((refs h.objs.size ts.length).map fun _ => .none)) := by
    rw [← z2]
    exact Heap.get?_push_of_some _ (Heap.get?_push_size _ rfl)
  have e3 : (zheap h ts).get? (h.objs.size + ts.length + 2) = some (zipO .none (.bool false) (h.objs.size + ts.length) (h.objs.size + ts.length + 1)) := by
    rw [← z3]
    exact Heap.get?_push_size _ rfl
  refine ⟨⟨e3, e1, fun k v hv => ?_⟩, _, ?_, e2⟩
  · exact ⟨_, Heap.get?_push_of_some _ (Heap.get?_push_of_some _ (Heap.get?_push_of_some _ (laid_at ts h k v hv))), rfl, rfl⟩
  · rw [List.length_map, refs_length]

theorem call_zip {prog : Program} {w : World} {A : Around} {E : Value → Shared → Prop} {s : Shared} {Q : Value → Shared → Prop} (ts : Tx) (hl : ts.length ≤ 8)
    (h : Q (.ref (s.heap.objs.size + ts.length + 2)) { s with heap := zheap s.heap ts }) : wpAny (model prog w) A (call (.type "zip") (txv ts)) Q E s := by
  refine callType_new F.called_zip (by decide) (typeCall_zip ts hl) (newCall_zip ts hl) (fun obj => argsOk_init obj ts hl) F.entry_zip_new (meets_zip_new ts hl) ?_
  have e3 := (zheap_at s.heap ts).1.zip
  exact ⟨⟨_, e3, rfl⟩, h⟩
end TH
end
section
set_option Elab.async false
set_option maxRecDepth 100000
set_option maxHeartbeats 4000000
namespace TH
open PySem PySem.Spec PyProof.Rows L2
theorem nn {x y : Nat} (h : x < y ∨ y < x) : x ≠ y := fun e => by subst e; omega
section
variable {prog : Program} {w : World} {A : Around} {E : Value → Shared → Prop}
/-- a loop over a list of the model's own, by what holds ahead of its k-th turn -/
theorem loop_inv {α β : Type} {f : α → β → Sem (ForInStep β)} {Q : β → Shared → Prop} (I : Nat → β → Shared → Prop) : ∀ (xs : List α) (n : Nat) (y : β) (s : Shared), I n y s →
    (∀ k x y s, xs[k]? = some x → I (n + k) y s → wpAny (model prog w) A (f x y) (fun r s' => ∃ y', r = .yield y' ∧ I (n + k + 1) y' s') E s) →
    (∀ y s, I (n + xs.length) y s → Q y s) → wpAny (model prog w) A (forIn xs y f) Q E s
  | [], n, y, s, h0, _, he => by
    rw [List.forIn_nil]
    exact wpAny_pure (he y s h0)
  | x :: r, n, y, s, h0, hs, he => by
    rw [List.forIn_cons]
    refine wpAny_bind (wpAny_mono (hs 0 x y s rfl h0) (fun r1 s1 hr => ?_) fun _ _ z => z)
    obtain ⟨y1, rfl, h1⟩ := hr
    refine loop_inv I r (n + 1) y1 s1 h1 (fun k x' y' s' hk hI => ?_) fun y' s' hI => he y' s' ?_
    · have z := hs (k + 1) x' y' s' (by simpa using hk) (by
        have e : n + 1 + k = n + (k + 1) := by omega
        rw [e] at hI
        exact hI)
      have e : n + (k + 1) + 1 = n + 1 + k + 1 := by omega
      rw [e] at z
      exact z
    · have e : n + 1 + r.length = n + (r.length + 1) := by omega
      rw [e] at hI
      exact hI

/-- the signs of the texts at place i -/
def ColAt (ts : Tx) (i : Nat) (l : List Value) : Prop := l.length = ts.length ∧ ∀ (k : Nat) (v : Str × Tok), ts[k]? = some v → ∃ (c : Nat) (u : Tok), v.1.cps[i]? = some c ∧ l[k]? = some (Value.str ⟨#[c]⟩ u)
/-- outside b .. b + n all stands -/
def Out (b n : Nat) (h h' : Heap) : Prop := h'.objs.size = h.objs.size ∧ ∀ (c : Nat) (o : Obj), (c < b ∨ b + n < c) → h.get? c = some o → h'.get? c = some o
/-- k of the iterators have gone on -/
structure Mid (hp : Heap) (b : Nat) (ts : Tx) (f0 : Value) (i k : Nat) (h : Heap) : Prop where
  out : Out b (ts.length + 2) hp h
  zip : ∃ f1, h.get? (b + ts.length + 2) = some (zipO f0 f1 (b + ts.length) (b + ts.length + 1))
  its : h.get? (b + ts.length) = some (tupO (refs b ts.length))
  txt : ∀ (j : Nat) (v : Str × Tok), ts[j]? = some v → h.IsStrIter (b + j) (strIterType v.1) v.1 v.2 (if j < k then i + 1 else i)
theorem strIter_other {h h' : Heap} {a c : Addr} {ty : String} {x : Str} {t : Tok} {i : Nat} (q : h.IsStrIter a ty x t i) (sb : Heap.SameBut c h h') (hne : a ≠ c) : h'.IsStrIter a ty x t i := by
  obtain ⟨o, ho, r⟩ := q
  exact ⟨o, (sb.2 a hne).trans ho, r⟩
theorem Mid.step {hp h h' : Heap} {b : Nat} {ts : Tx} {f0 : Value} {i k : Nat} {v : Str × Tok} (M : Mid hp b ts f0 i k h) (hk : ts[k]? = some v) (sb : Heap.SameBut (b + k) h h') (st : h'.IsStrIter (b + k) (strIterType v.1) v.1 v.2 (i + 1)) : Mid hp b ts f0 i (k + 1) h' := by
  have hkl : k < ts.length := (List.getElem?_eq_some_iff.mp hk).1
  obtain ⟨f1, hz⟩ := M.zip
  refine ⟨⟨sb.1.trans M.out.1, fun c o hc e => (sb.2 c (nn (by omega))).trans (M.out.2 c o hc e)⟩, ⟨f1, (sb.2 (b + ts.length + 2) (nn (by omega))).trans hz⟩, (sb.2 (b + ts.length) (nn (by omega))).trans M.its, fun j u hj => ?_⟩
  by_cases hjk : j = k
  · subst hjk
    rw [if_pos (Nat.lt_succ_self _)]
    rw [hk] at hj
    cases hj
    exact st
  · have z := strIter_other (M.txt j u hj) sb (nn (x := b + j) (y := b + k) (by omega))
    by_cases hlt : j < k
    · rw [if_pos hlt] at z
      rw [if_pos (show j < k + 1 by omega)]
      exact z
    · rw [if_neg hlt] at z
      rw [if_neg (show ¬ j < k + 1 by omega)]
      exact z
theorem Mid.other {hp h h' : Heap} {b : Nat} {ts : Tx} {f0 : Value} {i k : Nat} (M : Mid hp b ts f0 i k h) (sb : Heap.SameBut (b + ts.length + 1) h h') : Mid hp b ts f0 i k h' := by
  obtain ⟨f1, hz⟩ := M.zip
  refine ⟨⟨sb.1.trans M.out.1, fun c o hc e => (sb.2 c (nn (by omega))).trans (M.out.2 c o hc e)⟩, ⟨f1, (sb.2 (b + ts.length + 2) (nn (by omega))).trans hz⟩, (sb.2 (b + ts.length) (nn (by omega))).trans M.its, fun j u hj => ?_⟩
  have hjl : j < ts.length := (List.getElem?_eq_some_iff.mp hj).1
  exact strIter_other (M.txt j u hj) sb (nn (x := b + j) (y := b + ts.length + 1) (by omega))
theorem Mid.start {hp h : Heap} {b : Nat} {ts : Tx} {f0 g0 f1 : Value} {i : Nat} (Z : ZAt hp b ts f0 f1 i) (sb : Heap.SameBut (b + ts.length + 2) hp h) (hz : ∃ f1, h.get? (b + ts.length + 2) = some (zipO g0 f1 (b + ts.length) (b + ts.length + 1))) : Mid hp b ts g0 i 0 h := by
  refine ⟨⟨sb.1, fun c o hc e => (sb.2 c (nn (by omega))).trans e⟩, hz, (sb.2 (b + ts.length) (nn (by omega))).trans Z.its, fun j u hj => ?_⟩
  have hjl : j < ts.length := (List.getElem?_eq_some_iff.mp hj).1
  rw [if_neg (Nat.not_lt_zero _)]
  exact strIter_other (Z.txt j u hj) sb (nn (x := b + j) (y := b + ts.length + 2) (by omega))
theorem Mid.fin {hp h : Heap} {b : Nat} {ts : Tx} {f0 : Value} {i : Nat} (M : Mid hp b ts f0 i ts.length h) : ∃ f1, ZAt h b ts f0 f1 (i + 1) := by
  obtain ⟨f1, hz⟩ := M.zip
  refine ⟨f1, hz, M.its, fun j v hj => ?_⟩
  have z := M.txt j v hj
  rw [if_pos (List.getElem?_eq_some_iff.mp hj).1] at z
  exact z
/-- the k-th iterator goes on -/
theorem draw_ok {hp : Heap} {s : Shared} {b : Nat} {ts : Tx} {f0 : Value} {i k : Nat} {v : Str × Tok} {Q : Value → Shared → Prop} (hh : A.handled = none) (M : Mid hp b ts f0 i k s.heap) (hk : ts[k]? = some v) (hi : i < v.1.cps.size)
    (hQ : ∀ c u h' tk, v.1.cps[i]? = some c → Mid hp b ts f0 i (k + 1) h' → Heap.SameBut (b + k) s.heap h' → Q (.str ⟨#[c]⟩ u) { s with heap := h', toks := tk }) :
    wpAny (model prog w) A (Builtin.SmallTypes.nextOf (.ref (b + k))) Q E s := by
  have st := M.txt k v hk
  rw [if_neg (Nat.lt_irrefl _)] at st
  refine (Draws.text (prog := prog) (w := w) hh (b + k) v.1 v.2).item i s _ _ hi st fun x h' tk hx st' sb => ?_
  obtain ⟨c, u, hc, rfl⟩ := hx
  exact hQ c u h' tk hc (M.step hk sb st') sb
end
end TH
end
section
set_option Elab.async false
set_option maxRecDepth 100000
set_option maxHeartbeats 4000000
namespace TH
open PySem PySem.Spec PyProof.Rows L2
section
variable {prog : Program} {w : World} {A : Around} {E : Value → Shared → Prop}
theorem refs_ne {b n : Nat} (h : 0 < n) : (refs b n).toArray.isEmpty = false := by
  cases n with
  | zero => exact absurd h (Nat.lt_irrefl _)
  | succ n => rfl
theorem refs_get {b n k : Nat} {x : Value} (h : (refs b n)[k]? = some x) : k < n ∧ x = .ref (b + k) := by
  have hk : k < n := by
    have z := (List.getElem?_eq_some_iff.mp h).1
    rw [refs_length] at z
    exact z
  have z := refs_at b n k hk
  rw [z] at h
  exact ⟨hk, (Option.some.inj h).symm⟩
theorem alive_any {s : Shared} {a : Addr} {Q : Option Obj → Shared → Prop} (h : Q (s.heap.get? a) s) : wpAny (model prog w) A (loadIfAlive a) Q E s := fun _ _ _ => h
/-- what stands between the turns -/
structure Bet (h : Heap) (b : Nat) (ts : Tx) (i : Nat) : Prop where
  at_ : ∃ (f0 : Value) (fb : Bool), ZAt h b ts f0 (.bool fb) i ∧ (f0 = .none ∨ ∃ T : Nat, f0 = rawInt T)
  own : ∃ l : List Value, h.get? (b + ts.length + 1) = some (tupO l) ∧ l.length = ts.length
/-- what a turn hands on -/
def Nxt (hp : Heap) (g : Array GenState) (d : Drawn) (os : OsState) (b : Nat) (ts : Tx) (i : Nat) (Q : Value → Shared → Prop) : Prop :=
  ∀ (us : List Value) (h' : Heap) (tk' : Nat), ColAt ts i us → Bet h' b ts (i + 1) → h'.get? hp.objs.size = some (tupO us) →
    (∀ (c : Nat) (o : Obj), (c < b ∨ b + (ts.length + 2) < c) → hp.get? c = some o → h'.get? c = some o) → Q (.ref hp.objs.size) ⟨h', g, d, tk', os⟩
theorem is_free {s : Shared} {b : Nat} {ts : Tx} {i : Nat} {f0 : Value} {fb : Bool} {Q : Bool → Shared → Prop} (Z : ZAt s.heap b ts f0 (.bool fb) i) (hf : f0 = .none ∨ ∃ T : Nat, f0 = rawInt T)
    (h1 : Q true s) (h2 : ∀ (h' : Heap), Heap.SameBut (b + ts.length + 2) s.heap h' → h'.get? (b + ts.length + 2) = some (zipO f0 (.bool true) (b + ts.length) (b + ts.length + 1)) → Q false { s with heap := h' }) :
    wpAny (model prog w) A (Builtin.SmallTypes.ownedTupleIsFree (.ref (b + ts.length + 2))) Q E s := by
  unfold Builtin.SmallTypes.ownedTupleIsFree
  refine wpAny_bind (wpAny_field Z.zip rfl (x := f0) rfl ?_)
  rcases hf with rfl | ⟨T, rfl⟩
  · exact wpAny_pure h1
  · show wpAny _ _ (loadIfAlive ((T : Int).toNat) >>= _) _ _ _
    rw [Int.toNat_natCast]
    refine wpAny_bind (alive_any ?_)
    cases hT : s.heap.get? T with
    | none => exact wpAny_pure h1
    | some o =>
      simp only [Option.isNone_some, Bool.false_eq_true, if_false]
      refine wpAny_bind (wpAny_field Z.zip rfl (x := .bool fb) rfl ?_)
      cases fb with
      | true => exact wpAny_pure (h2 s.heap (Heap.SameBut.refl _ _) Z.zip)
      | false => exact wpAny_bind (wpAny_setField_rec Z.zip (by simp) fun h' hz hs => wpAny_pure (h2 h' hs hz))
/-- a turn -/
theorem next_item {hp : Heap} {g : Array GenState} {d : Drawn} {tk : Nat} {os : OsState} {b : Nat} {ts : Tx} {i : Nat} {Q : Value → Shared → Prop} (hh : A.handled = none) (B : Bet hp b ts i) (h1 : 0 < ts.length) (h8 : ts.length ≤ 8)
    (hi : ∀ (k : Nat) (v : Str × Tok), ts[k]? = some v → i < v.1.cps.size) (hQ : Nxt hp g d os b ts i Q) :
    wpAny (model prog w) A (Builtin.«zip.__next__» ⟨[.ref (b + ts.length + 2)], []⟩) (fun fin s' => ∃ v, fin = .done (.ret v) ∧ Q v s') E ⟨hp, g, d, tk, os⟩ := by
  obtain ⟨⟨f0, fb, Z, hf⟩, l, hT, hl⟩ := B
  show wpAny _ _ (field (.ref _) 2 >>= _) _ _ _
  refine wpAny_bind (wpAny_field Z.zip rfl (x := .bool false) rfl ?_)
  show wpAny _ _ (field (.ref _) 3 >>= _) _ _ _
  refine wpAny_bind (wpAny_field Z.zip rfl (x := .ref (b + ts.length)) rfl ?_)
  refine wpAny_bind (wpAny_seqItems Z.its rfl ?_)
  dsimp only
  rw [if_neg (by rw [refs_ne h1]; exact Bool.false_ne_true)]
  refine wpAny_bind (is_free Z hf ?_ fun hA hs0 hz0 => ?_)
  · rw [if_pos rfl]
    refine wpAny_bind (wpAny_rule ?_)
    refine wpAny_bind (wpAny_field Z.zip rfl (x := .ref (b + ts.length + 1)) rfl ?_)
    refine wpAny_bind (wpAny_setField_rec Z.zip (by simp) fun g0 hz0 hs0 => ?_)
    replace hs0 : Heap.SameBut (b + ts.length + 2) hp g0 := hs0
    have M0 : Mid hp b ts .ellipsis i 0 g0 := Mid.start Z hs0 ⟨_, hz0⟩
    have hT0 : g0.get? (b + ts.length + 1) = some (tupO l) := (hs0.2 (b + ts.length + 1) (nn (by omega))).trans hT
    refine wpAny_bind (loop_inv (I := fun k y s => y = (none, ()) ∧ (∃ (h : Heap) (tk' : Nat) (us : List Value), s = ⟨h, g, d, tk', os⟩ ∧ Mid hp b ts .ellipsis i k h ∧ h.get? (b + ts.length + 1) = some (tupO us) ∧ us.length = ts.length ∧
        ∀ (j : Nat) (v : Str × Tok), j < k → ts[j]? = some v → ∃ (c : Nat) (u : Tok), v.1.cps[i]? = some c ∧ us[j]? = some (Value.str ⟨#[c]⟩ u))) _ 0 _ _ ⟨rfl, g0, tk, l, rfl, M0, hT0, hl, fun j v hj => absurd hj (Nat.not_lt_zero _)⟩ ?_ ?_)
    · rintro k ⟨x, k'⟩ y s hk ⟨rfl, h, tk', us, rfl, M, hU, hul, hgot⟩
      simp only [Nat.zero_add] at M hgot ⊢
      rw [List.getElem?_zipIdx] at hk
      cases hx : (refs b ts.length)[k]? with
      | none => simp [hx] at hk
      | some x' =>
        simp [hx] at hk
        obtain ⟨e1, e2⟩ := hk
        obtain ⟨hkl, ex⟩ := refs_get hx
        subst e1
        subst ex
        subst e2
        have hv : ts[k]? = some ts[k] := List.getElem?_eq_getElem hkl
        refine wpAny_bind (wpAny_onRaise ?_)
        show wpAny _ _ (Builtin.SmallTypes.nextOf (.ref (b + k)) >>= _) _ _ ⟨h, g, d, tk', os⟩
        refine wpAny_bind (draw_ok hh M hv (hi k _ hv) fun c u h' tk2 hc M' sb => wpAny_pure ?_)
        have hU' : h'.get? (b + ts.length + 1) = some (tupO us) := (sb.2 (b + ts.length + 1) (nn (by omega))).trans hU
        refine wpAny_bind (wpAny_seqItems (s := ⟨h', g, d, tk2, os⟩) hU' rfl ?_)
        refine wpAny_bind (wpAny_updateSeq (s := ⟨h', g, d, tk2, os⟩) hU' rfl ?_)
        refine wpAny_bind (wpAny_letGo (wpAny_pure ⟨_, rfl, rfl, _, _, us.set k (.str ⟨#[c]⟩ u), rfl, M'.other (Heap.SameBut.update ..), ?_, ?_, ?_⟩))
        · rw [Heap.get?_update_self _ hU' rfl]
          simp [Obj.mapSeq]
        · rw [List.length_set]
          exact hul
        · intro j v hj hjv
          by_cases hjk : j = k
          · subst hjk
            rw [hv] at hjv
            cases hjv
            exact ⟨c, u, hc, List.getElem?_set_self (by rw [hul]; exact hkl)⟩
          · obtain ⟨c', u', e1, e2⟩ := hgot j v (by omega) hjv
            exact ⟨c', u', e1, by rw [List.getElem?_set_ne (fun e => hjk e.symm)]; exact e2⟩
    · rintro y s ⟨rfl, h, tk', us, rfl, M, hU, hul, hgot⟩
      have el : 0 + (refs b ts.length).toArray.toList.zipIdx.length = ts.length := by
        simp [refs_length]
      rw [el] at M hgot
      refine wpAny_bind (wpAny_seqItems (s := ⟨h, g, d, tk', os⟩) hU rfl ?_)
      refine wpAny_bind (wpAny_newTuple ?_ (by simp; rw [hul]; exact Nat.le_trans h8 (by decide)))
      obtain ⟨f1, Z1⟩ := M.fin
      have hsz : h.objs.size = hp.objs.size := M.out.1
      have hz1 : (h.push (tupO us)).get? (b + ts.length + 2) = some (zipO .ellipsis f1 (b + ts.length) (b + ts.length + 1)) := Heap.get?_push_of_some _ Z1.zip
      have hzl : b + ts.length + 2 < h.objs.size := Heap.lt_size Z1.zip
      show wpAny _ _ (Builtin.SmallTypes.ownedTupleHandOut (.ref _) (.ref h.objs.size) >>= _) _ _ ⟨h.push (tupO us), g, d, tk', os⟩
      refine wpAny_bind ?_
      unfold Builtin.SmallTypes.ownedTupleHandOut
      refine wpAny_bind (wpAny_setField_rec hz1 (by simp) fun h7 hz7 hs7 => ?_)
      replace hz7 : h7.get? (b + ts.length + 2) = some (zipO (rawInt h.objs.size) f1 (b + ts.length) (b + ts.length + 1)) := hz7
      replace hs7 : Heap.SameBut (b + ts.length + 2) (h.push (tupO us)) h7 := hs7
      refine wpAny_setField_rec hz7 (by simp) fun h8' hz8 hs8 => ?_
      replace hz8 : h8'.get? (b + ts.length + 2) = some (zipO (rawInt h.objs.size) (.bool false) (b + ts.length) (b + ts.length + 1)) := hz8
      replace hs8 : Heap.SameBut (b + ts.length + 2) h7 h8' := hs8
      have up : ∀ (c : Nat) (o : Obj), c ≠ b + ts.length + 2 → h.get? c = some o → h8'.get? c = some o := fun c o hc e => (hs8.2 c hc).trans ((hs7.2 c hc).trans (Heap.get?_push_of_some _ e))
      refine wpAny_pure ⟨_, rfl, ?_⟩
      rw [hsz] at hz8 ⊢
      refine hQ us h8' tk' ⟨hul, fun k v hk => hgot k v (List.getElem?_eq_some_iff.mp hk).1 hk⟩ ⟨⟨_, false, ⟨hz8, up _ _ (nn (by omega)) Z1.its, fun k v hk => ?_⟩, .inr ⟨_, rfl⟩⟩, _, up _ _ (nn (by omega)) hU, hul⟩ ?_ fun c o hc e => ?_
      · have hkl : k < ts.length := (List.getElem?_eq_some_iff.mp hk).1
        obtain ⟨o, ho, r⟩ := Z1.txt k v hk
        exact ⟨o, up _ _ (nn (x := b + k) (y := b + ts.length + 2) (by omega)) ho, r⟩
      · rw [← hsz]
        exact (hs8.2 h.objs.size (nn (by omega))).trans ((hs7.2 h.objs.size (nn (by omega))).trans (Heap.get?_push_size _ rfl))
      · exact up c o (nn (by omega)) (M.out.2 c o hc e)
  · rw [if_neg Bool.false_ne_true]
    have M0 : Mid hp b ts f0 i 0 hA := Mid.start Z hs0 ⟨_, hz0⟩
    have hT0 : hA.get? (b + ts.length + 1) = some (tupO l) := (hs0.2 (b + ts.length + 1) (nn (by omega))).trans hT
    have hz0' : hA.get? (b + ts.length + 2) = some (zipO f0 (.bool true) (b + ts.length) (b + ts.length + 1)) := hz0
    dsimp only
    rw [List.forIn_toArray]
    refine wpAny_bind (loop_inv (I := fun k y s => ∃ (h : Heap) (tk' : Nat) (us : List Value), y = (none, us.toArray) ∧ s = ⟨h, g, d, tk', os⟩ ∧ Mid hp b ts f0 i k h ∧ h.get? (b + ts.length + 2) = some (zipO f0 (.bool true) (b + ts.length) (b + ts.length + 1)) ∧
        h.get? (b + ts.length + 1) = some (tupO l) ∧ us.length = k ∧
        ∀ (j : Nat) (v : Str × Tok), j < k → ts[j]? = some v → ∃ (c : Nat) (u : Tok), v.1.cps[i]? = some c ∧ us[j]? = some (Value.str ⟨#[c]⟩ u)) _ 0 _ _ ⟨hA, tk, [], rfl, rfl, M0, hz0', hT0, rfl, fun j v hj => absurd hj (Nat.not_lt_zero _)⟩ ?_ ?_)
    · rintro k x y s hk ⟨h, tk', us, rfl, rfl, M, hz, hU, hul, hgot⟩
      simp only [Nat.zero_add] at M hgot hul ⊢
      obtain ⟨hkl, ex⟩ := refs_get hk
      subst ex
      have hv : ts[k]? = some ts[k] := List.getElem?_eq_getElem hkl
      refine wpAny_bind (wpAny_holding ?_)
      show wpAny _ _ (Builtin.SmallTypes.nextOf (.ref (b + k)) >>= _) _ _ ⟨h, g, d, tk', os⟩
      refine wpAny_bind (draw_ok hh M hv (hi k _ hv) fun c u h' tk2 hc M' sb => wpAny_pure ?_)
      refine wpAny_pure ⟨_, rfl, h', tk2, us ++ [.str ⟨#[c]⟩ u], by simp, rfl, M', (sb.2 (b + ts.length + 2) (nn (by omega))).trans hz, (sb.2 (b + ts.length + 1) (nn (by omega))).trans hU, by rw [List.length_append, hul]; rfl, fun j v hj hjv => ?_⟩
      by_cases hjk : j = k
      · subst hjk
        rw [hv] at hjv
        cases hjv
        exact ⟨c, u, hc, by rw [List.getElem?_append_right (by omega), hul]; simp⟩
      · obtain ⟨c', u', e1, e2⟩ := hgot j v (by omega) hjv
        exact ⟨c', u', e1, by rw [List.getElem?_append_left (by omega)]; exact e2⟩
    · rintro y s ⟨h, tk', us, rfl, rfl, M, hz, hU, hul, hgot⟩
      have el : 0 + (refs b ts.length).length = ts.length := by
        simp [refs_length]
      rw [el] at M hgot hul
      refine wpAny_bind (wpAny_newTuple (wpAny_pure ⟨_, rfl, ?_⟩) (by simp; rw [hul]; exact Nat.le_trans h8 (by decide)))
      obtain ⟨f1, Z1⟩ := M.fin
      have hsz : h.objs.size = hp.objs.size := M.out.1
      have hzl : b + ts.length + 2 < h.objs.size := Heap.lt_size Z1.zip
      have up : ∀ (c : Nat) (o : Obj), h.get? c = some o → (h.push (tupO us)).get? c = some o := fun c o e => Heap.get?_push_of_some _ e
      show Q (.ref h.objs.size) ⟨h.push (tupO us), g, d, tk', os⟩
      have hnew : (h.push (tupO us)).get? h.objs.size = some (tupO us) := Heap.get?_push_size _ rfl
      rw [hsz] at hnew ⊢
      refine hQ us _ tk' ⟨hul, fun k v hk => hgot k v (List.getElem?_eq_some_iff.mp hk).1 hk⟩ ⟨⟨_, true, ⟨up _ _ hz, up _ _ Z1.its, fun k v hk => ?_⟩, hf⟩, _, up _ _ hU, hl⟩ hnew fun c o hc e => up c o (M.out.2 c o hc e)
      obtain ⟨o, ho, r⟩ := Z1.txt k v hk
      exact ⟨o, up _ _ ho, r⟩
end
end TH
end
section
set_option Elab.async false
set_option maxRecDepth 100000
set_option maxHeartbeats 4000000
namespace TH
open PySem PySem.Spec PyProof.Rows L2
section
variable {prog : Program} {w : World} {A : Around} {E : Value → Shared → Prop}
theorem loop_first {α β : Type} {f : α → β → Sem (ForInStep β)} {Q : β → Shared → Prop} {x : α} {r : List α} {y : β} {s : Shared} (h : wpAny (model prog w) A (f x y) (fun _ _ => False) E s) : wpAny (model prog w) A (forIn (x :: r) y f) Q E s := by
  rw [List.forIn_cons]
  exact wpAny_bind (wpAny_mono h (fun _ _ z => z.elim) fun _ _ z => z)
/-- the first iterator is at its end -/
theorem draw_end {s : Shared} {a : Addr} {v : Str × Tok} {Q : Value → Shared → Prop} (hh : A.handled = none) (st : s.heap.IsStrIter a (strIterType v.1) v.1 v.2 v.1.cps.size)
    (hE : ∀ (h' : Heap) (e : Addr), Heap.ExtBut a s.heap h' → (∃ o, h'.get? e = some o ∧ o.cls = .type "StopIteration") → E (.ref e) { s with heap := h' }) : wpAny (model prog w) A (Builtin.SmallTypes.nextOf (.ref a)) Q E s :=
  (Draws.text (prog := prog) (w := w) hh a v.1 v.2).done s _ _ st hE
theorem next_end {hp : Heap} {g : Array GenState} {d : Drawn} {tk : Nat} {os : OsState} {b : Nat} {v : Str × Tok} {ts : Tx} {Q : Fin → Shared → Prop} (hh : A.handled = none) (B : Bet hp b (v :: ts) v.1.cps.size)
    (hE : ∀ (h' : Heap) (e : Addr), (∀ (c : Nat) (o : Obj), (c < b ∨ b + ((v :: ts).length + 2) < c) → hp.get? c = some o → h'.get? c = some o) → (∃ o, h'.get? e = some o ∧ o.cls = .type "StopIteration") → E (.ref e) ⟨h', g, d, tk, os⟩) :
    wpAny (model prog w) A (Builtin.«zip.__next__» ⟨[.ref (b + (v :: ts).length + 2)], []⟩) Q E ⟨hp, g, d, tk, os⟩ := by
  obtain ⟨⟨f0, fb, Z, hf⟩, l, hT, hl⟩ := B
  show wpAny _ _ (field (.ref _) 2 >>= _) _ _ _
  refine wpAny_bind (wpAny_field Z.zip rfl (x := .bool false) rfl ?_)
  show wpAny _ _ (field (.ref _) 3 >>= _) _ _ _
  refine wpAny_bind (wpAny_field Z.zip rfl (x := .ref (b + (v :: ts).length)) rfl ?_)
  refine wpAny_bind (wpAny_seqItems Z.its rfl ?_)
  dsimp only
  rw [if_neg (by rw [refs_ne (by simp)]; exact Bool.false_ne_true)]
  refine wpAny_bind (is_free Z hf ?_ fun hA hs0 hz0 => ?_)
  · rw [if_pos rfl]
    refine wpAny_bind (wpAny_rule ?_)
    refine wpAny_bind (wpAny_field Z.zip rfl (x := .ref (b + (v :: ts).length + 1)) rfl ?_)
    refine wpAny_bind (wpAny_setField_rec Z.zip (by simp) fun g0 hz0 hs0 => ?_)
    replace hs0 : Heap.SameBut (b + (v :: ts).length + 2) hp g0 := hs0
    have st := strIter_other (Z.txt 0 v rfl) hs0 (nn (x := b + 0) (y := b + (v :: ts).length + 2) (by omega))
    refine wpAny_bind ?_
    show wpAny _ _ (forIn ((Value.ref b, 0) :: (refs (b + 1) ts.length).zipIdx 1) _ _) _ _ _
    refine loop_first (wpAny_bind (wpAny_onRaise ?_))
    show wpAny _ _ (Builtin.SmallTypes.nextOf (.ref (b + 0)) >>= _) _ _ ⟨g0, g, d, tk, os⟩
    refine wpAny_bind (draw_end hh st fun q e hq he => ?_)
    replace hq : Heap.ExtBut (b + 0) g0 q := hq
    obtain ⟨oe, hoe, hce⟩ := he
    have hzq : q.get? (b + (v :: ts).length + 2) = some (zipO .ellipsis (.bool fb) (b + (v :: ts).length) (b + (v :: ts).length + 1)) := hq _ _ (nn (x := b + (v :: ts).length + 2) (y := b + 0) (by omega)) hz0
    have hez : e ≠ b + (v :: ts).length + 2 := fun x => by subst x; rw [hzq] at hoe; cases hoe; simp at hce
    refine wpAny_setField_rec (s := ⟨q, g, d, tk, os⟩) hzq (by simp) fun q' _ hq' => ?_
    replace hq' : Heap.SameBut (b + (v :: ts).length + 2) q q' := hq'
    exact hE q' e (fun c o hc x => (hq'.2 c (nn (by omega))).trans (hq _ _ (nn (x := c) (y := b + 0) (by omega)) ((hs0.2 c (nn (by omega))).trans x))) ⟨oe, (hq'.2 e hez).trans hoe, hce⟩
  · rw [if_neg Bool.false_ne_true]
    replace hs0 : Heap.SameBut (b + (v :: ts).length + 2) hp hA := hs0
    have st := strIter_other (Z.txt 0 v rfl) hs0 (nn (x := b + 0) (y := b + (v :: ts).length + 2) (by omega))
    dsimp only
    rw [List.forIn_toArray]
    refine wpAny_bind ?_
    show wpAny _ _ (forIn (Value.ref b :: refs (b + 1) ts.length) _ _) _ _ _
    refine loop_first (wpAny_bind (wpAny_holding ?_))
    show wpAny _ _ (Builtin.SmallTypes.nextOf (.ref (b + 0)) >>= _) _ _ ⟨hA, g, d, tk, os⟩
    refine wpAny_bind (draw_end hh st fun q e hq he => ?_)
    replace hq : Heap.ExtBut (b + 0) hA q := hq
    exact hE q e (fun c o hc x => hq _ _ (nn (x := c) (y := b + 0) (by omega)) ((hs0.2 c (nn (by omega))).trans x)) he
theorem pyNext_item {s : Shared} {b : Nat} {ts : Tx} {i : Nat} {Q : Option Value → Shared → Prop} (hh : A.handled = none) (B : Bet s.heap b ts i) (h1 : 0 < ts.length) (h8 : ts.length ≤ 8)
    (hi : ∀ (k : Nat) (v : Str × Tok), ts[k]? = some v → i < v.1.cps.size) (hQ : Nxt s.heap s.gens s.drawn s.os b ts i (fun v s' => Q (some v) s')) : wpAny (model prog w) A (pyNext (.ref (b + ts.length + 2))) Q E s := by
  obtain ⟨⟨f0, fb, Z, hf⟩, l, hT, hl⟩ := id B
  have hty : s.TypeIs (.ref (b + ts.length + 2)) "zip" := ⟨_, Z.zip, rfl⟩
  unfold pyNext
  refine wpAny_bind (wpAny_attempt (wpAny_callSpecial?_slot (name := Str.ofString "__next__") hty F.slot_zip_next
    (wpAny_call_entry F.slot_zip_next hty F.entry_zip_next (next_item (A := A.in1) hh B h1 h8 hi fun us h' tk' c1 c2 c3 c4 => wpAny_pure (hQ us h' tk' c1 c2 c3 c4)) (F.args_zip_next_1 _))))
theorem pyNext_end {s : Shared} {b : Nat} {v : Str × Tok} {ts : Tx} {Q : Option Value → Shared → Prop} (hh : A.handled = none) (B : Bet s.heap b (v :: ts) v.1.cps.size)
    (hQ : ∀ (h' : Heap), (∀ (c : Nat) (o : Obj), (c < b ∨ b + ((v :: ts).length + 2) < c) → s.heap.get? c = some o → h'.get? c = some o) → Q none { s with heap := h' }) : wpAny (model prog w) A (pyNext (.ref (b + (v :: ts).length + 2))) Q E s := by
  obtain ⟨⟨f0, fb, Z, hf⟩, l, hT, hl⟩ := id B
  have hty : s.TypeIs (.ref (b + (v :: ts).length + 2)) "zip" := ⟨_, Z.zip, rfl⟩
  unfold pyNext
  refine wpAny_bind (wpAny_attempt (wpAny_callSpecial?_slot (name := Str.ofString "__next__") hty F.slot_zip_next
    (wpAny_call_entry F.slot_zip_next hty F.entry_zip_next (next_end (A := A.in1) hh B fun h' e hk he => ?_) (F.args_zip_next_1 _))))
  obtain ⟨o, ho, hc⟩ := he
  refine wpAny_bind (wpAny_isInstance (T := "StopIteration") (b := true) ⟨o, ho, hc⟩ isSubtype_stop ?_)
  exact wpAny_pure (hQ _ hk)
end
end TH
end
section
set_option Elab.async false
set_option maxRecDepth 100000
set_option maxHeartbeats 4000000
namespace TH
open PySem PySem.Spec PyProof.Rows L2
/-- the texts xs, m signs each: at turn i a new tuple of their signs there -/
def Itzs (xs : List Str) (m : Nat) : It :=
  ⟨fun i _ => i < m, fun i H x H' => ∃ (T : Addr) (cs : List Nat), x = .ref T ∧ H T = none ∧ H' = upd H T (.tup (cs.map fun c => V.str ⟨#[c]⟩)) ∧ cs.length = xs.length ∧ ∀ (k : Nat) (y : Str), xs[k]? = some y → ∃ c, y.cps[i]? = some c ∧ cs[k]? = some c, fun i _ => i = m⟩
def Tn (xs : List Str) (b : Nat) (i : Nat) (h : Heap) : Prop := ∃ ts : Tx, ts.map Prod.fst = xs ∧ Bet h b ts i
theorem fp_le {b n c : Nat} (h : c ∈ (List.range (n + 3)).map (b + ·)) : b ≤ c ∧ c ≤ b + n + 2 := by
  obtain ⟨k, hk, rfl⟩ := List.mem_map.mp h
  have := List.mem_range.mp hk
  omega
theorem fp_in {b n c : Nat} (h : b ≤ c ∧ c ≤ b + n + 2) : c ∈ (List.range (n + 3)).map (b + ·) := List.mem_map.mpr ⟨c - b, List.mem_range.mpr (by omega), by omega⟩
theorem Bet.kept {h h' : Heap} {b : Nat} {ts : Tx} {i : Nat} (B : Bet h b ts i) (k : ∀ (c : Nat), b ≤ c ∧ c ≤ b + ts.length + 2 → ∀ o, h.get? c = some o → h'.get? c = some o) : Bet h' b ts i := by
  obtain ⟨⟨f0, fb, Z, hf⟩, l, hT, hl⟩ := B
  refine ⟨⟨f0, fb, ⟨k _ (by omega) _ Z.zip, k _ (by omega) _ Z.its, fun j v hj => ?_⟩, hf⟩, l, k _ (by omega) _ hT, hl⟩
  have hjl : j < ts.length := (List.getElem?_eq_some_iff.mp hj).1
  obtain ⟨o, ho, r⟩ := Z.txt j v hj
  exact ⟨o, k (b + j) (by omega) _ ho, r⟩
theorem Bet.obj {h : Heap} {b : Nat} {ts : Tx} {i : Nat} (B : Bet h b ts i) (c : Nat) (hc : b ≤ c ∧ c ≤ b + ts.length + 2) : ∃ o, h.get? c = some o ∧ ∀ v, o.data ≠ .cell v := by
  obtain ⟨⟨f0, fb, Z, hf⟩, l, hT, hl⟩ := B
  by_cases h1 : c = b + ts.length + 2
  · subst h1
    exact ⟨_, Z.zip, fun v q => nomatch q⟩
  · by_cases h2 : c = b + ts.length + 1
    · subst h2
      exact ⟨_, hT, fun v q => nomatch q⟩
    · by_cases h3 : c = b + ts.length
      · subst h3
        exact ⟨_, Z.its, fun v q => nomatch q⟩
      · have hk : c - b < ts.length := by omega
        obtain ⟨o, ho, _, hd⟩ := Z.txt (c - b) _ (List.getElem?_eq_getElem hk)
        have e : b + (c - b) = c := by omega
        rw [e] at ho
        exact ⟨o, ho, fun v q => by rw [hd] at q; cases q⟩
theorem sgn_vals : ∀ (us : List Value) (cs : List Nat), us.length = cs.length → (∀ (k c : Nat), cs[k]? = some c → ∃ u, us[k]? = some (Value.str ⟨#[c]⟩ u)) → Vals (cs.map fun c => V.str ⟨#[c]⟩) us
  | [], [], _, _ => .nil
  | [], _ :: _, e, _ => by simp at e
  | _ :: _, [], e, _ => by simp at e
  | x :: us, c :: cs, e, h => by
    obtain ⟨u, hu⟩ := h 0 c rfl
    have hx : x = Value.str ⟨#[c]⟩ u := by simpa using hu
    refine .cons ⟨u, hx⟩ (sgn_vals us cs (by simpa using e) fun k c' hk => ?_)
    simpa using h (k + 1) c' (by simpa using hk)
/-- the signs that a column holds -/
theorem col_signs : ∀ (ts : Tx) (i : Nat) (us : List Value), ColAt ts i us → ∃ cs : List Nat, us.length = cs.length ∧ (∀ (k c : Nat), cs[k]? = some c → ∃ u, us[k]? = some (Value.str ⟨#[c]⟩ u)) ∧ cs.length = ts.length ∧ ∀ (k : Nat) (v : Str × Tok), ts[k]? = some v → ∃ c, v.1.cps[i]? = some c ∧ cs[k]? = some c
  | [], i, us, ⟨h1, h2⟩ => ⟨[], h1, fun k c hk => by simp at hk, rfl, fun k v hk => by simp at hk⟩
  | v :: ts, i, [], ⟨h1, h2⟩ => by simp at h1
  | v :: ts, i, x :: us, ⟨h1, h2⟩ => by
    obtain ⟨c, u, hc, hx⟩ := h2 0 v rfl
    obtain ⟨cs, e1, e2, e3, e4⟩ := col_signs ts i us ⟨by simpa using h1, fun k w hk => by simpa using h2 (k + 1) w (by simpa using hk)⟩
    refine ⟨c :: cs, by simp [e1], fun k c' hk => ?_, by simp [e3], fun k w hk => ?_⟩
    · cases k with
      | zero =>
        have : c = c' := by simpa using hk
        subst this
        exact ⟨u, by simpa using hx⟩
      | succ k => simpa using e2 k c' (by simpa using hk)
    · cases k with
      | zero =>
        have : v = w := by simpa using hk
        subst this
        exact ⟨c, hc, rfl⟩
      | succ k => simpa using e4 k w (by simpa using hk)
theorem self_zip {prog : Program} {w : World} {A : Around} {E : Value → Shared → Prop} {s : Shared} {z TI TO : Addr} {f0 f1 : Value} {Q : Value → Shared → Prop} (hz : s.heap.get? z = some (zipO f0 f1 TI TO)) (h : Q (.ref z) s) : wpAny (model prog w) A (pyIter (.ref z)) Q E s := by
  have ty : s.TypeIs (.ref z) "zip" := ⟨_, hz, rfl⟩
  refine wpAny_pyIter_slot ty F.slot_zip_iter (wpAny_call_entry F.slot_zip_iter ty F.entry_zip_iter (show wpAny _ _ (ret (.ref z)) _ _ s from ?_) (F.args_zip_iter_1 _))
  exact wpAny_pure ⟨_, rfl, "zip", _, ty, F.slot_zip_next.lookup, h⟩
theorem turn_zips {P : Program} {w : World} {K : PySem.W.Frag} {nm : Str} {np : Pos} {xs : List Str} {m b : Nat} (h1 : 0 < xs.length) (h8 : xs.length ≤ 8) (hm : ∀ x ∈ xs, x.cps.size = m) :
    Turn P w K (.Name nm np) (Itzs xs m) ((List.range (xs.length + 3)).map (b + ·)) (b + xs.length + 2) (Tn xs b) where
  mem := fp_in (by omega)
  obj := fun i h st c hc => by
    obtain ⟨ts, rfl, B⟩ := st
    have q := fp_le hc
    rw [List.length_map] at q
    exact B.obj c q
  keep := fun i h h' st k => by
    obtain ⟨ts, rfl, B⟩ := st
    refine ⟨ts, rfl, B.kept fun c hc o e => k c (fp_in ?_) o e⟩
    rw [List.length_map]
    exact hc
  item := by
    intro X hP hw hK hc i pins s σ H E I hf st hg
    subst hP hw hK
    obtain ⟨ts, rfl, B⟩ := st
    rw [List.length_map] at h1 h8 hf ⊢
    have hin : ∀ (c : Nat), b ≤ c ∧ c ≤ b + ts.length + 2 → c ∈ (List.range (ts.length + 3)).map (b + ·) := fun c q => fp_in q
    refine pyNext_item (I.ok.hd hc) B h1 h8 (fun k v hk => ?_) fun us h' tk' cu B' hT kp => ?_
    · rw [hm v.1 (List.mem_map.mpr ⟨v, List.mem_of_getElem? hk, rfl⟩)]
      exact hg
    · obtain ⟨cs, e1, e2, e3, e4⟩ := col_signs ts i us cu
      refine ⟨_, rfl, wpAny_pure ?_⟩
      have hlen : cs.length ≤ sizeLine := Nat.le_trans (by rw [e3]; exact h8) (by decide)
      have new : ObjOk X.prog X.w (upd H s.heap.objs.size (.tup (cs.map fun c => V.str ⟨#[c]⟩))) h' s.heap.objs.size (.tup (cs.map fun c => V.str ⟨#[c]⟩)) :=
        ⟨by rw [List.length_map]; exact hlen, us, sgn_vals us cs e1 e2, ⟨_, hT, rfl, _, rfl⟩⟩
      have I1 : Inv X pins σ (upd H s.heap.objs.size (.tup (cs.map fun c => V.str ⟨#[c]⟩))) { s with heap := h', toks := tk' } :=
        I.turnedNew (t' := tk') (ch := (List.range (ts.length + 3)).map (b + ·)) (fun c o hc q => kp c o (Classical.byContradiction fun z => hc (hin c (by omega))) q) hf (Nat.le_refl _) new
      refine ⟨.ref s.heap.objs.size, _, I1, rfl, ⟨_, cs, rfl, I.hok.fresh (Nat.le_refl _), rfl, by rw [List.length_map]; exact e3, fun k y hk => ?_⟩, ⟨ts, rfl, B'⟩, fun c hcm => ?_⟩
      · rw [List.getElem?_map] at hk
        cases hv : ts[k]? with
        | none => simp [hv] at hk
        | some v =>
          simp [hv] at hk
          subst hk
          exact e4 k v hv
      · obtain ⟨o, ho, _⟩ := B.obj c (fp_le hcm)
        rw [upd_ne (Nat.ne_of_lt (Heap.lt_size ho))]
        exact (hf c hcm).1
  done := by
    intro X hP hw hK hc i pins s σ H E I hf st hg
    subst hP hw hK
    obtain ⟨ts, rfl, B⟩ := st
    cases ts with
    | nil => exact absurd h1 (by simp)
    | cons v ts =>
      have hv : v.1.cps.size = m := hm v.1 (by simp)
      have hi : i = v.1.cps.size := by rw [hv]; exact hg
      subst hi
      rw [List.length_map] at hf ⊢
      refine pyNext_end (I.ok.hd hc) B fun h' kp => ⟨rfl, I.turnedL (t' := s.toks) (ch := (List.range ((v :: ts).length + 3)).map (b + ·)) (fun c o hc q => kp c o (Classical.byContradiction fun z => hc (fp_in (by omega))) q) hf⟩
  self := fun A i s Q E st h => by
    obtain ⟨ts, rfl, ⟨f0, fb, Z, hf⟩, l, hT, hl⟩ := st
    rw [List.length_map] at h ⊢
    exact self_zip Z.zip h
/-- zip(*e), e a tuple or a list of texts of one length -/
def iZips (K : PySem.W.Frag) (te : TE) : TI := fun σ H R => te σ H fun y H1 => ∃ (a : Addr) (xs : List Str) (m : Nat), y = .ref a ∧ (SqT K H1 a (xs.map V.str) ∨ SqL K H1 a (xs.map V.str)) ∧ 0 < xs.length ∧ xs.length ≤ 8 ∧ (∀ x ∈ xs, x.cps.size = m) ∧ R (Itzs xs m) H1
theorem tx_of : ∀ (xs : List Str) (us : List Value), Vals (xs.map V.str) us → ∃ ts : Tx, us = txv ts ∧ ts.map Prod.fst = xs
  | [], us, h => by cases h; exact ⟨[], rfl, rfl⟩
  | x :: xs, us, h => by
    cases h with
    | @cons _ u _ ur ru rr =>
      obtain ⟨t, rfl⟩ := ru
      obtain ⟨ts, rfl, e⟩ := tx_of xs ur rr
      exact ⟨(x, t) :: ts, rfl, by rw [List.map_cons, e]⟩
theorem pi_zips {X : Cx} {nm : Str} {np : Pos} {e : Expr} {te : TE} {p sp pos : Pos} (hg : Gl X "zip") (hm : X.mg "zip" = none) (he : PE X e te) (hst : starEach [.Starred e sp] X.env = [(true, eval e X.env)] := by rfl) :
    PI X (.Name nm np) (.Call (.Name "zip" p) [.Starred e sp] [] pos) (iZips X.K te) := by
  refine ⟨fun pins s σ H R I h => ?_⟩
  refine wpAny_Call_Name_kw (ld_blt I hg hm PyProof.Rows.boot_zip ?_)
  rw [hst]
  refine PySem.W.ks_call (P := fun _ => True) rfl (fun hp _ => ⟨Keeper.machine, .inr (.inl rfl), PySem.W.Looks.of_pure rfl⟩) (PySem.W.ks_lone (thn (he.run pins s σ H _ I h) fun v s1 ⟨y, H1, I1, ry, a, xs, m, ey, hx, h1, h8, hm', q⟩ => ?_))
  subst ey
  obtain rfl : v = Value.ref a := ry
  refine StX.star_any I1 hx fun us s2 I2 rv => ⟨trivial, ?_⟩
  obtain ⟨ts, rfl, ex⟩ := tx_of xs us rv
  have hl : ts.length = xs.length := by rw [← ex, List.length_map]
  refine call_zip ts (by rw [hl]; exact h8) ?_
  have old : ∀ c o, s2.heap.get? c = some o → (zheap s2.heap ts).get? c = some o := fun c o e => zheap_old e
  have I3 : Inv X pins σ H1 { s2 with heap := zheap s2.heap ts } := I2.kept (t' := s2.toks) old
  obtain ⟨Z, l, hl2, hT⟩ := zheap_at s2.heap ts
  refine self_zip Z.zip ?_
  refine ⟨s2.heap.objs.size + ts.length + 2, (List.range (xs.length + 3)).map (s2.heap.objs.size + ·), Tn xs s2.heap.objs.size, Itzs xs m, H1, rfl, I3, ?_, ⟨ts, ex, ⟨⟨_, false, Z, .inl rfl⟩, l, hT, hl2⟩⟩, fun c hc => ?_, q⟩
  · rw [hl]
    exact turn_zips h1 h8 hm'
  · have hle := (fp_le hc).1
    exact I2.fpOk hle (I2.hok.fresh hle)
end TH
end
section
set_option Elab.async false
set_option maxRecDepth 100000
set_option maxHeartbeats 4000000
set_option linter.all false
namespace TH
open PySem PySem.Spec PyProof.Rows L2
theorem meets_enum_any {v : Value} {o : Obj} {H : Heap → Prop} (B : Begins v o H) :
    Meets (Builtin.«enumerate.__new__» ⟨[.type "enumerate", v], []⟩) (fun _ R s => H s.heap ∧
      R (.ok (.ret (.ref (s.heap.push o).objs.size))) { s with heap := (s.heap.push o).push { cls := .type "enumerate", data := .fields #[.none, .bool false, .ref s.heap.objs.size, rawInt 0, .none, .none] } }) :=
  .of_wp fun prog w A R s hR => by
    obtain ⟨hp, g, d, tk, os⟩ := s
    obtain ⟨hH, hR⟩ := hR
    have hsub := sub_enumerate
    have it1 : ∀ {A' : Around} {E : Value → Shared → Prop} {Q : Value → Shared → Prop}, Q (.ref hp.objs.size) ⟨hp.push o, g, d, tk, os⟩ → wpAny (model prog w) A' (pyIter v) Q E ⟨hp, g, d, tk, os⟩ :=
      fun q => B.iter prog w _ _ ⟨hp, g, d, tk, os⟩ _ hH q
    wp_walk using it1
    refine wpAny_stack_any fun st => wpAny_pure ?_
    split
    · rename_i c _ _ _ _ _
      cases (c == Value.type "enumerate")
      all_goals
        wp_walk using it1
        exact ⟨_, rfl, hR⟩
    · wp_walk using it1
      exact ⟨_, rfl, hR⟩
theorem enum_any {prog : Program} {w : World} {A : Around} {E : Value → Shared → Prop} {s : Shared} {v : Value} {o : Obj} {H : Heap → Prop} {Q : Value → Shared → Prop} (B : Begins v o H) (hH : H s.heap)
    (h : ∀ h', IsEnum h' (s.heap.objs.size + 1) s.heap.objs.size 0 .none → h'.get? s.heap.objs.size = some o → (∀ b o, s.heap.get? b = some o → h'.get? b = some o) → Q (.ref (s.heap.objs.size + 1)) { s with heap := h' }) :
    wpAny (model prog w) A (call (.type "enumerate") [v]) Q E s := by
  refine callType_new F.called_enumerate (by decide) (F.typeCall_enumerate_1 _) (F.newCall_enumerate_1 _) (fun obj => F.args_object_init_2 obj _) F.entry_enumerate_new (meets_enum_any B) ⟨hH, ?_⟩
  have sz : (s.heap.push o).objs.size = s.heap.objs.size + 1 := Heap.size_push ..
  have at1 := Heap.get?_push_size (s.heap.push o) (o := { cls := .type "enumerate", data := .fields #[.none, .bool false, .ref s.heap.objs.size, rawInt 0, .none, .none] }) rfl
  rw [sz] at at1
  show _ ∧ _
  rw [sz]
  exact ⟨⟨_, at1, rfl⟩, h _ at1 (Heap.get?_push_of_some _ (Heap.get?_push_size _ B.free)) fun b o x => Heap.get?_push_of_some _ (Heap.get?_push_of_some _ x)⟩

/-- the signs of a text with their places -/
def Ites (x : Str) : It := ⟨fun i _ => i < x.cps.size, fun i H v H' => ∃ (T : Addr) (c : Nat), v = .ref T ∧ H T = none ∧ H' = upd H T (.tup [.int (i : Nat), .str ⟨#[c]⟩]) ∧ x.cps[i]? = some c, fun i _ => i = x.cps.size⟩
/-- the items of the tuple at a with their places -/
def Itet (K : PySem.W.Frag) (a : Addr) : It :=
  ⟨fun i H => ∃ xs y, SqT K H a xs ∧ xs[i]? = some y, fun i H v H' => ∃ (T : Addr) (y : V), v = .ref T ∧ H T = none ∧ H' = upd H T (.tup [.int (i : Nat), y]) ∧ ∀ xs, SqT K H a xs → xs[i]? = some y, fun i H => ∃ xs, SqT K H a xs ∧ i = xs.length⟩
section
variable {P : Program} {w : World} {K : PySem.W.Frag} {elts : List Expr} {kk : Nat} {tpos : Pos}
theorem turn_enums {x : Str} {t : Tok} (e it : Addr) (hne : e ≠ it) :
    Turn P w K (.Tuple elts kk tpos) (Ites x) [e, it] e (fun i h => (∃ old, IsEnum h e it ((i : Nat) : Int) old) ∧ h.IsStrIter it (strIterType x) x t i) where
  mem := by simp
  obj := fun i h st b hb => by
    obtain ⟨⟨old, he⟩, ⟨o, ho, hc, hd⟩⟩ := st
    rcases (show b = e ∨ b = it by simpa using hb) with z | z
    · rw [z]
      exact ⟨_, he, fun v q => nomatch q⟩
    · rw [z]
      exact ⟨o, ho, fun v q => by rw [hd] at q; cases q⟩
  keep := fun i h h' st k => by
    obtain ⟨⟨old, he⟩, ⟨o, ho, r⟩⟩ := st
    exact ⟨⟨old, k e (by simp) _ he⟩, ⟨o, k it (by simp) _ ho, r⟩⟩
  item := by
    intro X hP hw hK hc i pins s σ H E I hf st hg
    subst hP hw hK
    obtain ⟨⟨old, he⟩, hit⟩ := st
    have hel : e < s.heap.objs.size := Heap.lt_size he
    have hil : it < s.heap.objs.size := by obtain ⟨_, q, _⟩ := hit; exact Heap.lt_size q
    refine wpAny_pyNext_enum_itemD (Draws.text (A := X.A.in1) (I.ok.hd hc) it x t) he hit hg hne (by simpa using hne) fun y h' tk hy ho hit' hT hsz hk => ?_
    obtain ⟨c, u, hcx, rfl⟩ := hy
    refine ⟨_, rfl, wpAny_letOwnedTupleGo_enum (s := { s with heap := h', toks := tk + 1 }) ho fun h'' he' sb => ?_⟩
    have hT2 : h''.get? s.heap.objs.size = some { cls := .type "tuple", data := .seq #[.int i tk, .str ⟨#[c]⟩ u] } := (sb.2 _ (Nat.ne_of_gt hel)).trans hT
    have new : ObjOk X.prog X.w (upd H s.heap.objs.size (.tup [.int (i : Nat), .str ⟨#[c]⟩])) h'' s.heap.objs.size (.tup [.int (i : Nat), .str ⟨#[c]⟩]) :=
      ⟨by show 2 ≤ sizeLine; decide, [.int i tk, .str ⟨#[c]⟩ u], .cons ⟨_, rfl⟩ (.cons ⟨_, rfl⟩ .nil), ⟨_, hT2, rfl, _, rfl⟩⟩
    have I1 : Inv X pins σ (upd H s.heap.objs.size (.tup [.int (i : Nat), .str ⟨#[c]⟩])) { s with heap := h'', toks := tk + 1 } :=
      I.turnedNew (ch := [e, it]) (fun b ob hb q => (sb.2 b (fun z => hb (by simp [z]))).trans (hk b ob (fun z => hb (by simp [z])) (fun z => hb (by simp [z])) q)) hf (Nat.le_refl _) new
    refine ⟨.ref s.heap.objs.size, _, I1, rfl, ⟨_, c, rfl, I.hok.fresh (Nat.le_refl _), rfl, hcx⟩, ⟨⟨Value.str ⟨#[c]⟩ u, ?_⟩, strIter_other hit' sb (Ne.symm hne)⟩, fun b hb => ?_⟩
    · have e1 : ((i + 1 : Nat) : Int) = (i : Int) + 1 := by omega
      rw [e1]
      exact he'
    · have hb' : b < s.heap.objs.size := by
        rcases (show b = e ∨ b = it by simpa using hb) with z | z
        · rw [z]; exact hel
        · rw [z]; exact hil
      rw [upd_ne (Nat.ne_of_lt hb')]
      exact (hf b hb).1
  done := by
    intro X hP hw hK hc i pins s σ H E I hf st hg
    subst hP hw hK
    obtain ⟨⟨old, he⟩, hit⟩ := st
    obtain ⟨f0, f1, f2, f3, f4, f5⟩ := hf it (by simp)
    have hi : i = x.cps.size := hg
    subst hi
    exact wpAny_pyNext_enum_endD (Draws.text (A := X.A.in1) (I.ok.hd hc) it x t) he hit fun h' eb => ⟨rfl, I.turned (t' := s.toks) (fun b o hb q => eb b o hb q) f0 f1 f3 f4 f5⟩
  self := fun A i s Q E st h => by
    obtain ⟨⟨_, he⟩, _⟩ := st
    exact wpAny_pyIter_enum he h
theorem turn_enumt {a : Addr} (e it : Addr) (hne : e ≠ it) (hae : a ≠ e) (hai : a ≠ it) :
    Turn P w K (.Tuple elts kk tpos) (Itet K a) [e, it] e (fun i h => (∃ old, IsEnum h e it ((i : Nat) : Int) old) ∧ h.IsTupleIter it a i) where
  mem := by simp
  obj := fun i h st b hb => by
    obtain ⟨⟨old, he⟩, ⟨o, ho, hc, hd⟩⟩ := st
    rcases (show b = e ∨ b = it by simpa using hb) with z | z
    · rw [z]
      exact ⟨_, he, fun v q => nomatch q⟩
    · rw [z]
      exact ⟨o, ho, fun v q => by rw [hd] at q; cases q⟩
  keep := fun i h h' st k => by
    obtain ⟨⟨old, he⟩, ⟨o, ho, r⟩⟩ := st
    exact ⟨⟨old, k e (by simp) _ he⟩, ⟨o, k it (by simp) _ ho, r⟩⟩
  item := by
    intro X hP hw hK hc i pins s σ H E I hf st hg
    subst hP hw hK
    obtain ⟨⟨old, he⟩, hit⟩ := st
    obtain ⟨xs, y, hq, hx⟩ := hg
    obtain ⟨its, rv, p, hz⟩ := I.tuple hq
    obtain ⟨u, hu, ru⟩ := rv.get hx
    have hel : e < s.heap.objs.size := Heap.lt_size he
    have hil : it < s.heap.objs.size := by obtain ⟨_, q, _⟩ := hit; exact Heap.lt_size q
    have hlt : i < its.toArray.size := by rw [List.size_toArray]; exact (List.getElem?_eq_some_iff.mp hu).1
    refine wpAny_pyNext_enum_itemD (St := fun i h => h.IsTupleIter it a i ∧ h.IsTuple a its.toArray) (Draws.tuple (A := X.A.in1) (I.ok.hd hc) it a hai its.toArray) he ⟨hit, p⟩ hlt hne (by simp [hne, Ne.symm hae]) fun y' h' tk hy ho hit' hT hsz hk => ?_
    have ey : y' = u := by
      have hy' : its.toArray[i]? = some y' := hy
      rw [List.getElem?_toArray, hu] at hy'
      exact (Option.some.inj hy').symm
    subst ey
    refine ⟨_, rfl, wpAny_letOwnedTupleGo_enum (s := { s with heap := h', toks := tk + 1 }) ho fun h'' he' sb => ?_⟩
    have hT2 : h''.get? s.heap.objs.size = some { cls := .type "tuple", data := .seq #[.int i tk, y'] } := (sb.2 _ (Nat.ne_of_gt hel)).trans hT
    have new : ObjOk X.prog X.w (upd H s.heap.objs.size (.tup [.int (i : Nat), y])) h'' s.heap.objs.size (.tup [.int (i : Nat), y]) :=
      ⟨by show 2 ≤ sizeLine; decide, [.int i tk, y'], .cons ⟨_, rfl⟩ (.cons ru .nil), ⟨_, hT2, rfl, _, rfl⟩⟩
    have I1 : Inv X pins σ (upd H s.heap.objs.size (.tup [.int (i : Nat), y])) { s with heap := h'', toks := tk + 1 } :=
      I.turnedNew (ch := [e, it]) (fun b ob hb q => (sb.2 b (fun z => hb (by simp [z]))).trans (hk b ob (fun z => hb (by simp [z])) (fun z => hb (by simp [z])) q)) hf (Nat.le_refl _) new
    refine ⟨.ref s.heap.objs.size, _, I1, rfl, ⟨_, y, rfl, I.hok.fresh (Nat.le_refl _), rfl, fun ys hy => by rw [I.tuple_inj hy hq]; exact hx⟩, ⟨⟨y', ?_⟩, ?_⟩, fun b hb => ?_⟩
    · have e1 : ((i + 1 : Nat) : Int) = (i : Int) + 1 := by omega
      rw [e1]
      exact he'
    · obtain ⟨o, ho2, r⟩ := hit'.1
      exact ⟨o, (sb.2 it (Ne.symm hne)).trans ho2, r⟩
    · have hb' : b < s.heap.objs.size := by
        rcases (show b = e ∨ b = it by simpa using hb) with z | z
        · rw [z]; exact hel
        · rw [z]; exact hil
      rw [upd_ne (Nat.ne_of_lt hb')]
      exact (hf b hb).1
  done := by
    intro X hP hw hK hc i pins s σ H E I hf st hg
    subst hP hw hK
    obtain ⟨⟨old, he⟩, hit⟩ := st
    obtain ⟨f0, f1, f2, f3, f4, f5⟩ := hf it (by simp)
    obtain ⟨xs, hq, hi⟩ := hg
    obtain ⟨its, rv, p, hz⟩ := I.tuple hq
    have hi2 : i = its.toArray.size := by rw [List.size_toArray, hi, rv.length]
    subst hi2
    exact wpAny_pyNext_enum_endD (St := fun i h => h.IsTupleIter it a i ∧ h.IsTuple a its.toArray) (Draws.tuple (A := X.A.in1) (I.ok.hd hc) it a hai its.toArray) he ⟨hit, p⟩ fun h' eb => ⟨rfl, I.turned (t' := s.toks) (fun b o hb q => eb b o hb q) f0 f1 f3 f4 f5⟩
  self := fun A i s Q E st h => by
    obtain ⟨⟨_, he⟩, _⟩ := st
    exact wpAny_pyIter_enum he h
end
def iEnumS (ta : TA) : TI := fun σ H R => ta σ H fun vs H1 => ∃ x, vs = [.str x] ∧ R (Ites x) H1
def iEnumT (K : PySem.W.Frag) (ta : TA) : TI := fun σ H R => ta σ H fun vs H1 => ∃ a xs, vs = [.ref a] ∧ SqT K H1 a xs ∧ R (Itet K a) H1
section
variable {X : Cx} {e : Expr} {ta : TA} {p pos tpos : Pos} {elts : List Expr} {kk : Nat}
theorem pi_enumS (hg : Gl X "enumerate") (hm : X.mg "enumerate" = none) (ha : PA X [e] ta) (hs : starEach [e] X.env = [(false, eval e X.env)] := by rfl) : PI X (.Tuple elts kk tpos) (.Call (.Name "enumerate" p) [e] [] pos) (iEnumS ta) := by
  refine ⟨fun pins s σ H R I h => ?_⟩
  refine Call_ (ld_blt I hg hm boot_enumerate (PyProof.Rows.callWith_type1 (thn (ha.run pos pins s σ H _ I h) fun us s1 ⟨vs, H1, I1, r1, x, ex, q⟩ => ?_) hs rfl))
  subst ex
  cases r1 with
  | @cons _ u _ _ r rr =>
    cases rr
    obtain ⟨t, rfl⟩ := r
    refine enum_any (begins_text x t) trivial fun h' he hit hk => wpAny_pyIter_enum he ?_
    have I2 : Inv X pins σ H1 { s1 with heap := h' } := I1.kept (t' := s1.toks) hk
    refine ⟨s1.heap.objs.size + 1, [s1.heap.objs.size + 1, s1.heap.objs.size], _, _, H1, rfl, I2, turn_enums (x := x) (t := t) _ _ (Nat.succ_ne_self _), ⟨⟨.none, he⟩, ⟨_, hit, rfl, rfl⟩⟩, fun b hb => ?_, q⟩
    have hle : s1.heap.objs.size ≤ b := by
      rcases (show b = s1.heap.objs.size + 1 ∨ b = s1.heap.objs.size by simpa using hb) with z | z
      · rw [z]; exact Nat.le_add_right _ _
      · rw [z]; exact Nat.le_refl _
    exact I1.fpOk hle (I1.hok.fresh hle)
theorem pi_enumT (hg : Gl X "enumerate") (hm : X.mg "enumerate" = none) (ha : PA X [e] ta) (hs : starEach [e] X.env = [(false, eval e X.env)] := by rfl) : PI X (.Tuple elts kk tpos) (.Call (.Name "enumerate" p) [e] [] pos) (iEnumT X.K ta) := by
  refine ⟨fun pins s σ H R I h => ?_⟩
  refine Call_ (ld_blt I hg hm boot_enumerate (PyProof.Rows.callWith_type1 (thn (ha.run pos pins s σ H _ I h) fun us s1 ⟨vs, H1, I1, r1, a, xs, ex, hq, q⟩ => ?_) hs rfl))
  subst ex
  cases r1 with
  | @cons _ u _ _ r rr =>
    cases rr
    obtain rfl : u = Value.ref a := r
    obtain ⟨its, rv, p', hz⟩ := I1.tuple hq
    have hal : a < s1.heap.objs.size := by obtain ⟨_, z, _⟩ := p'; exact Heap.lt_size z
    refine enum_any (begins_tuple a its.toArray) p' fun h' he hit hk => wpAny_pyIter_enum he ?_
    have I2 : Inv X pins σ H1 { s1 with heap := h' } := I1.kept (t' := s1.toks) hk
    refine ⟨s1.heap.objs.size + 1, [s1.heap.objs.size + 1, s1.heap.objs.size], _, _, H1, rfl, I2, turn_enumt (a := a) _ _ (Nat.succ_ne_self _) (Nat.ne_of_lt (Nat.lt_succ_of_lt hal)) (Nat.ne_of_lt hal), ⟨⟨.none, he⟩, ⟨_, hit, rfl, rfl⟩⟩, fun b hb => ?_, q⟩
    have hle : s1.heap.objs.size ≤ b := by
      rcases (show b = s1.heap.objs.size + 1 ∨ b = s1.heap.objs.size by simpa using hb) with z | z
      · rw [z]; exact Nat.le_add_right _ _
      · rw [z]; exact Nat.le_refl _
    exact I1.fpOk hle (I1.hok.fresh hle)
end
/-- enumerate in a for: an instance of Walk -/
theorem walk_enumS {x : Str} : Walk (Ites x) x.cps.size (fun _ => True) (fun i H v H' => ∃ (T : Addr) (c : Nat), v = .ref T ∧ H T = none ∧ H' = upd H T (.tup [.int (i : Nat), .str ⟨#[c]⟩]) ∧ x.cps[i]? = some c) :=
  ⟨fun i H hi _ => hi, fun H _ => rfl, fun i H v H' hi _ y => y⟩
theorem walk_enumT {K : PySem.W.Frag} {a : Addr} {xs : List V} : Walk (Itet K a) xs.length (fun H => SqT K H a xs) (fun i H v H' => ∃ (T : Addr) (y : V), v = .ref T ∧ H T = none ∧ H' = upd H T (.tup [.int (i : Nat), y]) ∧ xs[i]? = some y) :=
  ⟨fun i H hi g => ⟨xs, xs[i], g, List.getElem?_eq_getElem hi⟩, fun H g => ⟨xs, g, rfl⟩, fun i H v H' hi g ⟨T, y, e1, e2, e3, e4⟩ => ⟨T, y, e1, e2, e3, e4 xs g⟩⟩
theorem walk_zips {xs : List Str} {m : Nat} : Walk (Itzs xs m) m (fun _ => True) (fun i H x H' => ∃ (T : Addr) (cs : List Nat), x = .ref T ∧ H T = none ∧ H' = upd H T (.tup (cs.map fun c => V.str ⟨#[c]⟩)) ∧ cs.length = xs.length ∧ ∀ (k : Nat) (y : Str), xs[k]? = some y → ∃ c, y.cps[i]? = some c ∧ cs[k]? = some c) :=
  ⟨fun i H hi _ => hi, fun H _ => rfl, fun i H v H' hi _ y => y⟩
end TH
end
section
set_option Elab.async false
set_option maxRecDepth 100000
set_option maxHeartbeats 4000000
set_option linter.all false
namespace TH
open PySem PySem.Spec PyProof.Rows L2
section
open PySem.W
variable {prog : Program} {w : World} {M : Model} {A : Around} {E : Value → Shared → Prop} {s : Shared} {K : Frag} {x C D f : Addr} {ox : Obj} {od : Option Obj} {nm : String}
/-- the class at D, straight over object, knows nothing of the operator -/
structure NoOp (K : Frag) (D : Addr) (nm : String) : Prop where
  cls : ∃ cd, clsIn K D = some cd ∧ cd.mro = [.ref D, .type "object"]
  f1 : findIn K (.ref D) (PySem.dunder nm) = some none
  r1 : findIn K (.ref D) (dunderR nm) = some none
  f0 : findIn K (.type "object") (PySem.dunder nm) = some none
  r0 : findIn K (.type "object") (dunderR nm) = some none
theorem NoOp.fills {h : Heap} (N : NoOp K D nm) (X : K.In h) : Looks M h (fillsNumberSlot (.ref D) nm) false := by
  intro A Q E s k q
  obtain ⟨cd, hcd, hm⟩ := N.cls
  have X' : K.In s.heap := X.keeps k
  have L1 : Looks M s.heap (typeLookup (.ref D) (PySem.dunder nm)) none := looks_findIn X' N.f1
  have L2 : Looks M s.heap (typeLookup (.ref D) (dunderR nm)) none := looks_findIn X' N.r1
  have L3 : Looks M s.heap (typeLookup (.type "object") (PySem.dunder nm)) none := looks_findIn X' N.f0
  have L4 : Looks M s.heap (typeLookup (.type "object") (dunderR nm)) none := looks_findIn X' N.r0
  unfold fillsNumberSlot
  refine wpAny_bind ((looks_clsIn X' hcd).andThen (f := fun cd => pure cd.mro) .now A _ E s (fun _ _ e => e) ?_)
  rw [hm, List.anyM_cons]
  refine wpAny_bind ?_
  show wpAny M A (List.anyM _ [PySem.dunder nm, dunderR nm]) _ _ _
  rw [List.anyM_cons]
  refine wpAny_bind (wpAny_bind (L1.here (wpAny_pure ?_)))
  rw [if_neg Bool.false_ne_true, List.anyM_cons]
  refine wpAny_bind (wpAny_bind (L2.here (wpAny_pure ?_)))
  rw [if_neg Bool.false_ne_true, List.anyM_nil]
  refine wpAny_pure ?_
  rw [if_neg Bool.false_ne_true, List.anyM_cons]
  refine wpAny_bind (wpAny_bind (L3.here (wpAny_bind (L4.here (wpAny_pure ?_)))))
  show wpAny M A (if false = true then _ else _) _ _ _
  rw [if_neg Bool.false_ne_true, List.anyM_nil]
  exact wpAny_pure q
theorem binop_two {op : Operator} {b : Value} {Q : Value → Shared → Prop} (X : K.In s.heap) (I : InstAt s.heap x ox C od) (hb : Looks (model prog w) s.heap (typeOf b) (.ref D)) (hCD : C ≠ D) (hc : selfFirst K C = true) (N : NoOp K D op.info.2)
    (hs : findIn K (.ref C) (PySem.dunder op.info.2) = some (some (.ref f))) (hf : isFn K (.ref f) = true)
    (h : wpAny (model prog w) A (call (.ref f) [.ref x, b]) (PySem.W.CmpBack Q) E s) : wpAny (model prog w) A (binaryOp op (.ref x) b) Q E s := by
  obtain ⟨cd, rest, hcd, hm⟩ := ksp_first hc
  have hne : (Value.ref C == Value.ref D) = false := by simp [hCD]
  unfold binaryOp
  refine wpAny_holding (wpAny_bind ?_)
  unfold binaryOp1
  refine wpAny_bind (I.type.here (wpAny_bind (hb.here (wpAny_bind ((fills_K X hcd hm hs).here ?_)))))
  simp only [hne, Bool.false_eq_true, if_false]
  refine wpAny_bind ((N.fills X).here ?_)
  simp only [Bool.and_false, Bool.false_eq_true, if_false, Bool.false_and]
  refine wpAny_bind (wpAny_pure ?_)
  simp only [Bool.false_eq_true, if_false, if_true]
  refine wpAny_bind (m := tryMethod (.ref x) _ b) ?_
  unfold tryMethod
  refine wpAny_bind (special_fn X I hs (beq_iff_eq.mp hf) (wpAny_mono h (fun v s' hv => ?_) fun _ _ e => e))
  cases v <;> first | exact hv.elim | exact wpAny_pure (wpAny_pure (wpAny_pure hv))
end
/-- a op b: a an instance of C whose def for it is at g, b one of D -/
def rTwo (C D : Addr) (sp : Sp) (E : XK) : R2 := fun x y H Q => ∃ a dx fs b dy gs, x = .ref a ∧ y = .ref b ∧ H a = some (.ins C dx fs) ∧ H b = some (.ins D dy gs) ∧ sp [x, y] H Q E
/-- C(*e), the class by its name; c(*e), the class in a slot -/
def tMakeS (K : PySem.W.Frag) (C : Addr) (sp : Sp) (E : XK) (te : TE) : TE := fun σ H Q => te σ H fun y H1 => ∃ a xs, y = V.ref a ∧ (SqT K H1 a xs ∨ SqL K H1 a xs) ∧ ∀ x dx, H1 x = Option.none → H1 dx = Option.none → dx ≠ x →
  sp (V.ref x :: xs) (upd (upd H1 dx (.own x)) x (.ins C dx [])) (fun v H2 => v = .non ∧ Q (.ref x) H2) E
section
variable {X : Cx} {CX : CXT} {k : Nat} {f C : Addr} {sp : Sp} {E : XK} {x : Str} {e : Expr} {te tf : TE} {p spo pos : Pos}
theorem pe_makeS (M : Mk X.K C f) (F : FnR X.prog X.w X.K X.mg X.base CX k f sp) (hr : Room (k + 1) X.A) (hg : Gl X x) (hm : X.mg x = some (.ref C)) (hx : Passes CX X E) (he : PE X e te) (hdb : (x == ("__debug__" : Str)) = false := by decide)
    (hst : starEach [.Starred e spo] X.env = [(true, eval e X.env)] := by rfl) : PE X (.Call (.Name x p) [.Starred e spo] [] pos) (tMakeS X.K C sp E te) := by
  refine ⟨fun pins s σ H Q I h => ?_⟩
  refine wpAny_Call_Name_kw (ld_glob I hg hm ?_ hdb)
  refine PySem.W.callWith_S (h₀ := X.base) I.ok.mod.kin M.kp (thn (he.run pins s σ H _ I h) fun v s1 ⟨y, H1, I1, ry, a, xs, ey, hxs, q⟩ => ?_) hst
  subst ey
  obtain rfl : v = Value.ref a := ry
  exact StX.star_any I1 hxs fun us s2 I2 rv => ⟨I2.kIn, StX.run_makeR M F hr hx I2 rv q⟩
/-- the class is what the name of the def holds -/
theorem pe_makeSv (M : Mk X.K C f) (F : FnR X.prog X.w X.K X.mg X.base CX k f sp) (hr : Room (k + 1) X.A) (hf : PE X (.Name x p) tf) (hx : Passes CX X E) (he : PE X e te)
    (hst : starEach [.Starred e spo] X.env = [(true, eval e X.env)] := by rfl) : PE X (.Call (.Name x p) [.Starred e spo] [] pos) (fun σ H Q => tf σ H fun c H1 => c = .ref C ∧ tMakeS X.K C sp E te σ H1 Q) := by
  refine ⟨fun pins s σ H Q I h => ?_⟩
  refine wpAny_Call_Name_kw (thn (hf.run pins s σ H _ I h) fun u s0 ⟨c, H0, I0, rc, ec, h⟩ => ?_)
  subst ec
  obtain rfl : u = Value.ref C := rc
  refine PySem.W.callWith_S (h₀ := X.base) I.ok.mod.kin M.kp (thn (he.run pins s0 σ H0 _ I0 h) fun v s1 ⟨y, H1, I1, ry, a, xs, ey, hxs, q⟩ => ?_) hst
  subst ey
  obtain rfl : v = Value.ref a := ry
  exact StX.star_any I1 hxs fun us s2 I2 rv => ⟨I2.kIn, StX.run_makeR M F hr hx I2 rv q⟩
end
end TH
end
section
set_option Elab.async false
set_option maxRecDepth 100000
set_option maxHeartbeats 4000000
set_option linter.all false
namespace TH
open PySem PySem.Spec PyProof.Rows L2
theorem thnN {α : Type} {n : Nat} {t : Sem α} {Q Q' : α → Shared → Prop} {M : Model} {A : Around} {E : Value → Shared → Prop} {s : Shared} (hn : n ≤ s.toks) (h : wpAny M A t Q E s) (hQ : ∀ a s', n ≤ s'.toks → Q a s' → Q' a s') : wpAny M A t Q' E s :=
  wpAny_mono (wpAny_toks_of hn h) (fun a s' z => hQ a s' z.1 z.2) fun _ _ z => z.2
def PEn (n : Nat) (X : Cx) (e : Expr) (t : TE) : Prop :=
  ∀ (pins : List (Addr × Obj)) (s : Shared) (σ : L2.St) (H : Hp) (Q : VK), n ≤ s.toks → Inv X pins σ H s → t σ H Q → wpAny (model X.prog X.w) X.A (eval e X.env) (EP X pins σ Q) X.xe s
def PTn (n : Nat) (X : Cx) (e : Expr) (t : TT) : Prop :=
  ∀ (pins : List (Addr × Obj)) (s : Shared) (σ : L2.St) (H : Hp) (Q : Bool → Hp → Prop), n ≤ s.toks → Inv X pins σ H s → t σ H Q → wpAny (model X.prog X.w) X.A (isTrue e X.env (eval e X.env)) (TP X pins σ Q) X.xe s
def PWn (n : Nat) (X : Cx) (e : Expr) (t : TT) : Prop :=
  ∀ (whole : Sem Value) (pins : List (Addr × Obj)) (s : Shared) (σ : L2.St) (H : Hp) (Q : Bool → Hp → Prop), n ≤ s.toks → Inv X pins σ H s → t σ H Q → wpAny (model X.prog X.w) X.A (isTrue e X.env whole) (TP X pins σ Q) X.xe s
def PAn (n : Nat) (X : Cx) (es : List Expr) (t : TA) : Prop :=
  ∀ (pos : Pos) (pins : List (Addr × Obj)) (s : Shared) (σ : L2.St) (H : Hp) (Q : List V → Hp → Prop), n ≤ s.toks → Inv X pins σ H s → t σ H Q → wpAny (model X.prog X.w) X.A (spliced (backTo pos (starEach es X.env))) (AP X pins σ Q) X.xe s
def PSn (n : Nat) (X : Cx) (st : Stmt) (t : TS) : Prop :=
  ∀ (pins : List (Addr × Obj)) (s : Shared) (σ : L2.St) (H : Hp) (D : Ends), n ≤ s.toks → Inv X pins σ H s → t D σ H → wpAny (model X.prog X.w) X.A (exec st X.env) (SP X pins D) X.xe s
def PSsn (n : Nat) (X : Cx) (st : List Stmt) (t : TS) : Prop :=
  ∀ (pins : List (Addr × Obj)) (s : Shared) (σ : L2.St) (H : Hp) (D : Ends), n ≤ s.toks → Inv X pins σ H s → t D σ H → wpAny (model X.prog X.w) X.A (execs st X.env) (SP X pins D) X.xe s
def OpRn (n : Nat) (X : Cx) (f : Value → Value → Sem Value) (r : R2) : Prop :=
  ∀ (pins : List (Addr × Obj)) (s : Shared) (σ : L2.St) (H : Hp) (x y : V) (v u : Value) (Q : VK), n ≤ s.toks → Inv X pins σ H s → RelV x v → RelV y u → r x y H Q → wpAny (model X.prog X.w) X.A (f v u) (EP X pins σ Q) X.xe s
/-- a def called, its promise kept wherever n tokens are out -/
def FnRn (n : Nat) (P : Program) (w : World) (K : PySem.W.Frag) (mg : Str → Option Value) (base : Heap) (CX : CXT) (k : Nat) (f : Addr) (sp : Sp) : Prop :=
  ∀ (A : Around) (outer : List Env) (s : Shared) (H : Hp) (us : List Value) (vs : List V) (Q : VK) (E : XK), n ≤ s.toks → Room k A → Env0 P w K mg base A outer s H → Vals vs us → sp vs H Q E →
    codeAny (model P w) A (.call (.ref f) ⟨us, []⟩) (CR CX outer P w H s Q E) s
section
variable {X : Cx} {n : Nat}
theorem _root_.L2.PE.up {e : Expr} {t : TE} (h : PE X e t) : PEn n X e t := fun pins s σ H Q _ I q => h.run pins s σ H Q I q
theorem _root_.L2.PT.up {e : Expr} {t : TT} (h : PT X e t) : PTn n X e t := fun pins s σ H Q _ I q => h.run pins s σ H Q I q
theorem _root_.L2.PA.up {es : List Expr} {t : TA} (h : PA X es t) : PAn n X es t := fun pos pins s σ H Q _ I q => h.run pos pins s σ H Q I q
theorem _root_.L2.PS.up {st : Stmt} {t : TS} (h : PS X st t) : PSn n X st t := fun pins s σ H D _ I q => h.run pins s σ H D I q
theorem _root_.L2.PSs.up {st : List Stmt} {t : TS} (h : PSs X st t) : PSsn n X st t := fun pins s σ H D _ I q => h.run pins s σ H D I q
theorem PWn.pt {e : Expr} {t : TT} (h : PWn n X e t) : PTn n X e t := h _
theorem pssn_cons {st : Stmt} {rest : List Stmt} {t u : TS} (h1 : PSn n X st t) (h2 : PSsn n X rest u) : PSsn n X (st :: rest) (tSeq t u) := by
  intro pins s σ H D hn I h
  refine wpAny_execs_cons (thnN hn (h1 pins s σ H { D with nx := u D } hn I h) fun f s1 hn1 q => ?_)
  cases f with
  | next =>
    obtain ⟨σ1, H1, I1, q1⟩ := q
    exact h2 pins s1 σ1 H1 D hn1 I1 q1
  | ret v => exact q
  | brk => exact q
  | cont => exact q
theorem pssn_one {st : Stmt} {t : TS} (h1 : PSn n X st t) : PSsn n X [st] t := by
  intro pins s σ H D hn I h
  refine wpAny_execs_cons (thnN hn (h1 pins s σ H D hn I h) fun f s1 _ q => ?_)
  cases f with
  | next => exact wpAny_execs_nil q
  | ret v => exact q
  | brk => exact q
  | cont => exact q
theorem psn_ret {e : Expr} {te : TE} {pos : Pos} (he : PEn n X e te) : PSn n X (.Return (some e) pos) (tRet te) := fun pins s σ H D hn I h =>
  wpAny_Return_some (thn (he pins s σ H _ hn I h) fun _ _ ⟨x, H1, I1, r1, q1⟩ => ⟨x, σ, H1, I1, r1, q1⟩)
theorem psn_if {c : Expr} {a b : List Stmt} {tc : TT} {t u : TS} {pos : Pos} (hc : PTn n X c tc) (ha : PSsn n X a t) (hb : PSsn n X b u) : PSn n X (.If c a b pos) (tIfS tc t u) := by
  intro pins s σ H D hn I h
  refine wpAny_If (thnN hn (hc pins s σ H _ hn I h) fun d s1 hn1 ⟨H1, I1, q1⟩ => ?_)
  cases d with
  | true => exact ha pins s1 σ H1 D hn1 I1 q1
  | false => exact hb pins s1 σ H1 D hn1 I1 q1
theorem psn_set {i : Nat} {x : Str} {e : Expr} {te : TE} {pos pos' : Pos} (hN : X.N.Nodup) (hi : X.N[i]? = some x) (hx : Loc X.env.scope x) (he : PEn n X e te) (hs : swapsWith e (some (.Name x pos')) pos.line X.env = pure false := by rfl)
    (hf : X.fn x = true ∨ X.env.scope.names.lookup x = some .local := by first | exact .inl rfl | exact .inr rfl | assumption) : PSn n X (.Assign [.Name x pos'] e pos) (tAsg te (gName i)) := fun pins s σ H D hn I h =>
  wpAny_Assign_Name (thn (he pins s σ H _ hn I h) fun _ s1 ⟨y, H1, I1, r1, q1⟩ => store_ok I1 hN hi hx r1 (fun _ I2 => ⟨_, H1, I2, q1⟩) hf) hs
theorem pan_nil : PAn n X [] tNil := pa_nil.up
theorem pan_cons {e : Expr} {es : List Expr} {te : TE} {ta : TA} (he : PEn n X e te) (hr : PAn n X es ta) (hs : starEach (e :: es) X.env = (false, eval e X.env) :: starEach es X.env := by rfl) : PAn n X (e :: es) (tCons te ta) := by
  intro pos pins s σ H Q hn I h
  rw [hs]
  refine Calls.spliced_cons (thnN hn (he pins s σ H _ hn I h) fun v s1 hn1 ⟨x, H1, I1, r1, q1⟩ => ?_)
  exact thn (hr pos pins s1 σ H1 _ hn1 I1 q1) fun us s2 ⟨vs, H2, I2, r2, q2⟩ => ⟨x :: vs, H2, I2, .cons r1 r2, q2⟩
theorem run_fnRn {pins : List (Addr × Obj)} {σ : L2.St} {H : Hp} {s : Shared} {CX : CXT} {k : Nat} {f : Addr} {sp : Sp} {E : XK} {Q : VK} {us : List Value} {vs : List V} (hn : n ≤ s.toks) (F : FnRn n X.prog X.w X.K X.mg X.base CX k f sp) (hr : Room k X.A) (hx : Passes CX X E) (I : Inv X pins σ H s) (r : Vals vs us) (h : sp vs H Q E) :
    codeAny (model X.prog X.w) X.A (.call (.ref f) ⟨us, []⟩) (fun r s' => match r with | .ok (.ret v) => EP X pins σ Q v s' | .ok _ => False | .error e => X.xe e s') s := by
  refine codeAny_mono (F X.A X.stack s H us vs Q E hn hr I.env0 r h) fun r s' hq => ?_
  cases r with
  | error e => exact hx pins σ H s e s' I hq
  | ok fl =>
    cases fl with
    | ret u => exact I.after hq
    | next => exact False.elim hq
    | brk => exact False.elim hq
    | cont => exact False.elim hq
/-- x(e, ..), x a def of the module -/
def tCal (sp : Sp) (E : XK) (t : TA) : TE := fun σ H Q => t σ H fun vs H1 => sp vs H1 Q E
theorem pen_call {CX : CXT} {k : Nat} {f : Addr} {sp : Sp} {E : XK} {x : Str} {e : Expr} {es : List Expr} {t : TA} {p pos : Pos} (F : FnRn n X.prog X.w X.K X.mg X.base CX k f sp) (hr : Room k X.A) (hg : Gl X x) (hm : X.mg x = some (.ref f)) (hk : PySem.W.keepIn X.K (.ref f) = true) (hx : Passes CX X E)
    (ha : PAn n X (e :: es) t) (hdb : (x == ("__debug__" : Str)) = false := by decide) (he : starEach (e :: es) X.env = (false, eval e X.env) :: starEach es X.env := by rfl) (hpl : (backTo pos (starEach es X.env)).any (·.1) = false := by rfl) :
    PEn n X (.Call (.Name x p) (e :: es) [] pos) (tCal sp E t) := by
  intro pins s σ H Q hn I h
  refine wpAny_Call_Name_kw (ld_glob I hg hm ?_ hdb)
  exact PySem.W.callWith_K (h₀ := X.base) I.ok.mod.kin hk (thnN hn (ha pos pins s σ H _ hn I h) fun us s1 hn1 ⟨vs, H1, I1, r, q⟩ => ⟨I1.kIn, wpAny_call (run_fnRn hn1 F hr hx I1 r q)⟩) he hpl
theorem pen_callTy {T : String} {r : List V → Hp → VK → Prop} {x : Str} {e : Expr} {es : List Expr} {t : TA} {p pos : Pos} (hc : CallR X (.type T) r) (hg : Gl X x) (hm : X.mg x = none) (hv : bootBuiltins x = some (.type T)) (ha : PAn n X (e :: es) t) (hne : x ≠ "__name__" := by decide) (hdb : (x == ("__debug__" : Str)) = false := by decide)
    (he : starEach (e :: es) X.env = (false, eval e X.env) :: starEach es X.env := by rfl) (hpl : (backTo pos (starEach es X.env)).any (·.1) = false := by rfl) : PEn n X (.Call (.Name x p) (e :: es) [] pos) (tCB r t) := by
  intro pins s σ H Q hn I h
  refine wpAny_Call_Name_kw (ld_blt I hg hm hv ?_ hne hdb)
  exact PyProof.Rows.callWith_type1 (thn (ha pos pins s σ H _ hn I h) fun us s1 ⟨vs, H1, I1, r1, q1⟩ => hc pins s1 σ H1 vs us Q I1 r1 q1) he hpl
theorem pen_op {op : Operator} {r : R2} {a b : Expr} {ta tb : TE} {pos : Pos} (ho : OpRn n X (binaryOp op) r) (ha : PEn n X a ta) (hb : PEn n X b tb) : PEn n X (.BinOp a op b pos) (tOp r ta tb) := fun pins s σ H Q hn I h =>
  wpAny_BinOp (thnN hn (ha pins s σ H _ hn I h) fun v s1 hn1 ⟨x, H1, I1, rx, q1⟩ => thnN hn1 (hb pins s1 σ H1 _ hn1 I1 q1) fun u s2 hn2 ⟨y, H2, I2, ry, q2⟩ => ho pins s2 σ H2 x y v u Q hn2 I2 rx ry q2)
theorem ptn_cmpR {op : CmpOp} {r : R2} {a b : Expr} {ta tb : TE} {pos : Pos} (ho : OpR X (compareOp op) r) (ha : PEn n X a ta) (hb : PEn n X b tb) (hm : behindInMarks op b = false) : PTn n X (.Compare a [op] [b] pos) (tTest (tOp r ta tb)) := by
  intro pins s σ H Q hn I h
  refine wpAny_isTrue_Compare1 (thnN hn (ha pins s σ H _ hn I h) fun v s1 hn1 ⟨x, H1, I1, r1, q1⟩ => thn (hb pins s1 σ H1 _ hn1 I1 q1) fun u s2 ⟨y, H2, I2, r2, q2⟩ => thn (ho pins s2 σ H2 x y v u _ I2 r1 r2 q2) fun c s3 ⟨z, H3, I3, r3, k, e, q3⟩ => ?_) hm
  subst e
  cases r3
  exact wpAny_truthy_bool ⟨H3, I3, q3⟩
theorem ptn_val {e : Expr} {t : TE} (h : PEn n X e t) (he : ∀ whole, isTrue e X.env whole = (do let v ← whole; standAt e.pos; holding [v] (truthy v)) := by intro _; rfl) : PTn n X e (tB t) := by
  intro pins s σ H Q hn I hw
  rw [he]
  refine wpAny_bind (thn (h pins s σ H _ hn I hw) fun v s1 ⟨x, H1, I1, r1, c, e1, q1⟩ => ?_)
  subst e1
  cases r1
  exact wpAny_bind (wpAny_standAt (wpAny_holding (wpAny_truthy_bool ⟨H1, I1, q1⟩)))
end
/-- nothing raised: whatever is wished of what is raised -/
theorem pssn_nox {X : Cx} {n : Nat} {st : List Stmt} {t : TS} (h : PSsn n X.nox st t) : PSsn n X st t := fun pins s σ H D hn I q =>
  wpAny_mono (h pins s σ H D hn (I.wish _) q) (fun _ _ z => z.unwish) fun _ _ z => False.elim z
theorem fn_n {CX : CXT} {P : Program} {w : World} {K : PySem.W.Frag} {mg : Str → Option Value} {base : Heap} {n k : Nat} {f : Addr} {x qual : Str} {st : Stmt} {fd : FuncData} {N ps : List Str} {sp : Sp} (F : L2.Fun K x qual st f fd) (b : Binds K fd ps []) (S : FnScope N ps (defScope st)) (len : ∀ vs H Q E, sp vs H Q E → vs.length = ps.length)
    (hbody : ∀ (cdv : Value) (A : Around) (outer : List Env) (s : Shared) (H : Hp) (vs : List V) (Q : VK) (E : XK), Room k (A.deeper (envOfC qual (defScope st) s.heap.objs.size f cdv)) → sp vs H Q E →
      ∃ t, PSsn n (cxOf CX P w K mg base N qual (defScope st) f cdv A outer s H E).nox (defBody st) t ∧ t { nx := fun _ H' => Q .non H', rt := Q } (start N vs) H) : FnRn n P w K mg base CX (k + 1) f sp := by
  obtain ⟨oc, od, kV, doc, pm, an, cdv, ct, osl, rfl, lk, hcd⟩ := F.ex
  intro A outer s H us vs Q E hn hr e0 r hsp
  have hl : vs.length = ps.length := len vs H Q E hsp
  have KX : K.In s.heap := e0.mod.kin.keeps fun b o e => (e0.bs b o e).1
  have lim : s.heap.NoLimit := e0.mod.nolimit.keeps fun b o e => (e0.bs b o e).1
  have hkind : ∀ y ∈ ps.zip us, (defScope st).names.lookup y.1 = some .local ∨ ((defScope st).names.lookup y.1 = some .cell ∧ ((cellsFrom (s.heap.objs.size + 1) (defScope st).names []).lookup y.1).isSome = true) := fun ⟨m, v⟩ hy => by
    rcases S.par m (List.of_mem_zip hy).1 with q | q
    · exact .inl q
    · exact .inr ⟨q, PySem.W.cellsFrom_some _ _ _ (.inl q)⟩
  have hul : us.length = ps.length := by rw [← r.length]; exact hl
  have hb := b s us KX (by rw [List.append_nil]; exact hul)
  rw [List.append_nil] at hb
  refine codeAny_call_function hr.depth (KX _ _ lk) rfl S.co S.gen rfl (PySem.W.codeRec_of KX hcd) (hb _ _ _ _ ?_)
  refine wpAny_with_toks hn (wpAny_mono (wpAny_newFunctionEnv_cells (Q := fun env s1 => n ≤ s1.toks → _) S.kind hkind fun env he s1 x hn1 => ?_) (fun _ _ z => z) fun _ _ z _ => z)
  subst he
  refine ⟨lim.keeps x.toInCall.keep, codeAny_func ?_⟩
  obtain ⟨t, ht, hq⟩ := hbody cdv A outer s H vs Q E (hr.deeper _) hsp
  have I : Inv (cxOf CX P w K mg base N qual (defScope st) f cdv A outer s H E) [] (start N vs) H s1 := inv_start S hr.hd e0 hl r x
  refine wpAny_mono (pssn_nox ht [] s1 (start N vs) H _ hn1 I hq) (fun fl s' hs => ?_) fun e s' hs => hs
  have fin : ∀ {σ' : L2.St} {H' : Hp} {v : V} {u : Value}, Inv (cxOf CX P w K mg base N qual (defScope st) f cdv A outer s H E) [] σ' H' s' → RelV v u → Q v H' → CE outer P w H s Q u s' :=
    fun {σ' H' v u} J rv q => ⟨v, H', J.os, J.bare, J.base, J.hok, rv, q⟩
  cases fl with
  | ret u =>
    obtain ⟨v, σ', H', J, rv, q⟩ := hs
    exact fin J rv q
  | next =>
    obtain ⟨σ', H', J, q⟩ := hs
    exact fin (v := V.non) (u := Value.none) J rfl q
  | brk =>
    obtain ⟨_, _, _, q⟩ := hs
    exact False.elim q
  | cont =>
    obtain ⟨_, _, _, q⟩ := hs
    exact False.elim q
end TH
end
section
set_option Elab.async false
set_option maxRecDepth 100000
set_option maxHeartbeats 4000000
set_option linter.all false
namespace TH
open PySem PySem.Spec PyProof.Rows L2
section
variable {X : Cx} {n : Nat}
/-- what a turn leaves of the iterator's own objects -/
theorem turn_back {pins : List (Addr × Obj)} {fp : List Addr} {it : Addr} {tg : Expr} {J : It} {tn : Nat → Heap → Prop} {i : Nat} {h5 : Heap} {σ7 : L2.St} {H7 : Hp} {s7 : Shared} (T : Turn X.prog X.w X.K tg J fp it tn) (st5 : tn i h5)
    (I7 : Inv X (pins ++ pinsAt fp h5) σ7 H7 s7) : tn i s7.heap ∧ ∀ b ∈ fp, H7 b = none := by
  have key : ∀ b ∈ fp, ∀ o, h5.get? b = some o → s7.heap.get? b = some o ∧ H7 b = none := fun b hb o e => by
    obtain ⟨z1, z2, _⟩ := I7.pin (b, o) (List.mem_append_right _ (List.mem_append_right _ (mem_pinsAt hb e)))
    exact ⟨z1, z2⟩
  refine ⟨T.keep _ _ _ st5 fun b hb o e => (key b hb o e).1, fun b hb => ?_⟩
  obtain ⟨o, e, _⟩ := T.obj _ _ st5 b hb
  exact (key b hb o e).2
theorem psn_for {tg iter : Expr} {body : List Stmt} {wi : TI} {g : TG} {tb : TS} {pos : Pos} (hp : PassesOwn (model X.prog X.w) X.A X.env X.xe) (hc : X.calm = true) (hi : PI X tg iter wi) (hg : PG X tg g) (hb : PSsn n X body tb)
    (hs : ∀ x, foldedSetIterable iter X.env x = pure x := by intro _; rfl) : PSn n X (.For tg iter body [] pos) (tFor wi g tb) := by
  intro pins s σ H D hn I h
  refine wpAny_For (thnN hn (hi.run pins s σ H _ I h) fun v s1 hn1 h1 => thnN hn1 h1 fun itv s2 hn2 h2 => ?_) hs
  obtain ⟨it, fp, tn, J, H2, rfl, I2, T, st2, f2, W, ⟨m0, w0⟩, turn⟩ := h2
  refine codeAny_forLoop_any (fun m s' => n ≤ s'.toks ∧ ∃ i σ' H', Inv X pins σ' H' s' ∧ tn i s'.heap ∧ (∀ b ∈ fp, H' b = none) ∧ W i m σ' H') ?_ m0 ⟨hn2, 0, σ, H2, I2, st2, fun b hb => (f2 b hb).1, w0⟩
  rintro m s3 ⟨hn3, i, σ3, H3, I3, st3, fr3, w3⟩
  have ok3 : ∀ {H' : Hp}, (∀ b ∈ fp, H' b = none) → ∀ b ∈ fp, FpOk X pins H' b := fun z b hb => ⟨z b hb, (f2 b hb).2⟩
  rcases turn i m σ3 H3 w3 with ⟨stop, qn⟩ | ⟨go, N, hN, step⟩
  · refine wpAny_passesOwn hp (thn (T.done X rfl rfl rfl hc i pins s3 σ3 H3 X.xe I3 (ok3 fr3) st3 stop) fun r s4 hr => ?_)
    obtain ⟨rfl, I4⟩ := hr
    exact wpAny_execs_nil ⟨σ3, H3, I4, qn⟩
  · refine wpAny_passesOwn hp (thnN hn3 (T.item X rfl rfl rfl hc i pins s3 σ3 H3 X.xe I3 (ok3 fr3) st3 go) fun r s4 hn4 hr => ?_)
    obtain ⟨u, rfl, h4⟩ := hr
    refine wpAny_passesOwn hp (thnN hn4 h4 fun _ s5 hn5 ⟨x, H5, I5, r5, y5, st5, fr5⟩ => ?_)
    have J5 := I5.pinned (ok3 fr5) (T.obj _ _ st5)
    refine wpAny_passesOwn hp (thnN hn5 (hg.run _ s5 σ3 H5 x u _ J5 r5 (step x H5 y5)) fun _ s6 hn6 ⟨σ6, H6, I6, q6⟩ => ?_)
    refine wpAny_passesOwn hp (thnN hn6 (hb _ s6 σ6 H6 _ hn6 I6 q6) fun f s7 hn7 q7 => ?_)
    have more : ∀ {σ7 : L2.St} {H7 : Hp}, Inv X (pins ++ pinsAt fp s5.heap) σ7 H7 s7 → N σ7 H7 → ∃ m', m' < m ∧ (n ≤ s7.toks ∧ ∃ i σ' H', Inv X pins σ' H' s7 ∧ tn i s7.heap ∧ (∀ b ∈ fp, H' b = none) ∧ W i m' σ' H') := fun {σ7 H7} I7 z => by
      obtain ⟨m', hm, w7⟩ := hN σ7 H7 z
      obtain ⟨t1, t2⟩ := turn_back T st5 I7
      exact ⟨m', hm, hn7, i + 1, σ7, H7, I7.unpinned, t1, t2, w7⟩
    cases f with
    | next => obtain ⟨σ7, H7, I7, z⟩ := q7; exact more I7 z
    | cont => obtain ⟨σ7, H7, I7, z⟩ := q7; exact more I7 z
    | brk => obtain ⟨σ7, H7, I7, z⟩ := q7; exact ⟨σ7, H7, I7.unpinned, z⟩
    | ret v => obtain ⟨x7, σ7, H7, I7, r7, z⟩ := q7; exact ⟨x7, σ7, H7, I7.unpinned, r7, z⟩
theorem pwn_or1 {a : Expr} {tA : TT} {pos : Pos} (ha : PTn n X a tA) : PWn n X (.BoolOp .Or [a] pos) tA := by
  intro whole pins s σ H Q hn I h
  refine isTrue_or (thn (ha pins s σ H Q hn I h) fun c s1 e => ?_)
  cases c with
  | false => exact isTrue_or_nil e
  | true => exact e
theorem pwn_or {a b : Expr} {rest : List Expr} {tA tB : TT} {pos : Pos} (ha : PTn n X a tA) (hb : PWn n X (.BoolOp .Or (b :: rest) pos) tB) : PWn n X (.BoolOp .Or (a :: b :: rest) pos) (tOr tA tB) := by
  intro whole pins s σ H Q hn I h
  refine isTrue_or (thnN hn (ha pins s σ H _ hn I h) fun c s1 hn1 ⟨H1, I1, q1⟩ => ?_)
  cases c with
  | true => exact ⟨H1, I1, q1⟩
  | false => exact hb whole pins s1 σ H1 Q hn1 I1 q1
theorem ptn_not {a : Expr} {tA : TT} {pos : Pos} (ha : PTn n X a tA) : PTn n X (.UnaryOp .Not a pos) (tNot tA) := fun pins s σ H Q hn I h => isTrue_not (ha pins s σ H (fun c H1 => Q (!c) H1) hn I h)
/-- where nothing may be raised -/
theorem thnFN {α : Type} {t : Sem α} {Q Q' : α → Shared → Prop} {M : Model} {A : Around} {E : Value → Shared → Prop} {s : Shared} (hn : n ≤ s.toks) (h : wpAny M A t Q (fun _ _ => False) s) (hQ : ∀ a s', n ≤ s'.toks → Q a s' → Q' a s') : wpAny M A t Q' E s :=
  wpAny_mono (wpAny_toks_of hn h) (fun a s' z => hQ a s' z.1 z.2) fun _ _ z => False.elim z.2
end
section
variable {X : Cx} {n : Nat} {pins : List (Addr × Obj)} {σ : L2.St}
/-- the loop's own context -/
abbrev blkE (X : Cx) (scope : Scope) (s : Shared) : Env := compEnvC scope (cellsFrom (s.heap.objs.size + 1) scope.names (cloFrom X.env.cells scope.names [])) s.heap.objs.size X.env
/-- the iterator's own objects, within the block: as they were, not tracked -/
theorem blk_fp {B : Cx} {fp : List Addr} (hx : ∀ b ∈ fp, b ∈ B.ex) (hp : B.pn = []) {σ' : L2.St} {H' : Hp} {s' : Shared} (J : Inv B [] σ' H' s') (z : ∀ b ∈ fp, H' b = none) : ∀ b ∈ fp, FpOk B [] H' b := fun b hb =>
  ⟨z b hb, (J.ok.exf b (hx b hb)).1, J.ok.exfs b (hx b hb), .inl (hx b hb), fun x c e => (J.ok.exf b (hx b hb)).2 x c e, fun p hp' => by
    rw [hp] at hp'
    cases hp'⟩
/-- a turn's end: the loop's word again -/
theorem blk_turn {B : Cx} {tg : Expr} {J : It} {fp : List Addr} {it : Addr} {tn : Nat → Heap → Prop} {i : Nat} {h7 : Heap} {vs : List Nat} {σ8 : L2.St} {H' : Hp} {s' : Shared} (T : Turn B.prog B.w B.K tg J fp it tn) (st : tn i h7)
    (w8 : wipe σ8 vs = wipe σ vs) (I' : Inv B ([] ++ pinsAt fp h7) σ8 H' s') : Inv B [] (wipe σ vs) H' s' ∧ tn i s'.heap ∧ ∀ b ∈ fp, H' b = none := by
  obtain ⟨t1, t2⟩ := turn_back T st I'
  refine ⟨(I'.unpinned (pins := [])).weak (by rw [← w8, wipe_length]) fun j v e => ?_, t1, t2⟩
  rw [← w8] at e
  exact (wipe_some e).1
/-- what a comprehension with `tYes` reads of its loop -/
abbrev LcW (g : TG) (te : TE) (vs : List Nat) (σ : L2.St) (J : It) (D : Addr) (W : Nat → Nat → Hp → Prop) (Qd : Hp → Prop) : Prop := ∀ i m H, W i m H →
  (J.stop i H ∧ Qd H) ∨ (J.go i H ∧ ∃ Nx : Hp → Prop, (∀ H', Nx H' → ∃ m', m' < m ∧ W (i + 1) m' H') ∧ ∀ x H', J.yld i H x H' → g x (wipe σ vs) H' fun σ2 H2 => wipe σ2 vs = wipe σ vs ∧ tYes σ2 H2 fun b H3 =>
    if b = true then te σ2 H3 fun y H4 => ∃ acc, H4 D = some (.lst acc) ∧ acc.length < sizeLine ∧ Nx (upd H4 D (.lst (acc ++ [y]))) else Nx H3)
/-- the loop of the block, in the block's own context B -/
theorem lcn_loop {B : Cx} {elt tg iter : Expr} {scope : Scope} {pos : Pos} {g : TG} {te : TE} {vs : List Nat} {J : It} {fp : List Addr} {it D : Addr} {tn : Nat → Heap → Prop} {W : Nat → Nat → Hp → Prop} {Qd : Hp → Prop} {R : Result → Shared → Prop} {H : Hp} {s : Shared} {m0 : Nat}
    (hx : ∀ b ∈ fp, b ∈ B.ex) (hpn : B.pn = []) (hxe : B.xe = fun _ _ => False) (hc : B.calm = true) (T : Turn B.prog B.w B.K tg J fp it tn) (pg : PG B tg g) (pe : PEn n B elt te) (turn : LcW g te vs σ J D W Qd)
    (fin : ∀ H' s', Inv B [] (wipe σ vs) H' s' → Qd H' → R (.ok .next) s') (hn : n ≤ s.toks) (I : Inv B [] (wipe σ vs) H s) (st : tn 0 s.heap) (hf : ∀ b ∈ fp, H b = none) (w0 : W 0 m0 H) :
    codeAny (model B.prog B.w) B.A (.compLoop (.ListComp elt [⟨tg, iter, [], 0⟩] scope pos) 0 (.ref it) (.ref D) B.env) R s := by
  refine compLoop_any (fun m t => n ≤ t.toks ∧ ∃ i H', Inv B [] (wipe σ vs) H' t ∧ tn i t.heap ∧ (∀ b ∈ fp, H' b = none) ∧ W i m H') ?_ m0 ⟨hn, 0, H, I, st, hf, w0⟩
  rintro m t ⟨hm, i, H1, I1, st1, f1, w1⟩
  rcases turn i m H1 w1 with ⟨stop, qd⟩ | ⟨go, Nx, hNx, step⟩
  · refine thnFN hm (T.done B rfl rfl rfl hc i [] t _ H1 (fun _ _ => False) I1 (blk_fp hx hpn I1 f1) st1 stop) fun r t2 _ ⟨e, I2⟩ => ?_
    rw [e]
    exact fin H1 t2 I2 qd
  · refine thnFN hm (T.item B rfl rfl rfl hc i [] t _ H1 (fun _ _ => False) I1 (blk_fp hx hpn I1 f1) st1 go) fun r t2 hm2 ⟨u, e, more⟩ => ?_
    rw [e]
    refine thnFN hm2 more fun _ t3 hm3 ⟨x, H3, I3, rx, y3, st3, f3⟩ => ?_
    have pinned := I3.pinned (blk_fp hx hpn I3 f3) (T.obj _ _ st3)
    have h4 := pg.run _ t3 _ H3 x u _ pinned rx (step x H3 y3)
    rw [hxe] at h4
    refine thnFN hm3 h4 fun _ t4 hm4 ⟨σ4, H4, I4, w4, q4⟩ => ?_
    refine wpAny_tests_nil ?_
    have h5 := pe _ t4 σ4 H4 _ hm4 I4 (show te σ4 H4 _ from q4)
    rw [hxe] at h5
    show if true = true then _ else _
    rw [if_pos rfl]
    refine thnFN hm4 h5 fun z t5 hm5 ⟨yv, H5, I5, r5, acc, hD, hz, nx⟩ => ?_
    refine thnFN hm5 (app_ok (X := B) (E := fun _ _ => False) (Q := fun _ t6 => ∃ H6, Inv B _ σ4 H6 t6 ∧ Nx H6) I5 hD hz r5 fun t6 I6 => ⟨_, I6, nx⟩) fun _ t6 hm6 ⟨H6, I6, nx6⟩ => ?_
    obtain ⟨m', lt, w6⟩ := hNx H6 nx6
    obtain ⟨k1, k2, k3⟩ := blk_turn T st3 w4 I6
    exact ⟨m', lt, hm6, i + 1, H6, k1, k2, k3, w6⟩
theorem lcn_core {s : Shared} {H : Hp} {Q : VK} {elt tg iter : Expr} {scope : Scope} {own : List (Str × Nat)} {pos pos' : Pos} {wi : TI} {g : TG} {te : TE} {use : Option (Value → Sem Unit)} {Qf : Value → Shared → Prop}
    (hc : X.calm = true) (hN : X.N.Nodup) (hn : n ≤ s.toks) (I : Inv X pins σ H s) (hi : PI X tg iter wi) (ok : BlkOk X.N X.env.scope scope own)
    (hg : ∀ (s : Shared) (H : Hp) (C : Addr) (cl : List (Str × Addr)) (fp : List Addr), PG (X.blk s H scope (compEnvC scope cl C X.env) fp) tg g)
    (he : ∀ (s : Shared) (H : Hp) (C : Addr) (cl : List (Str × Addr)) (fp : List Addr), PEn n (X.blk s H scope (compEnvC scope cl C X.env) fp) elt te) (hs : ∀ x, foldedSetIterable iter X.env x = pure x)
    (h : tLc wi g tYes te (own.map (·.2)) σ H Q)
    (hRR : ∀ D C s' m H', Inv X pins σ H' s' → Q (.ref D) H' → s'.heap.Ns C m → FpOk X pins H' C → compPost (model X.prog X.w) X.A X.xe use Qf (.ref D) C (.ok .next) s') :
    wpAny (model X.prog X.w) X.A (comprehension (.ListComp elt [⟨tg, iter, [], 0⟩] scope pos) scope X.env pos' (newList []) false (eval iter X.env) use) Qf X.xe s := by
  have known : ∀ y ∈ scope.names, y.2 = .free → ∃ c, X.env.cells.lookup y.1 = some c := fun y hy e => (ok.free y hy e).elim (fun k => I.ok.has _ (.inl k)) fun k => I.ok.has _ (.inr k)
  refine wpAny_comprehension_free (use := use) rfl hs (closure_ok known) ok.kind (fun y hy e => by rw [ok.uniq y hy, e]) ?_
  refine thnN hn (hi.run pins s σ H _ I h) fun xv s1 hn1 hx => thnN hn1 hx fun itv s2 hn2 h2 => ?_
  obtain ⟨it, fp, tn, J, H2, rfl, I2, T, st2, f2, q⟩ := h2
  refine wpAny_newObj_type (newEnv_comp ?_) (by show 0 ≤ sizeLine; decide)
  have free2 : H2 s2.heap.objs.size = none := I2.hok.fresh (Nat.le_refl _)
  have below : ∀ b ∈ fp, b < s2.heap.objs.size := fun b hb => by
    obtain ⟨o, e, _⟩ := T.obj _ _ st2 b hb
    exact Heap.lt_size e
  have laid3 : Inv X pins σ (upd H2 s2.heap.objs.size (.lst [])) { s2 with heap := s2.heap.push { cls := .type "list", data := .seq ([] : List Value).toArray } } :=
    I2.laid (t' := s2.toks) (fun b o e => Heap.get?_push_of_some _ e) (Nat.le_refl _) ⟨Nat.zero_le _, [], 0, .nil, Heap.get?_push_size _ rfl⟩
  have st3 : tn 0 (s2.heap.push { cls := .type "list", data := .seq ([] : List Value).toArray }) := T.keep _ _ _ st2 fun b _ o e => Heap.get?_push_of_some _ e
  obtain ⟨W, ⟨m0, w0⟩, turn⟩ := q _ free2
  generalize hD : s2.heap.objs.size = D at free2 below laid3 turn w0 ⊢
  generalize hH3 : upd H2 D (.lst []) = H3 at laid3 w0
  have f3 : ∀ b ∈ fp, FpOk X pins H3 b ∧ b < ({ s2 with heap := s2.heap.push { cls := .type "list", data := .seq ([] : List Value).toArray } } : Shared).heap.objs.size := fun b hb => by
    have lt := below b hb
    refine ⟨⟨?_, (f2 b hb).2⟩, ?_⟩
    · rw [← hH3, upd_ne (Nat.ne_of_lt lt)]
      exact (f2 b hb).1
    · show b < (s2.heap.push _).objs.size
      rw [Heap.size_push, hD]
      exact Nat.lt_succ_of_lt lt
  generalize hs3 : ({ s2 with heap := s2.heap.push { cls := .type "list", data := .seq ([] : List Value).toArray } } : Shared) = s3 at laid3 f3
  have h3 : s2.heap.push { cls := .type "list", data := .seq ([] : List Value).toArray } = s3.heap := by rw [← hs3]
  have hn3 : n ≤ s3.toks := by rw [← hs3]; exact hn2
  rw [h3] at st3
  have I4 := block_start laid3 ok hN f3
  have st4 : tn 0 (pushCells (s3.heap.push { cls := .type "dict", data := .dict #[] }) scope.names) := T.keep _ _ _ st3 fun b _ o e => pushCells_keeps _ _ _ _ (Heap.get?_push_of_some _ e)
  show codeAny _ _ (.compStart (.ListComp elt [⟨tg, iter, [], 0⟩] scope pos) 0 (.ref it) (.ref D) (blkE X scope s3)) (compPost (model X.prog X.w) X.A X.xe use Qf (.ref D) s3.heap.objs.size) { s3 with heap := pushCells (s3.heap.push { cls := .type "dict", data := .dict #[] }) scope.names }
  have loop : codeAny (model X.prog X.w) X.A (.compLoop (.ListComp elt [⟨tg, iter, [], 0⟩] scope pos) 0 (.ref it) (.ref D) (blkE X scope s3)) (compPost (model X.prog X.w) X.A X.xe use Qf (.ref D) s3.heap.objs.size) { s3 with heap := pushCells (s3.heap.push { cls := .type "dict", data := .dict #[] }) scope.names } := by
    refine lcn_loop (B := X.blk s3 H3 scope (blkE X scope s3) fp) (n := n) (J := J) (Qd := Q (.ref D)) (W := W) (vs := own.map (·.2)) (σ := σ) (fun b hb => hb) rfl rfl hc T (hg _ _ _ _ _) (he _ _ _ _ _) turn ?_ hn3 I4 st4 (fun b hb => (f3 b hb).1.1) w0
    intro H' s' J' qd
    have back : Inv X pins σ H' s' := laid3.call' (ch := fp) J'.os J'.base J'.hok J'.bare fun b hb => ⟨(f3 b hb).1.2.2.2.1, (f3 b hb).1.2.1, (f3 b hb).1.2.2.2.2.1, (f3 b hb).1.2.2.2.2.2⟩
    obtain ⟨m, hm, _⟩ := J'.loc
    exact hRR D s3.heap.objs.size s' m H' back qd hm (laid3.fpOk (Nat.le_refl _) J'.free)
  exact codeAny_compStart_list loop (T.self X.A 0 _ _ _ st4 loop)
/-- [e for x in xs], e wants n tokens out -/
theorem pen_lc {elt tg iter : Expr} {scope : Scope} {own : List (Str × Nat)} {pos : Pos} {wi : TI} {g : TG} {te : TE} (hc : X.calm = true) (hN : X.N.Nodup) (hi : PI X tg iter wi) (ok : BlkOk X.N X.env.scope scope own)
    (hg : ∀ (s : Shared) (H : Hp) (C : Addr) (cl : List (Str × Addr)) (fp : List Addr), PG (X.blk s H scope (compEnvC scope cl C X.env) fp) tg g)
    (he : ∀ (s : Shared) (H : Hp) (C : Addr) (cl : List (Str × Addr)) (fp : List Addr), PEn n (X.blk s H scope (compEnvC scope cl C X.env) fp) elt te) (hs : ∀ x, foldedSetIterable iter X.env x = pure x := by intro _; rfl) :
    PEn n X (.ListComp elt [⟨tg, iter, [], 0⟩] scope pos) (tLc wi g tYes te (own.map (·.2))) := by
  intro pins s σ H Q hn I h
  rw [eval_ListComp]
  refine lcn_core hc hN hn I hi ok hg he hs h fun D C s' m H' I' q hns f => ⟨m, hns, fun h2 sb => ?_⟩
  obtain ⟨a0, a1, _, a3, a4, a5⟩ := f
  exact ⟨.ref D, H', I'.turned (t' := s'.toks) (fun b o hb e => (sb.2 b hb).trans e) a0 a1 a3 a4 a5, rfl, q⟩
/-- y = [e for x in xs] on one line, y a local -/
theorem psn_setLc {i : Nat} {y : Str} {py : Pos} {elt tg iter : Expr} {scope : Scope} {own : List (Str × Nat)} {pos spos : Pos} {wi : TI} {g : TG} {te : TE} (hc : X.calm = true) (hN : X.N.Nodup) (hy : X.N[i]? = some y) (hyl : X.env.scope.names.lookup y = some .local)
    (hsw : swapsWith (.ListComp elt [⟨tg, iter, [], 0⟩] scope pos) (some (.Name y py)) spos.line X.env = pure true) (hi : PI X tg iter wi) (ok : BlkOk X.N X.env.scope scope own)
    (hg : ∀ (s : Shared) (H : Hp) (C : Addr) (cl : List (Str × Addr)) (fp : List Addr), PG (X.blk s H scope (compEnvC scope cl C X.env) fp) tg g)
    (he : ∀ (s : Shared) (H : Hp) (C : Addr) (cl : List (Str × Addr)) (fp : List Addr), PEn n (X.blk s H scope (compEnvC scope cl C X.env) fp) elt te) (hs : ∀ x, foldedSetIterable iter X.env x = pure x := by intro _; rfl) :
    PSn n X (.Assign [.Name y py] (.ListComp elt [⟨tg, iter, [], 0⟩] scope pos) spos) (tAsg (tLc wi g tYes te (own.map (·.2))) (gName i)) := by
  intro pins s σ H D hn I h
  rw [exec_Assign_Name_used _ _ _ _ hsw]
  refine wpAny_bind (wpAny_standAt (wpAny_bind ?_))
  show wpAny _ X.A (do let _ ← comprehension (.ListComp elt [⟨tg, iter, [], 0⟩] scope pos) scope X.env (firstIterPos [⟨tg, iter, [], 0⟩] pos) (newList []) false (eval iter X.env) (some (assign (.Name y py) X.env))) _ _ s
  have h' : tLc wi g tYes te (own.map (·.2)) σ H (fun x H1 => gName i x σ H1 D.nx) := h
  refine wpAny_bind (thn (lcn_core (Qf := fun _ s' => SP X pins D .next s') hc hN hn I hi ok hg he hs h' fun L C s' m H' I' q hns f => ?_) fun _ s' hq => wpAny_pure (wpAny_pure hq))
  show wpAny _ _ (assign (.Name y py) X.env (.ref L)) _ _ _
  refine wpAny_assign_Name (store_ok2 (v := V.ref L) I' hN hy (.inl hyl) rfl (fun s2 I2 ⟨a, sb, ha⟩ => ?_) (.inr hyl))
  obtain ⟨a0, a1, _, a3, a4, a5⟩ := f
  have haC : C ≠ a := ha.elim (fun z => by rw [z]; exact a1) fun z e => a4 y a z e.symm
  exact ⟨m, hns.sameBut sb haC, fun h3 sb3 => ⟨_, H', I2.turned (t' := s2.toks) (fun b o hb e => (sb3.2 b hb).trans e) a0 a1 a3 a4 a5, q⟩⟩
end
end TH
end
namespace TR
end TR
section
set_option maxHeartbeats 4000000
set_option linter.all false
namespace TM
/-- is it a tilt along rows -/
def isH (c : Nat) : Bool := c == 108 || c == 114
end TM
end
section
set_option maxHeartbeats 4000000
set_option linter.all false
namespace TM
def mb (l : List Nat) : List Nat := l.filter fun c => c != 46
def dots (n : Nat) : List Nat := List.replicate n 46
def sl (s : Bool) (l : List Nat) : List Nat := if s then mb l ++ dots (l.length - (mb l).length) else dots (l.length - (mb l).length) ++ mb l
theorem mb_le (l : List Nat) : (mb l).length ≤ l.length := List.length_filter_le _ _
theorem mb_dots (n : Nat) : mb (dots n) = [] := by
  unfold mb dots
  rw [List.filter_eq_nil_iff]
  intro a ha
  rw [(List.mem_replicate.mp ha).2]
  decide
theorem mb_app (a b : List Nat) : mb (a ++ b) = mb a ++ mb b := List.filter_append ..
theorem mb_mb (l : List Nat) : mb (mb l) = mb l := by unfold mb; rw [List.filter_filter]; simp
theorem sl_len (s : Bool) (l : List Nat) : (sl s l).length = l.length := by
  have := mb_le l
  cases s <;> simp [sl, dots] <;> omega
theorem mb_sl (s : Bool) (l : List Nat) : mb (sl s l) = mb l := by
  cases s <;> simp [sl, mb_app, mb_dots, mb_mb]
abbrev Grid := List (List Nat)
def tr (m : Nat) (g : Grid) : Grid := (List.range m).map fun j => g.map fun r => r.getD j 46
def Rect (n m : Nat) (g : Grid) : Prop := g.length = n ∧ ∀ r ∈ g, r.length = m
theorem tr_rect {n m : Nat} {g : Grid} (h : Rect n m g) : Rect m n (tr m g) := by
  refine ⟨by simp [tr], fun r hr => ?_⟩
  obtain ⟨j, _, rfl⟩ := List.mem_map.mp hr
  simp [h.1]
theorem tr_get {m j : Nat} {g : Grid} (hj : j < m) : (tr m g)[j]? = some (g.map fun r => r.getD j 46) := by
  unfold tr
  rw [List.getElem?_map, List.getElem?_range hj]
  rfl
def LT (s : Bool) (g : Grid) : Grid := g.map (sl s)
def UT (s : Bool) (n m : Nat) (g : Grid) : Grid := tr n (LT s (tr m g))
theorem lt_rect {s : Bool} {n m : Nat} {g : Grid} (h : Rect n m g) : Rect n m (LT s g) := by
  refine ⟨by simp [LT, h.1], fun r hr => ?_⟩
  obtain ⟨q, hq, rfl⟩ := List.mem_map.mp hr
  rw [sl_len]
  exact h.2 q hq
theorem ut_rect {s : Bool} {n m : Nat} {g : Grid} (h : Rect n m g) : Rect n m (UT s n m g) := tr_rect (lt_rect (tr_rect h))
/-- a tilt -/
def tilt (n m : Nat) (g : Grid) (c : Nat) : Grid := if isH c then LT (c == 108) g else UT (c == 117) n m g
theorem tilt_rect {n m c : Nat} {g : Grid} (h : Rect n m g) : Rect n m (tilt n m g c) := by
  unfold tilt
  split
  · exact lt_rect h
  · exact ut_rect h
def tilts (n m : Nat) (t : List Nat) (g : Grid) : Grid := t.foldl (tilt n m) g
theorem tilts_snoc {n m c : Nat} (t : List Nat) (g : Grid) : tilts n m (t ++ [c]) g = tilt n m (tilts n m t g) c := by simp [tilts]
end TM
end
namespace TM
end TM
section
set_option maxHeartbeats 4000000
set_option linter.all false
namespace TM
def cell (G : Grid) (i j : Nat) : Nat := (G.getD i []).getD j 0
theorem getD_at {G : Grid} {i : Nat} (h : i < G.length) : G[i]? = some (G.getD i []) := by
  rw [List.getD_eq_getElem?_getD, List.getElem?_eq_getElem h]
  rfl
theorem getD_len {h w i : Nat} {G : Grid} (R : Rect h w G) (hi : i < h) : (G.getD i []).length = w := R.2 _ (List.mem_of_getElem? (getD_at (by rw [R.1]; exact hi)))
end TM
end
namespace TM
end TM
section
set_option maxHeartbeats 4000000
set_option linter.all false
namespace TM
theorem same_flat {n m : Nat} {a b : Grid} (ha : Rect n m a) (hb : Rect n m b) (e : a.flatten = b.flatten) : a = b := by
  refine List.eq_iff_flatten_eq.mpr ⟨e, ?_⟩
  have h1 : a.map List.length = List.replicate n m := by
    refine List.eq_replicate_iff.mpr ⟨by rw [List.length_map]; exact ha.1, fun x hx => ?_⟩
    obtain ⟨l, hl, rfl⟩ := List.mem_map.mp hx
    exact ha.2 l hl
  have h2 : b.map List.length = List.replicate n m := by
    refine List.eq_replicate_iff.mpr ⟨by rw [List.length_map]; exact hb.1, fun x hx => ?_⟩
    obtain ⟨l, hl, rfl⟩ := List.mem_map.mp hx
    exact hb.2 l hl
  rw [h1, h2]
end TM
end
section
set_option maxHeartbeats 4000000
set_option linter.all false
namespace TM
theorem mem_mb {l : List Nat} {c : Nat} : c ∈ mb l ↔ c ∈ l ∧ c ≠ 46 := by
  unfold mb
  rw [List.mem_filter]
  simp
theorem idx_at {l : List Nat} {c : Nat} (h : c ∈ l) : l.idxOf c < l.length ∧ l[l.idxOf c]? = some c := by
  have h1 := List.idxOf_lt_length_of_mem h
  exact ⟨h1, by rw [List.getElem?_eq_getElem h1, List.getElem_idxOf]⟩
section
variable {f : Nat → Nat} {A B : List Nat}
end
/-- the sign at a place of the flat list -/
theorem flat_at {w j : Nat} : ∀ {g : Grid} {h i : Nat}, Rect h w g → i < h → j < w → g.flatten[i * w + j]? = some (cell g i j)
  | [], h, i, R, hi, _ => by
    have := R.1
    simp at this
    omega
  | r :: g, h, i, R, hi, hj => by
    have hr : r.length = w := R.2 r List.mem_cons_self
    have R' : Rect (h - 1) w g := ⟨by have := R.1; simp at this; omega, fun x hx => R.2 x (List.mem_cons_of_mem _ hx)⟩
    rw [List.flatten_cons]
    match i with
    | 0 =>
      rw [Nat.zero_mul, Nat.zero_add, List.getElem?_append_left (by omega)]
      show _ = some (r.getD j 0)
      rw [List.getD_eq_getElem?_getD, List.getElem?_eq_getElem (by omega)]
      rfl
    | i + 1 =>
      rw [List.getElem?_append_right (by rw [hr, Nat.succ_mul]; omega)]
      have : (i + 1) * w + j - r.length = i * w + j := by rw [hr, Nat.succ_mul]; omega
      rw [this, flat_at (i := i) R' (by omega) hj]
      rfl
end TM
end
section
set_option Elab.async false
set_option maxRecDepth 100000
set_option linter.all false
namespace TK
open PySem L2
def top (i : Nat) : Stmt := PySem.Challenge.pw_tiltheap_k20_whole_blocks_and_replays.main.body.getD i (.Pass ⟨0, 0, 0, 0⟩)
abbrev sUnknownMarbleInit : Stmt := inClass (top 5) 0
abbrev sIsNumber : Stmt := top 13
abbrev sIsPlace : Stmt := top 14
abbrev sCheckPlace : Stmt := top 15
abbrev sIsTilt : Stmt := top 21
abbrev sWordInit : Stmt := inClass (top 22) 1
abbrev sWordText : Stmt := inClass (top 22) 2
abbrev sFirstWrongIndex : Stmt := top 23
abbrev sTrayInit : Stmt := inClass (top 28) 0
abbrev sTrayOfText : Stmt := inClass (top 28) 1
abbrev sTrayRows : Stmt := inClass (top 28) 2
abbrev sTrayMarbles : Stmt := inClass (top 28) 3
abbrev sTrayHeight : Stmt := inClass (top 28) 4
abbrev sTrayWidth : Stmt := inClass (top 28) 5
abbrev sTrayAt : Stmt := inClass (top 28) 6
abbrev sTrayCall : Stmt := inClass (top 28) 7
abbrev sTrayContains : Stmt := inClass (top 28) 8
abbrev sTrayRshift : Stmt := inClass (top 28) 9
abbrev sTrayEq : Stmt := inClass (top 28) 10
abbrev sFirstWrongCell : Stmt := top 29
abbrev sIsRow : Stmt := top 30
abbrev sTilted : Stmt := top 31
abbrev sSlid : Stmt := top 32
abbrev sAfterTilt : Stmt := top 34
abbrev sAfterPut : Stmt := top 35
abbrev sAfterTake : Stmt := top 36
abbrev sIsLetter : Stmt := top 37
abbrev sWithCell : Stmt := top 38
abbrev sLiveTrayInit : Stmt := inClass (top 41) 0
abbrev sLiveTrayReplay : Stmt := inClass (top 41) 1
abbrev sLiveTrayPresentTray : Stmt := inClass (top 41) 2
abbrev sLiveTrayHistory : Stmt := inClass (top 41) 3
abbrev sLiveTrayTilt : Stmt := inClass (top 41) 4
abbrev sLiveTrayPut : Stmt := inClass (top 41) 5
abbrev sLiveTrayTake : Stmt := inClass (top 41) 6
abbrev sLiveTrayUndo : Stmt := inClass (top 41) 7
abbrev sLiveTrayRedo : Stmt := inClass (top 41) 8
abbrev sLiveTrayApply : Stmt := inClass (top 41) 9
abbrev sLiveTrayTrayAfter : Stmt := inClass (top 41) 10
abbrev sLiveTrayExtendState : Stmt := inClass (top 41) 11
abbrev sLiveTrayContains : Stmt := inClass (top 41) 12
abbrev sLiveTrayLen : Stmt := inClass (top 41) 13
abbrev sLiveTrayEnter : Stmt := inClass (top 41) 14
abbrev sLiveTrayExit : Stmt := inClass (top 41) 15
abbrev sIsOperation : Stmt := top 42
abbrev sLawTaken : Stmt := top 44
abbrev sLawRows : Stmt := top 45
abbrev sLawTray : Stmt := top 46
abbrev sLawFree : Stmt := top 47
abbrev sLawDeed : Stmt := top 48
abbrev sLawIsDone : Stmt := top 49
abbrev sLaw : Stmt := top 50
/-- a text by its signs; one sign -/
abbrev S (t : List Nat) : Str := ⟨t.toArray⟩
abbrev sg (c : Nat) : V := .str ⟨#[c]⟩
theorem S_len (t : List Nat) : (S t).length = t.length := SX.S_len t
theorem S_size (t : List Nat) : (S t).cps.size = t.length := by simp [S]
theorem S_at (t : List Nat) (i : Nat) : (S t).cps[i]? = t[i]? := by simp [S]
theorem S_list (t : List Nat) : (S t).cps.toList = t := by simp [S]
theorem S_of (z : Str) : z = S z.cps.toList := (SX.S_tl z).symm
theorem S_inj {a b : List Nat} (h : S a = S b) : a = b := SX.S_inj h
theorem join_S (a : List Nat) (ys : List (List Nat)) : Txt.join (S a) (ys.map S) = S (TL.joinL a ys) := SX.join_S a ys
theorem joinL_nil : ∀ l : List (List Nat), TL.joinL [] l = l.flatten
  | [] => rfl
  | [p] => by simp [TL.joinL]
  | p :: q :: r => by
    have := joinL_nil (q :: r)
    simp only [TL.joinL, List.nil_append, this, List.flatten_cons]
theorem flat_ones : ∀ l : List Nat, (l.map fun c => [c]).flatten = l
  | [] => rfl
  | c :: r => by simp [flat_ones r]
theorem join_signs (l : List Nat) : Txt.join (Str.ofString "") (l.map fun c => S [c]) = S l := by
  have e := join_S [] (l.map fun c => [c])
  rw [List.map_map, joinL_nil, flat_ones] at e
  exact e
theorem sum_ones (l : List Nat) : ((l.map fun c => S [c]).map (·.length)).sum = l.length := by
  induction l with
  | nil => rfl
  | cons c r ih =>
    rw [List.map_cons, List.map_cons, List.sum_cons, ih]
    show 1 + r.length = r.length + 1
    omega
theorem same_new {H : Hp} {l : Addr} {o : HO} (h : H l = none) : Same H (upd H l o) := fun b o' e => by
  rw [upd_ne (ne_of_none e h)]
  exact e
theorem _root_.L2.Same.tup {K : PySem.W.Frag} {H H' : Hp} {a : Addr} {xs : List V} (e : Same H H') (h : SqT K H a xs) : SqT K H' a xs := by
  rcases h with (h | ⟨o, h⟩) | h
  · exact .inl (.inl (e _ _ h))
  · exact .inl (.inr ⟨o, e _ _ h⟩)
  · exact .inr h
/-- a store at an address that was new -/
theorem same_put {H H1 : Hp} {l : Addr} {o : HO} (s : Same H H1) (h : H l = none) : Same H (upd H1 l o) := fun b o' e => by
  rw [upd_ne (ne_of_none e h)]
  exact s b o' e
end TK
end
section
set_option Elab.async false
set_option maxRecDepth 100000
set_option linter.all false
namespace TK
open PySem L2 TM
/-- what is written about words -/
structure TxtW (K : PySem.W.Frag) (mg : Str → Option Value) : Prop where
  len : mg "len" = none
  isi : mg "isinstance" = none
  str : mg "str" = none
  enum : mg "enumerate" = none
  AR : ∃ u, mg "ALONG_ROWS" = some u ∧ RelV (.str (S [108, 114])) u
  AC : ∃ u, mg "ALONG_COLUMNS" = some u ∧ RelV (.str (S [117, 100])) u
section
variable {P : Program} {w : World} {K : PySem.W.Frag} {mg : Str → Option Value} {base : Heap}
theorem dAR (c : Nat) : decide (c ∈ (S [108, 114]).cps.toList) = isH c := by
  rw [S_list]
  by_cases h : isH c = true
  · rw [h, decide_eq_true]
    simpa [isH] using h
  · rw [Bool.not_eq_true] at h
    rw [h, decide_eq_false]
    simpa [isH] using h
end
end TK
end
section
set_option Elab.async false
set_option maxRecDepth 100000
set_option linter.all false
namespace TK
open PySem L2 TM
/-- is it a tilt's letter -/
def isT (c : Nat) : Bool := decide (c ∈ [108, 114, 117, 100])
/-- a word's text: tilts, so many at most -/
def Good (t : List Nat) : Prop := t.length ≤ 60 ∧ ∀ c ∈ t, isT c = true
def WordAt (C : Addr) (H : Hp) (a : Addr) (t : List Nat) : Prop := ∃ dx, H a = some (.ins C dx [("_text", .str (S t))])
/-- the class Word as the top has made it -/
structure ClsW (K : PySem.W.Frag) (mg : Str → Option Value) (C : Addr) : Prop where
  cl : Cls K C
  nT : NoAttr K C "_text"
  mgC : mg "Word" = some (.ref C)
  mx : ∃ mc u, ClX.CRead K C mc ∧ ClX.CVal K C mc "MAX_TILTS" (.int 60) u
section
variable {P : Program} {w : World} {K : PySem.W.Frag} {mg : Str → Option Value} {base : Heap} {C fT : Addr} {fdT : FuncData}
theorem scIt : FnScope ["value"] ["value"] (defScope sIsTilt) := ⟨rfl, rfl, rfl, by decide +kernel, rfl, by decide +kernel, by decide +kernel⟩
def spIt : Sp := fun vs H Q _ => ∃ c : Nat, vs = [sg c] ∧ Q (.bl (isT c)) H
theorem ok_it {f : Addr} {fd : FuncData} (F : Fun K "is_tilt" "is_tilt" sIsTilt f fd) (T : TxtW K mg) : FnOk P w K mg base CX0 1 f fd ["value"] spIt := by
  refine F.ok scIt (fun vs H Q E h => ?_) (fun cdv A outer s H vs Q E hr h => ?_)
  · obtain ⟨t, rfl, _⟩ := h
    rfl
  · obtain ⟨c, rfl, k⟩ := h
    refine ⟨_, pss_one (ps_ret (pe_and (pe_callB call_isi (by rfl) T.isi (by decide +kernel) (pa_cons (pv 0) (pa_cons (pe_bltn (v := .ty "str") (by rfl) T.str (by decide +kernel) rfl) pa_nil)))
      (pe_and (pe_cmpR op_eq (pe_callB call_len_str (by rfl) T.len PySem.boot_len (pa_cons (pv 0) pa_nil)) pe_int (nomark _))
        (pe_one (pe_cmpR op_in_sign (pv 0) (pe_op op_add_str (C8.pe_gc rfl T.AR) (C8.pe_gc rfl T.AC)) (by rfl)))))), ?_⟩
    refine ⟨_, rfl, _, _, _, _, true, rfl, .ty _, .base (.str _), kit_ty (by decide +kernel), true, rfl, iteT ?_⟩
    refine ⟨_, rfl, _, rfl, by show 1 ≤ sizeLine; decide, rfl, true, rfl, iteT ?_⟩
    refine ⟨_, rfl, _, _, rfl, rfl, by show 4 ≤ sizeLine; decide, c, _, rfl, rfl, ?_⟩
    exact k
theorem scFwi : FnScope ["text", "index", "letter"] ["text"] (defScope sFirstWrongIndex) := ⟨rfl, rfl, rfl, by decide +kernel, rfl, by decide +kernel, by decide +kernel⟩
def spFwi : Sp := fun vs H Q _ => ∃ t : List Nat, vs = [.str (S t)] ∧ Good t ∧ ∀ H', Same H H' → Q .non H'
theorem ok_fwi {f : Addr} {fd : FuncData} (F : Fun K "_first_wrong_index" "_first_wrong_index" sFirstWrongIndex f fd) (T : TxtW K mg) (CW : ClsW K mg C) (FT : Fun K "is_tilt" "is_tilt" sIsTilt fT fdT) (bT : Binds K fdT ["value"] []) (mT : mg "is_tilt" = some (.ref fT)) :
    FnOk P w K mg base CX0 2 f fd ["text"] spFwi := by
  have GT : FnOk P w K mg base CX0 1 fT fdT ["value"] spIt := ok_it FT T
  refine F.ok scFwi (fun vs H Q E h => ?_) (fun cdv A outer s H vs Q E hr h => ?_)
  · obtain ⟨t, rfl, _⟩ := h
    rfl
  · obtain ⟨t, rfl, ⟨hl, hg⟩, k⟩ := h
    refine ⟨_, pss_cons (ps_if (pt_not (pt_val (pe_callB call_isi (by rfl) T.isi (by decide +kernel) (pa_cons (pv 0) (pa_cons (pe_bltn (v := .ty "str") (by rfl) T.str (by decide +kernel) rfl) pa_nil))))) pss_never pss_nil)
      (pss_cons (ps_for PassesOwn.never rfl (TH.pi_enumS (by rfl) T.enum (pa_cons (pv 0) pa_nil)) (pg_tup rfl (pgs_cons (pg_name (i := 1) scFwi.nd rfl (.inl rfl)) (pgs_cons (pg_name (i := 2) scFwi.nd rfl (.inl rfl)) pgs_nil)))
        (pss_one (ps_if (PW.pt (pw_or (pt_cmpR op_ge (pv 1) (ClX.pe_cval (pe_glob (v := .ref C) rfl CW.mgC rfl)) (nomark _)) (pw_or1 (pt_not (pt_val (pe_call GT hr rfl mT FT.kp bT .nil pass0 (pa_cons (pv 2) pa_nil))))))) pss_never pss_nil)))
      (pss_one (ps_ret pe_non))), ?_⟩
    refine ⟨_, rfl, _, _, _, _, true, rfl, .ty _, .base (.str _), kit_ty (by decide +kernel), true, rfl, iteF ?_⟩
    refine ⟨_, rfl, _, rfl, for_it TH.walk_enumS (fun i σ H1 => ∃ v1 v2, σ = [some (.str (S t)), v1, v2] ∧ Same H H1) ⟨none, none, rfl, Same.refl H⟩ (fun _ _ _ _ _ => True.intro) ?_ ?_⟩
    · rintro i x σ H1 H2 hi ⟨v1, v2, rfl, sm⟩ ⟨p, c, rfl, hn, rfl, hc⟩
      rw [S_at] at hc
      have hit : i < t.length := (List.getElem?_eq_some_iff.mp hc).1
      have hcm : isT c = true := hg c (List.mem_of_getElem? hc)
      refine ⟨p, _, rfl, SqT.of upd_same, rfl, ?_⟩
      obtain ⟨mc, u, cr, cv⟩ := CW.mx
      refine ⟨_, _, rfl, _, _, rfl, rfl, _, rfl, C, mc, _, u, rfl, cr, cv, _, _, rfl, rfl, _, rfl, ?_⟩
      have e1 : decide ((i : Int) ≥ (60 : Int)) = false := decide_eq_false (by omega)
      rw [e1]
      refine iteF ⟨_, rfl, c, rfl, true, by rw [hcm], iteF ⟨_, _, rfl, sm.trans (same_new hn)⟩⟩
    · rintro σ H1 ⟨v1, v2, rfl, sm⟩
      exact k _ sm
theorem scWi : FnScope ["self", "text", "wrong"] ["self", "text"] (defScope sWordInit) := ⟨rfl, rfl, rfl, by decide +kernel, rfl, by decide +kernel, by decide +kernel⟩
def spWi (C : Addr) : Sp := fun vs H Q _ => ∃ (p dx : Addr) (t : List Nat), vs = [.ref p, .str (S t)] ∧ H p = some (.ins C dx []) ∧ Good t ∧ ∀ H', WordAt C H' p t → (∀ b o, H b = some o → b ≠ p → H' b = some o) → Q .non H'
theorem ok_wi {f fW : Addr} {fd fdW : FuncData} (F : Fun K "__init__" "Word.__init__" sWordInit f fd) (CW : ClsW K mg C) (GW : FnOk P w K mg base CX0 2 fW fdW ["text"] spFwi) (kW : PySem.W.keepIn K (.ref fW) = true) (bW : Binds K fdW ["text"] []) (mW : mg "_first_wrong_index" = some (.ref fW)) :
    FnOk P w K mg base CX0 3 f fd ["self", "text"] (spWi C) := by
  refine F.ok scWi (fun vs H Q E h => ?_) (fun cdv A outer s H vs Q E hr h => ?_)
  · obtain ⟨p, dx, t, rfl, _⟩ := h
    rfl
  · obtain ⟨p, dx, t, rfl, hp, hg, k⟩ := h
    refine ⟨_, pss_cons (ps_set (i := 2) scWi.nd rfl (.inl rfl) (pe_call GW hr rfl mW kW bW .nil pass0 (pa_cons (pv 1) pa_nil)))
      (pss_cons (ps_if (pt_cmpR op_notN (pv 2) pe_non (nomark _)) pss_never pss_nil)
      (pss_one (ps_fld (pv 0) (pv 1) rfl))), ?_⟩
    refine ⟨_, rfl, t, rfl, hg, fun H1 sm => ?_⟩
    refine ⟨_, rfl, rfl, _, rfl, iteF ?_⟩
    refine ⟨_, rfl, _, rfl, p, C, dx, [], rfl, sm _ _ hp, CW.cl, CW.nT, (by show 0 < 1000; decide), ?_⟩
    exact k _ ⟨dx, upd_same⟩ fun b o e hb => by rw [upd_ne hb]; exact sm _ _ e
end
end TK
end
section
set_option Elab.async false
set_option maxRecDepth 100000
set_option linter.all false
namespace TK
open PySem L2 TM
def letters : List Nat := [97, 98, 99, 100, 101, 102, 103, 104, 105, 106, 107, 108, 109, 110, 111, 112, 113, 114, 115, 116, 117, 118, 119, 120, 121, 122]
/-- a cell's sign: empty or a marble -/
def Cell (c : Nat) : Prop := c = 46 ∨ (97 ≤ c ∧ c ≤ 122)
theorem cell_in {c : Nat} (h : Cell c) : c ∈ [46] ++ letters := by
  unfold Cell at h
  simp only [letters, List.mem_append, List.mem_cons, List.not_mem_nil, or_false]
  omega
/-- rows that make a tray -/
structure VG (n m : Nat) (g : Grid) : Prop where
  rc : Rect n m g
  n1 : 1 ≤ n
  n8 : n ≤ 8
  m1 : 1 ≤ m
  m8 : m ≤ 8
  ok : ∀ r ∈ g, ∀ c ∈ r, Cell c
  nd : (mb g.flatten).Nodup
abbrev rowV (g : Grid) : List V := g.map fun r => V.str (S r)
theorem fresh {a b : List Nat} {c : Nat} (h : (mb (a ++ c :: b)).Nodup) : c ∉ mb a := fun hc => by
  have h46 : (c != 46) = true := (List.mem_filter.mp hc).2
  have e : mb (c :: b) = c :: mb b := by
    unfold mb
    rw [List.filter_cons, if_pos h46]
  rw [mb_app, e] at h
  exact (List.nodup_append.mp h).2.2 c hc c List.mem_cons_self rfl
/-- what comes ahead of the cell in column j of row i -/
def ahead (g : Grid) (r : List Nat) (i j : Nat) : List Nat := (g.take i).flatten ++ r.take j
theorem ahead_step {g : Grid} {r : List Nat} {i j c : Nat} (hc : r[j]? = some c) : ahead g r i (j + 1) = ahead g r i j ++ [c] := by
  unfold ahead
  rw [List.take_add_one, hc, List.append_assoc]
  rfl
theorem ahead_row {g : Grid} {r : List Nat} {i : Nat} (hr : g[i]? = some r) : (g.take (i + 1)).flatten = ahead g r i r.length := by
  unfold ahead
  rw [List.take_add_one, hr, List.take_length]
  simp
theorem ahead_all {g : Grid} {r : List Nat} {i j c : Nat} (hr : g[i]? = some r) (hc : r[j]? = some c) : ∃ b, g.flatten = ahead g r i j ++ c :: b := by
  have hi := (List.getElem?_eq_some_iff.mp hr).1
  have hj := (List.getElem?_eq_some_iff.mp hc).1
  have e1 : g = g.take i ++ r :: g.drop (i + 1) := by
    have := (List.getElem?_eq_some_iff.mp hr).2
    rw [← this]
    simp
  have e2 : r = r.take j ++ c :: r.drop (j + 1) := by
    have := (List.getElem?_eq_some_iff.mp hc).2
    rw [← this]
    simp
  refine ⟨r.drop (j + 1) ++ (g.drop (i + 1)).flatten, ?_⟩
  unfold ahead
  conv => lhs; rw [e1, List.flatten_append, List.flatten_cons, e2]
  simp
theorem mb_step {a : List Nat} {c : Nat} (h : c ≠ 46) : mb (a ++ [c]) = mb a ++ [c] := by
  rw [mb_app]
  simp [mb, h]
theorem mb_dot {a : List Nat} : mb (a ++ [46]) = mb a := by
  rw [mb_app]
  simp [mb]
/-- what is written about trays; t0: the text EMPTY's own token -/
structure TxtT (K : PySem.W.Frag) (mg : Str → Option Value) (t0 : Tok) : Prop where
  EM : mg "EMPTY" = some (.str (S [46]) t0)
  LE : ∃ u, mg "LETTERS" = some u ∧ RelV (.str (S letters)) u
  MS : ∃ u, mg "MAX_SIDE" = some u ∧ RelV (.int 8) u
  set : mg "set" = none
  zip : mg "zip" = none
  tup : mg "tuple" = none
theorem TxtT.em {K : PySem.W.Frag} {mg : Str → Option Value} {t0 : Tok} (T : TxtT K mg t0) : ∃ u, mg "EMPTY" = some u ∧ RelV (.str (S [46])) u := ⟨_, T.EM, ⟨_, rfl⟩⟩
section
variable {P : Program} {w : World} {K : PySem.W.Frag} {mg : Str → Option Value} {base : Heap} {t0 : Tok} {fR : Addr} {fdR : FuncData}
theorem scIr : FnScope ["row"] ["row"] (defScope sIsRow) := ⟨rfl, rfl, rfl, by decide +kernel, rfl, by decide +kernel, by decide +kernel⟩
def spIr : Sp := fun vs H Q _ => ∃ r : List Nat, vs = [.str (S r)] ∧ 1 ≤ r.length ∧ r.length ≤ 8 ∧ Q (.bl true) H
theorem ok_ir {f : Addr} {fd : FuncData} (F : Fun K "_is_row" "_is_row" sIsRow f fd) (T : TxtW K mg) (U : TxtT K mg t0) : FnOk P w K mg base CX0 1 f fd ["row"] spIr := by
  refine F.ok scIr (fun vs H Q E h => ?_) (fun cdv A outer s H vs Q E hr h => ?_)
  · obtain ⟨t, rfl, _⟩ := h
    rfl
  · obtain ⟨r, rfl, h1, h8, k⟩ := h
    refine ⟨_, pss_one (ps_ret (pe_and (pe_callB call_isi (by rfl) T.isi (by decide +kernel) (pa_cons (pv 0) (pa_cons (pe_bltn (v := .ty "str") (by rfl) T.str (by decide +kernel) rfl) pa_nil)))
      (pe_one (pe_chain op_le op_le pe_int (pe_callB call_len_str (by rfl) T.len PySem.boot_len (pa_cons (pv 0) pa_nil)) (C8.pe_gc rfl U.MS))))), ?_⟩
    refine ⟨_, rfl, _, _, _, _, true, rfl, .ty _, .base (.str _), kit_ty (by decide +kernel), true, rfl, iteT ?_⟩
    have hs : (S r).length ≤ sizeLine := by
      rw [S_len]
      show _ ≤ 16777216
      omega
    refine ⟨_, rfl, _, rfl, hs, _, _, rfl, rfl, _, rfl, ?_⟩
    have e1 : decide ((1 : Int) ≤ ((S r).length : Int)) = true := decide_eq_true (by rw [S_len]; omega)
    have e2 : decide (((S r).length : Int) ≤ (8 : Int)) = true := decide_eq_true (by rw [S_len]; omega)
    rw [e1]
    refine iteT ⟨_, _, rfl, rfl, ?_⟩
    show Q (V.bl (decide (((S r).length : Int) ≤ (8 : Int)))) H
    rw [e2]
    exact k
/-- the marbles of l are in the set at p -/
def Seen (P : Program) (w : World) (H : Hp) (p : Addr) (l : List Nat) (k : Nat) : Prop := ∃ (Z : Key → Bool) (n : Nat), H p = some (SetK P w p Z n) ∧ n ≤ k ∧ ∀ c : Nat, Z (.inr (S [c])) = decide (c ∈ mb l)
theorem one_inj {c d : Nat} : (Sum.inr (S [c]) : Key) = .inr (S [d]) ↔ c = d := ⟨fun h => by
  have := S_inj (Sum.inr.inj h)
  simpa using this, fun h => by rw [h]⟩
theorem scFc : FnScope ["rows", "seen", "number", "row", "column", "cell"] ["rows"] (defScope sFirstWrongCell) := ⟨rfl, rfl, rfl, by decide +kernel, rfl, by decide +kernel, by decide +kernel⟩
def spFc (K : PySem.W.Frag) : Sp := fun vs H Q _ => ∃ (a : Addr) (n m : Nat) (g : Grid), vs = [.ref a] ∧ SqT K H a (rowV g) ∧ VG n m g ∧ ∀ H', Same H H' → Q .non H'
theorem ok_fc {f : Addr} {fd : FuncData} (F : Fun K "_first_wrong_cell" "_first_wrong_cell" sFirstWrongCell f fd) (T : TxtW K mg) (U : TxtT K mg t0) (FR : Fun K "_is_row" "_is_row" sIsRow fR fdR) (bR : Binds K fdR ["row"] []) (mR : mg "_is_row" = some (.ref fR)) :
    FnOk P w K mg base CX0 2 f fd ["rows"] (spFc K) := by
  have GR : FnOk P w K mg base CX0 1 fR fdR ["row"] spIr := ok_ir FR T U
  refine F.ok scFc (fun vs H Q E h => ?_) (fun cdv A outer s H vs Q E hr h => ?_)
  · obtain ⟨a, n, m, g, rfl, _⟩ := h
    rfl
  · obtain ⟨a, n, m, g, rfl, hS, G, k⟩ := h
    refine ⟨_, pss_cons (ps_if (pt_not (pt_truth (pv 0) (by intro _; rfl))) pss_never pss_nil)
      (pss_cons (ps_set (i := 1) scFc.nd rfl (.inl rfl) (pe_callTy0 cr_set0K (by rfl) U.set (by decide +kernel)))
      (pss_cons (ps_for PassesOwn.never rfl (TH.pi_enumT (by rfl) T.enum (pa_cons (pv 0) pa_nil)) (pg_tup rfl (pgs_cons (pg_name (i := 2) scFc.nd rfl (.inl rfl)) (pgs_cons (pg_name (i := 3) scFc.nd rfl (.inl rfl)) pgs_nil)))
        (pss_cons (ps_if (PW.pt (pw_or (pt_cmpR op_ge (pv 2) (C8.pe_gc rfl U.MS) (nomark _)) (pw_or (pt_not (pt_val (pe_call GR hr rfl mR FR.kp bR .nil pass0 (pa_cons (pv 3) pa_nil))))
            (pw_or1 (pt_cmpR op_ne (pe_callB call_len_str (by rfl) T.len PySem.boot_len (pa_cons (pv 3) pa_nil)) (pe_callB call_len_str (by rfl) T.len PySem.boot_len (pa_cons (pe_ix ix_tup (pv 0) pe_int (fun _ _ => rfl)) pa_nil)) (nomark _)))))) pss_never pss_nil)
        (pss_one (ps_for PassesOwn.never rfl (TH.pi_enumS (by rfl) T.enum (pa_cons (pv 3) pa_nil)) (pg_tup rfl (pgs_cons (pg_name (i := 4) scFc.nd rfl (.inl rfl)) (pgs_cons (pg_name (i := 5) scFc.nd rfl (.inl rfl)) pgs_nil)))
          (pss_cons (ps_if (PW.pt (pw_or (pt_cmpR or_sinK (pv 5) (pv 1) (by rfl)) (pw_or1 (pt_cmpR op_notIn_sign (pv 5) (pe_op op_add_str (C8.pe_gc rfl U.em) (C8.pe_gc rfl U.LE)) (by rfl))))) pss_never pss_nil)
          (pss_one (ps_if (pt_cmpR op_ne (pv 5) (C8.pe_gc rfl U.em) (nomark _)) (pss_one (ps_expr (pe_saddK (pv 1) (pa_cons (pv 5) pa_nil)))) pss_nil)))))))
      (pss_one (ps_ret pe_non)))), ?_⟩
    have hg0 : (rowV g).isEmpty = false := by
      have := G.rc.1
      have := G.n1
      cases g with
      | nil => simp at *; omega
      | cons _ _ => rfl
    refine ⟨_, rfl, true, .inr (.inl ⟨_, hS, by rw [hg0]; rfl⟩), iteF ?_⟩
    refine ⟨rfl, fun p hp => ?_⟩
    refine ⟨_, rfl, a, rowV g, rfl, (same_new hp).tup hS, for_it TH.walk_enumT (fun i σ H1 => ∃ v2 v3 v4 v5, σ = [some (.ref a), some (.ref p), v2, v3, v4, v5] ∧ Same H H1 ∧ Seen P w H1 p (g.take i).flatten (i * 8))
      ⟨none, none, none, none, rfl, same_new hp, _, 0, upd_same, Nat.zero_le _, fun c => by simp [mb]⟩ (fun i σ H1 _ ⟨_, _, _, _, _, sm, _⟩ => sm.tup hS) ?_ ?_⟩
    · rintro i x σ H1 H2 hi ⟨v2, v3, v4, v5, rfl, sm, se⟩ ⟨q, y, rfl, hq, rfl, hy⟩
      obtain ⟨r, hr', rfl⟩ : ∃ r, g[i]? = some r ∧ y = V.str (S r) := by
        rw [List.getElem?_map] at hy
        cases e : g[i]? with
        | none => rw [e] at hy; cases hy
        | some r => rw [e] at hy; exact ⟨r, rfl, (Option.some.inj hy).symm⟩
      have hin : i < n := by
        have := (List.getElem?_eq_some_iff.mp hr').1
        rw [G.rc.1] at this
        exact this
      have hrm : r ∈ g := List.mem_of_getElem? hr'
      have hrl : r.length = m := G.rc.2 r hrm
      have n8 := G.n8
      have m1 := G.m1
      have m8 := G.m8
      refine ⟨_, _, rfl, SqT.of upd_same, rfl, _, _, rfl, _, _, rfl, rfl, ?_⟩
      have e1 : decide ((i : Int) ≥ (8 : Int)) = false := decide_eq_false (by omega)
      refine ⟨_, rfl, _, _, rfl, rfl, _, rfl, ?_⟩
      rw [e1]
      refine iteF ⟨_, rfl, r, rfl, by omega, by omega, true, rfl, iteF ?_⟩
      have sm2 : Same H (upd H1 q (.tup [.int (i : Nat), .str (S r)])) := sm.trans (same_new hq)
      have hs : (S r).length ≤ sizeLine := by
        rw [S_len]
        show _ ≤ 16777216
        omega
      obtain ⟨r0, hr0, hr0l⟩ : ∃ r0, g[0]? = some r0 ∧ r0.length = m := by
        have h0 : 0 < g.length := by rw [G.rc.1]; exact G.n1
        exact ⟨g[0], List.getElem?_eq_getElem h0, G.rc.2 _ (List.getElem_mem h0)⟩
      have hs0 : (S r0).length ≤ sizeLine := by
        rw [S_len]
        show _ ≤ 16777216
        omega
      refine ⟨_, rfl, _, rfl, hs, _, rfl, a, _, _, _, rfl, rfl, sm2.tup hS, atI_nat (j := 0) (v := V.str (S r0)) (by rw [List.getElem?_map, hr0]; all_goals rfl), _, rfl, hs0, rfl, _, rfl, ?_⟩
      have e2 : (!decide (V.int ((S r).length : Int) = V.int ((S r0).length : Int))) = false := by
        rw [S_len, S_len, hrl, hr0l]
        simp
      rw [e2]
      refine iteF ?_
      have se2 : Seen P w (upd H1 q (.tup [.int (i : Nat), .str (S r)])) p (g.take i).flatten (i * 8) := by
        obtain ⟨Z, n', h1, h2, h3⟩ := se
        exact ⟨Z, n', by rw [upd_ne (ne_of_none h1 hq)]; exact h1, h2, h3⟩
      refine ⟨_, rfl, S r, rfl, for_it TH.walk_enumS (fun j σ H2 => ∃ v4 v5, σ = [some (.ref a), some (.ref p), some (.int (i : Nat)), some (.str (S r)), v4, v5] ∧ Same H H2 ∧ Seen P w H2 p (ahead g r i j) (i * 8 + j))
        ⟨v4, v5, rfl, sm2, by unfold ahead; rw [List.take_zero, List.append_nil]; exact se2⟩ (fun _ _ _ _ _ => True.intro) ?_ ?_⟩
      · rintro j x σ H2 H3 hj ⟨v4, v5, rfl, sm, Z, k', hZ, hk', hz⟩ ⟨q', c, rfl, hq', rfl, hc⟩
        rw [S_at] at hc
        have hjm : j < m := by
          have := (List.getElem?_eq_some_iff.mp hc).1
          omega
        have hcell : Cell c := G.ok r hrm c (List.mem_of_getElem? hc)
        obtain ⟨b, hb⟩ := ahead_all hr' hc
        have hnew : c ∉ mb (ahead g r i j) := fresh (by rw [← hb]; exact G.nd)
        have hZ2 : upd H2 q' (.tup [.int (j : Nat), .str ⟨#[c]⟩]) p = some (SetK P w p Z k') := by rw [upd_ne (ne_of_none hZ hq')]; exact hZ
        refine ⟨_, _, rfl, SqT.of upd_same, rfl, _, _, rfl, _, _, rfl, rfl, ?_⟩
        have e3 : Z (.inr (S [c])) = false := by rw [hz c]; exact decide_eq_false hnew
        refine ⟨_, rfl, _, rfl, .inr (S [c]), p, Z, k', rfl, rfl, hZ2, _, rfl, ?_⟩
        rw [show (if false = true then !Z (.inr (S [c])) else Z (.inr (S [c]))) = false from e3]
        refine iteF ⟨_, rfl, _, _, rfl, rfl, by show 27 ≤ sizeLine; decide, c, _, rfl, rfl, _, rfl, ?_⟩
        have e4 : decide (c ∈ ((S [46] ++ S letters) : Str).cps.toList) = true := by
          rw [SX.S_cat]
          exact decide_eq_true (by rw [S_list]; exact cell_in hcell)
        rw [e4]
        refine iteF ⟨_, rfl, rfl, _, rfl, ?_⟩
        by_cases h46 : c = 46
        · subst h46
          refine iteF ⟨_, _, rfl, sm.trans (same_new hq'), Z, k', hZ2, by omega, fun d => ?_⟩
          rw [ahead_step hc, mb_dot]
          exact hz d
        · rw [show (!decide (sg c = V.str (S [46]))) = true by simp [h46]]
          refine iteT ⟨_, rfl, ⟨p, Z, k', rfl, hZ2⟩, _, rfl, p, .inr (S [c]), Z, k', rfl, rfl, hZ2, ?_, ?_⟩
          · show _ < 4096
            omega
          · refine ⟨_, _, rfl, same_put (sm.trans (same_new hq')) hp, _, _, upd_same, ?_, fun d => ?_⟩
            · rw [if_neg (by rw [e3]; exact Bool.false_ne_true)]
              omega
            · rw [ahead_step hc, mb_step h46, hz d]
              by_cases hd : d = c
              · subst hd; simp
              · rw [show decide ((Sum.inr (S [d]) : Key) = .inr (S [c])) = false from decide_eq_false fun z => hd (one_inj.mp z), Bool.or_false]
                simp [hd]
      · rintro σ H2 ⟨v4, v5, rfl, sm, se⟩
        refine ⟨_, _, _, _, rfl, sm, ?_⟩
        rw [ahead_row hr']
        rw [S_size] at se
        obtain ⟨Z, k', h1, h2, h3⟩ := se
        exact ⟨Z, k', h1, by omega, h3⟩
    · rintro σ H1 ⟨v2, v3, v4, v5, rfl, sm, se⟩
      exact k _ sm
end
end TK
end
section
set_option Elab.async false
set_option maxRecDepth 100000
set_option linter.all false
namespace TK
open PySem L2 TM
structure ClsT (K : PySem.W.Frag) (mg : Str → Option Value) (D : Addr) : Prop where
  cl : Cls K D
  nR : NoAttr K D "_rows"
  mgC : mg "Tray" = some (.ref D)
def TrayAt (K : PySem.W.Frag) (D : Addr) (H : Hp) (p : Addr) (g : Grid) : Prop := ∃ dx a, H p = some (.ins D dx [("_rows", .ref a)]) ∧ SqT K H a (rowV g)
theorem TrayAt.same {K : PySem.W.Frag} {D p : Addr} {H H' : Hp} {g : Grid} (h : TrayAt K D H p g) (s : Same H H') : TrayAt K D H' p g := by
  obtain ⟨dx, a, h, t⟩ := h
  exact ⟨dx, a, s _ _ h, s.tup t⟩
theorem VG.len {n m : Nat} {g : Grid} (G : VG n m g) : g.length ≤ 8 := by rw [G.rc.1]; exact G.n8
theorem VG.row {n m : Nat} {g : Grid} (G : VG n m g) {r : List Nat} (h : r ∈ g) : r.length ≤ 8 := by rw [G.rc.2 r h]; exact G.m8
theorem VG.ne {n m : Nat} {g : Grid} (G : VG n m g) : g ≠ [] := fun e => by
  have := G.n1
  have := G.rc.1
  subst e
  simp at *
  omega
theorem joinL_len (sep : List Nat) (k : Nat) : ∀ g : Grid, (∀ r ∈ g, r.length ≤ k) → (TL.joinL sep g).length ≤ g.length * (k + sep.length)
  | [], _ => Nat.zero_le _
  | [p], h => by
    have := h p List.mem_cons_self
    show p.length ≤ 1 * _
    omega
  | p :: q :: r, h => by
    have h1 := joinL_len sep k (q :: r) fun z hz => h z (List.mem_cons_of_mem _ hz)
    have h2 := h p List.mem_cons_self
    simp only [TL.joinL, List.length_append, List.length_cons, Nat.add_mul, Nat.mul_add] at *
    omega
theorem lf_not {n m : Nat} {g : Grid} (G : VG n m g) : ∀ r ∈ g, 10 ∉ r := fun r hr h10 => by
  have := G.ok r hr 10 h10
  unfold Cell at this
  omega
theorem split_back {n m : Nat} {g : Grid} (G : VG n m g) : Txt.split (S (TL.joinL [10] g)) (S [10]) = g.map S := by
  rw [SX.split_S (by simp) (by rfl), SX.spl_join G.ne (lf_not G)]
section
variable {P : Program} {w : World} {K : PySem.W.Frag} {mg : Str → Option Value} {base : Heap} {D fF : Addr} {fdF : FuncData}
theorem scTi : FnScope ["self", "rows", "wrong", "row", "column"] ((["self"] : List Str) ++ (["rows"] : List Str)) (defScope sTrayInit) := ⟨rfl, rfl, rfl, by decide +kernel, rfl, by decide +kernel, by decide +kernel⟩
def spTi (K : PySem.W.Frag) (D : Addr) : Sp := fun vs H Q _ => ∃ (p dx a : Addr) (n m : Nat) (g : Grid), vs = [.ref p, .ref a] ∧ H p = some (.ins D dx []) ∧ SqT K H a (rowV g) ∧ VG n m g ∧ ∀ H', TrayAt K D H' p g → (∀ b o, H b = some o → b ≠ p → H' b = some o) → Q .non H'
theorem seq_but {K : PySem.W.Frag} {H H' : Hp} {p a : Addr} {o : HO} {xs : List V} (h : SqT K H a xs) (hp : H p = some o) (ho : ∀ u xs, o ≠ .frz u (.tup xs) ∧ o ≠ .tup xs) (kp : ∀ b o, H b = some o → b ≠ p → H' b = some o) : SqT K H' a xs := by
  rcases h with (h | ⟨u, h⟩) | h
  · exact .inl (.inl (kp _ _ h fun e => by subst e; exact (ho ⟨.none, none, .plain, #[]⟩ xs).2 (Option.some.inj (hp.symm.trans h))))
  · exact .inl (.inr ⟨u, kp _ _ h fun e => by subst e; exact (ho u xs).1 (Option.some.inj (hp.symm.trans h))⟩)
  · exact .inr h
theorem ok_ti {f : Addr} {fd : FuncData} (F : Fun K "__init__" "Tray.__init__" sTrayInit f fd) (CT : ClsT K mg D) (GF : FnOk P w K mg base CX0 2 fF fdF ["rows"] (spFc K)) (kF : PySem.W.keepIn K (.ref fF) = true) (bF : Binds K fdF ["rows"] []) (mF : mg "_first_wrong_cell" = some (.ref fF)) :
    FnR P w K mg base CX0 3 f (fun vs H Q E => ∃ ws rest, vs = ws ++ rest ∧ ws.length = 1 ∧ rest.length ≤ sizeLine ∧ ∀ p, H p = Option.none → spTi K D (ws ++ [V.ref p]) (upd H p (.tup rest)) Q E) := by
  obtain ⟨oc, od, kV, doc, pm, an, cdv, ct, osl, rfl, lk, hcd⟩ := F.ex
  refine StX.fn_star (ps := ["self"]) (pv := "rows") lk hcd scTi StX.cxUp_none (StX.bind_star1 (B := fun us => bindArgs (PySem.W.fnOf "__init__" "Tray.__init__" (defArgs sTrayInit) (defBody sTrayInit) (defScope sTrayInit) .none kV doc pm an cdv ct) ⟨us, []⟩) (p1 := "self") (pv := "rows") (fun _ => rfl) fun _ _ _ => rfl) fun A outer s H vs Q E hr h => ?_
  obtain ⟨p, dx, a, n, m, g, rfl, hp, hS, G, k⟩ := h
  refine ⟨_, pss_cons (ps_set (i := 2) scTi.nd rfl (.inl rfl) (pe_call GF hr rfl mF kF bF .nil pass0 (pa_cons (pv 1) pa_nil)))
    (pss_cons (ps_if (pt_cmpR op_notN (pv 2) pe_non (nomark _)) pss_never pss_nil)
    (pss_one (ps_fld (pv 0) (pv 1) rfl))), ?_⟩
  refine ⟨_, rfl, a, n, m, g, rfl, hS, G, fun H1 sm => ?_⟩
  refine ⟨_, rfl, rfl, _, rfl, iteF ?_⟩
  refine ⟨_, rfl, _, rfl, p, D, dx, [], rfl, sm _ _ hp, CT.cl, CT.nR, (by show 0 < 1000; decide), ?_⟩
  refine k _ ⟨dx, a, upd_same, ?_⟩ fun b o e hb => by rw [upd_ne hb]; exact sm _ _ e
  exact seq_but (sm.tup hS) (sm _ _ hp) (fun _ _ => ⟨by simp, by simp⟩) fun b o e hb => by rw [upd_ne hb]; exact e
theorem scOt : FnScope ["cls", "text", "rows"] ["cls", "text"] (defScope sTrayOfText) := ⟨rfl, rfl, rfl, by decide +kernel, rfl, by decide +kernel, by decide +kernel⟩
def spOt (K : PySem.W.Frag) (D : Addr) : Sp := fun vs H Q _ => ∃ (n m : Nat) (g : Grid), vs = [.ref D, .str (S (TL.joinL [10] g))] ∧ VG n m g ∧ ∀ H' p, Same H H' → TrayAt K D H' p g → Q (.ref p) H'
theorem ok_ot {f fI : Addr} {fd : FuncData} (F : Fun K "of_text" "Tray.of_text" sTrayOfText f fd) (T : TxtW K mg) (M : Mk K D fI)
    (GI : FnR P w K mg base CX0 3 fI (fun vs H Q E => ∃ ws rest, vs = ws ++ rest ∧ ws.length = 1 ∧ rest.length ≤ sizeLine ∧ ∀ p, H p = Option.none → spTi K D (ws ++ [V.ref p]) (upd H p (.tup rest)) Q E)) :
    FnOk P w K mg base CX0 5 f fd ["cls", "text"] (spOt K D) := by
  refine F.ok scOt (fun vs H Q E h => ?_) (fun cdv A outer s H vs Q E hr h => ?_)
  · obtain ⟨n, m, g, rfl, _⟩ := h
    rfl
  · obtain ⟨n, m, g, rfl, G, k⟩ := h
    refine ⟨_, pss_cons (ps_if (pt_not (pt_val (pe_callB call_isi (by rfl) T.isi (by decide +kernel) (pa_cons (pv 1) (pa_cons (pe_bltn (v := .ty "str") (by rfl) T.str (by decide +kernel) rfl) pa_nil))))) pss_never pss_nil)
      (pss_cons (ps_set (i := 2) scOt.nd rfl (.inl rfl) (pe_split (pv 1) pe_str))
      (pss_one (ps_ret (TH.pe_makeSv M GI hr (pv 0) pass0 (pv 2))))), ?_⟩
    refine ⟨_, rfl, _, _, _, _, true, rfl, .ty _, .base (.str _), kit_ty (by decide +kernel), true, rfl, iteF ?_⟩
    have hl : (S (TL.joinL [10] g)).length + 2 ≤ sizeLine := by
      have h1 := joinL_len [10] 8 g fun r hr => G.row hr
      have h2 := G.len
      rw [S_len]
      show _ ≤ 16777216
      have : g.length * (8 + [10].length) = g.length * 9 := rfl
      omega
    refine ⟨_, rfl, ⟨_, rfl⟩, _, _, rfl, rfl, rfl, hl, fun l hl => ?_⟩
    have e : (Txt.split (S (TL.joinL [10] g)) (Str.ofString "\n")).map V.str = rowV g := by
      have := split_back G
      rw [show Str.ofString "\n" = S [10] from rfl, this, List.map_map]
      rfl
    rw [e]
    refine ⟨_, rfl, rfl, _, rfl, l, rowV g, rfl, .inr (SqL.of upd_same), fun x dx nx ndx nex => ?_⟩
    refine ⟨[.ref x], rowV g, rfl, rfl, ?_, fun p hp => ?_⟩
    · have := G.len
      rw [List.length_map]
      show _ ≤ 16777216
      omega
    have hpx : x ≠ p := fun z => by rw [← z, upd_same] at hp; cases hp
    refine ⟨x, dx, p, n, m, g, rfl, by rw [upd_ne hpx, upd_same], SqT.of upd_same, G, fun H' ht kp => ⟨rfl, ?_⟩⟩
    refine k _ _ (fun b o e => ?_) ht
    have hbl : b ≠ l := ne_of_none e hl
    have e1 : upd H l (.lst (rowV g)) b = some o := by rw [upd_ne hbl]; exact e
    have hbx : b ≠ x := ne_of_none e1 nx
    have hbd : b ≠ dx := ne_of_none e1 ndx
    have e2 : (upd (upd (upd H l (.lst (rowV g))) dx (.own x)) x (.ins D dx [])) b = some o := by rw [upd_ne hbx, upd_ne hbd]; exact e1
    exact kp b o (by rw [upd_ne (ne_of_none e2 hp)]; exact e2) hbx
end
end TK
end
section
set_option Elab.async false
set_option maxRecDepth 100000
set_option linter.all false
namespace TH
open PySem PySem.Spec PyProof.Rows L2
section
variable {J J1 : It} {n n1 : Nat} {G G1 : Hp → Prop} {Y Y1 : Nat → Hp → V → Hp → Prop}
/-- the inner walk -/
theorem in_it (w : Walk J1 n1 G1 Y1) {g1 : TG} {tt1 : TT} {te : TE} {vs1 : List Nat} {σ2 : L2.St} {H4 : Hp} {D : Addr} {Qe : Hp → Prop} (Pj : Nat → Hp → Prop) (h0 : Pj 0 H4) (hG : ∀ j H, j ≤ n1 → Pj j H → G1 H)
    (hs : ∀ j x H H', j < n1 → Pj j H → Y1 j H x H' → g1 x (wipe σ2 vs1) H' fun σ3 H5 => wipe σ3 vs1 = wipe σ2 vs1 ∧ tt1 σ3 H5 fun b H6 =>
      if b = true then te σ3 H6 fun y H7 => ∃ acc, H7 D = some (.lst acc) ∧ acc.length < sizeLine ∧ Pj (j + 1) (upd H7 D (.lst (acc ++ [y]))) else Pj (j + 1) H6) (hd : ∀ H, Pj n1 H → Qe H) :
    ∃ W1 : Nat → Nat → Hp → Prop, (∃ m, W1 0 m H4) ∧ ∀ j k H, W1 j k H →
      (J1.stop j H ∧ Qe H) ∨ (J1.go j H ∧ ∃ Nx1 : Hp → Prop, (∀ H', Nx1 H' → ∃ k', k' < k ∧ W1 (j + 1) k' H') ∧ ∀ x H', J1.yld j H x H' → g1 x (wipe σ2 vs1) H' fun σ3 H5 => wipe σ3 vs1 = wipe σ2 vs1 ∧ tt1 σ3 H5 fun b H6 =>
        if b = true then te σ3 H6 fun y H7 => ∃ acc, H7 D = some (.lst acc) ∧ acc.length < sizeLine ∧ Nx1 (upd H7 D (.lst (acc ++ [y]))) else Nx1 H6) := by
  refine ⟨fun i m H => m = n1 - i ∧ i ≤ n1 ∧ Pj i H, ⟨n1, by simp, Nat.zero_le _, h0⟩, ?_⟩
  rintro i m H ⟨rfl, hi, p⟩
  have q := hG i H hi p
  by_cases hlt : i < n1
  · exact .inr ⟨w.goes i H hlt q, Pj (i + 1), fun H' p' => ⟨n1 - (i + 1), by omega, rfl, hlt, p'⟩, fun x H' y => hs i x H H' hlt p (w.yields i H x H' hlt q y)⟩
  · have e : i = n1 := by omega
    subst e
    exact .inl ⟨w.stops H q, hd H p⟩
/-- the outer walk -/
theorem lc2_it (w : Walk J n G Y) {g g1 : TG} {tt tt1 : TT} {wi1 : TI} {te : TE} {vs vs1 : List Nat} {σ : L2.St} {H1 : Hp} {D : Addr} {Qd : Hp → Prop} (Pv : Nat → Hp → Prop) (h0 : Pv 0 (upd H1 D (.lst []))) (hG : ∀ i H, i ≤ n → Pv i H → G H)
    (hs : ∀ i x H H', i < n → Pv i H → Y i H x H' → g x (wipe σ vs) H' fun σ2 H2 => wipe σ2 vs = wipe σ vs ∧ tt σ2 H2 fun b H3 =>
      if b = true then wi1 σ2 H3 fun J1 H4 => ∃ W1 : Nat → Nat → Hp → Prop, (∃ m, W1 0 m H4) ∧ ∀ j k H, W1 j k H →
        (J1.stop j H ∧ Pv (i + 1) H) ∨ (J1.go j H ∧ ∃ Nx1 : Hp → Prop, (∀ H', Nx1 H' → ∃ k', k' < k ∧ W1 (j + 1) k' H') ∧ ∀ x H', J1.yld j H x H' → g1 x (wipe σ2 vs1) H' fun σ3 H5 => wipe σ3 vs1 = wipe σ2 vs1 ∧ tt1 σ3 H5 fun b H6 =>
          if b = true then te σ3 H6 fun y H7 => ∃ acc, H7 D = some (.lst acc) ∧ acc.length < sizeLine ∧ Nx1 (upd H7 D (.lst (acc ++ [y]))) else Nx1 H6)
      else Pv (i + 1) H3) (hd : ∀ H, Pv n H → Qd H) :
    ∃ W : Nat → Nat → Hp → Prop, (∃ m, W 0 m (upd H1 D (.lst []))) ∧ ∀ i m H, W i m H →
      (J.stop i H ∧ Qd H) ∨ (J.go i H ∧ ∃ Nx : Hp → Prop, (∀ H', Nx H' → ∃ m', m' < m ∧ W (i + 1) m' H') ∧ ∀ x H', J.yld i H x H' → g x (wipe σ vs) H' fun σ2 H2 => wipe σ2 vs = wipe σ vs ∧ tt σ2 H2 fun b H3 =>
        if b = true then wi1 σ2 H3 fun J1 H4 => ∃ W1 : Nat → Nat → Hp → Prop, (∃ m, W1 0 m H4) ∧ ∀ j k H, W1 j k H →
          (J1.stop j H ∧ Nx H) ∨ (J1.go j H ∧ ∃ Nx1 : Hp → Prop, (∀ H', Nx1 H' → ∃ k', k' < k ∧ W1 (j + 1) k' H') ∧ ∀ x H', J1.yld j H x H' → g1 x (wipe σ2 vs1) H' fun σ3 H5 => wipe σ3 vs1 = wipe σ2 vs1 ∧ tt1 σ3 H5 fun b H6 =>
            if b = true then te σ3 H6 fun y H7 => ∃ acc, H7 D = some (.lst acc) ∧ acc.length < sizeLine ∧ Nx1 (upd H7 D (.lst (acc ++ [y]))) else Nx1 H6)
        else Nx H3) := by
  refine ⟨fun i m H => m = n - i ∧ i ≤ n ∧ Pv i H, ⟨n, by simp, Nat.zero_le _, h0⟩, ?_⟩
  rintro i m H ⟨rfl, hi, p⟩
  have q := hG i H hi p
  by_cases hlt : i < n
  · exact .inr ⟨w.goes i H hlt q, Pv (i + 1), fun H' p' => ⟨n - (i + 1), by omega, rfl, hlt, p'⟩, fun x H' y => hs i x H H' hlt p (w.yields i H x H' hlt q y)⟩
  · have e : i = n := by omega
    subst e
    exact .inl ⟨w.stops H q, hd H p⟩
end
end TH
end
section
set_option Elab.async false
set_option maxRecDepth 100000
set_option linter.all false
namespace TK
open PySem L2 TM
open PySem.Spec PyProof.Rows TH
section
variable {X : Cx} {n : Nat} {t0 : Tok}
theorem mt_ljustF : MtR X "str.ljust" (fun x xs H Q => ∃ (a : Str) (i : Int) (c : Nat), x = .str a ∧ xs = [.int i, .str ⟨#[c]⟩] ∧ PadOk i = true ∧ Q (.str (Txt.ljustF a i c)) H) := by
  intro pins s σ H x xs v us Q I rx rs h
  obtain ⟨a, i, c, rfl, rfl, hp, q⟩ := h
  obtain ⟨t, rfl⟩ := rx
  obtain ⟨u1, u2, rfl, r1, r2⟩ := vals2 rs
  obtain ⟨t1, rfl⟩ := (show ∃ t, u1 = Value.int i t from r1)
  obtain ⟨t2, rfl⟩ := (show ∃ t, u2 = Value.str ⟨#[c]⟩ t from r2)
  exact ljust_fill hp rfl fun t' k => ⟨.str (Txt.ljustF a i c), H, I.tok k, ⟨t', rfl⟩, q⟩
theorem mt_rjustF : MtR X "str.rjust" (fun x xs H Q => ∃ (a : Str) (i : Int) (c : Nat), x = .str a ∧ xs = [.int i, .str ⟨#[c]⟩] ∧ PadOk i = true ∧ Q (.str (Txt.rjustF a i c)) H) := by
  intro pins s σ H x xs v us Q I rx rs h
  obtain ⟨a, i, c, rfl, rfl, hp, q⟩ := h
  obtain ⟨t, rfl⟩ := rx
  obtain ⟨u1, u2, rfl, r1, r2⟩ := vals2 rs
  obtain ⟨t1, rfl⟩ := (show ∃ t, u1 = Value.int i t from r1)
  obtain ⟨t2, rfl⟩ := (show ∃ t, u2 = Value.str ⟨#[c]⟩ t from r2)
  exact rjust_fill hp rfl fun t' k => ⟨.str (Txt.rjustF a i c), H, I.tok k, ⟨t', rfl⟩, q⟩
/-- o.replace(EMPTY, ''): the signs that are left -/
def tStrike (y : Str) (to : TE) : TE := fun σ H Q => to σ H fun x H1 => ∃ a : Str, x = .str a ∧ a.length + (a.length + 1) * 0 ≤ 16777216 ∧ Q (.str (Txt.replace a y Str.empty)) H1
theorem pen_strike {o : Expr} {to : TE} {x : Str} {y : Str} {k : Nat} {p c apos pos : Pos} (ho : PE X o to) (hg : Gl X x) (hm : X.mg x = some (.str y t0)) (h0 : t0 ≠ 0) (ht : t0 < n) (hy : (y == Str.empty) = false) (hd : (x == ("__debug__" : Str)) = false := by decide)
    (hst : starEach [.Name x p, .Constant (.str Str.empty) k c] X.env = [(false, eval (.Name x p) X.env), (false, eval (.Constant (.str Str.empty) k c) X.env)] := by rfl)
    (hbase : attributeBase o "replace" X.env (eval o X.env) = eval o X.env := by rfl) (hline : (apos.endLine == pos.line) = true := by rfl) :
    PEn n X (.Call (.Attribute o "replace" apos) [.Name x p, .Constant (.str Str.empty) k c] [] pos) (tStrike y to) := by
  intro pins s σ H Q hn I h
  refine PySem.Call_method2 hbase hst hline (thnN hn (ho.run pins s σ H _ I h) fun v s1 hn1 ⟨x1, H1, I1, r1, a, e, hb, q⟩ => ?_)
  subst e
  obtain ⟨ta, rfl⟩ := r1
  refine ⟨"str", _, PySem.F.plainAttrs_str, PySem.F.slot_str_replace, PySem.F.type_str_replace, typeIs_str _ _ _, (fun _ e => nomatch e), Calls.callWith_builtin rfl (Calls.evalArgs_plain (Calls.spliced_cons ?_))⟩
  refine ld_glob I1 hg hm ?_ hd
  refine Calls.spliced_cons (Calls.Constant_str (Calls.spliced_nil ?_))
  have hs : s1.toks ≠ 0 := fun e => by
    rw [e] at hn1
    exact Nat.not_lt_zero _ (Nat.lt_of_lt_of_le ht hn1)
  exact PySem.SC.replace h0 hs (fun e => by rw [e] at ht; exact Nat.lt_irrefl _ (Nat.lt_of_lt_of_le ht hn1)) hy hb fun t' j => ⟨.str (Txt.replace a y Str.empty), H1, I1.tok j, ⟨t', rfl⟩, q⟩
end
theorem strike_mb (l : List Nat) : Txt.replace (S l) (S [46]) Str.empty = S (mb l) := by
  have e := PyProof.Rows.replace_strikes (S l) 46
  rw [S_of (Txt.replace (S l) (S [46]) Str.empty)]
  refine congrArg S ?_
  rw [show (S [46] : Str) = ⟨#[46]⟩ from rfl, show (Str.empty : Str) = ⟨#[]⟩ from rfl, e, S_list]
  rfl
theorem ljust_sl (l : List Nat) : Txt.ljustF (S (mb l)) (l.length : Int) 46 = S (sl true l) := by
  have hle := mb_le l
  unfold Txt.ljustF sl dots
  rw [S_len]
  split
  · rename_i h
    have e : l.length - (mb l).length = 0 := by omega
    rw [if_pos rfl, e]
    simp
  · rw [if_pos rfl]
    unfold Builtin.Str.padded
    simp
theorem rjust_sl (l : List Nat) : Txt.rjustF (S (mb l)) (l.length : Int) 46 = S (sl false l) := by
  have hle := mb_le l
  unfold Txt.rjustF sl dots
  rw [S_len]
  split
  · rename_i h
    have e : l.length - (mb l).length = 0 := by omega
    rw [if_neg Bool.false_ne_true, e]
    simp
  · rw [if_neg Bool.false_ne_true]
    unfold Builtin.Str.padded
    simp
section
variable {P : Program} {w : World} {K : PySem.W.Frag} {mg : Str → Option Value} {base : Heap} {t0 : Tok} {n : Nat}
theorem scSl : FnScope ["line", "to_beginning", "marbles"] ["line", "to_beginning"] (defScope sSlid) := ⟨rfl, rfl, rfl, by decide +kernel, rfl, by decide +kernel, by decide +kernel⟩
def spSl : Sp := fun vs H Q _ => ∃ (l : List Nat) (b : Bool), vs = [.str (S l), .bl b] ∧ l.length ≤ 8 ∧ Q (.str (S (sl b l))) H
theorem ok_sl {f : Addr} {fd : FuncData} (F : Fun K "_slid" "_slid" sSlid f fd) (T : TxtW K mg) (U : TxtT K mg t0) (b : Binds K fd ["line", "to_beginning"] []) (h0 : t0 ≠ 0) (ht : t0 < n) : FnRn n P w K mg base CX0 1 f spSl := by
  refine fn_n F b scSl (fun vs H Q E h => ?_) fun cdv A outer s H vs Q E hr h => ?_
  · obtain ⟨l, b, rfl, _⟩ := h
    rfl
  · obtain ⟨l, b, rfl, h8, k⟩ := h
    have hlen : (S l).length ≤ sizeLine := by
      rw [S_len]
      show _ ≤ 16777216
      omega
    have hpad : PadOk (((S l).length : Nat) : Int) = true := by
      rw [S_len]
      exact padOk_of (by omega) (by omega)
    refine ⟨_, pssn_cons (psn_set (i := 2) scSl.nd rfl (.inl rfl) (pen_strike (pv 0) rfl U.EM h0 ht (by decide +kernel)))
      (pssn_cons (PS.up (ps_if (pt_val (pv 1)) (pss_one (ps_ret (pe_bm PySem.F.plainAttrs_str PySem.F.slot_str_ljust PySem.F.type_str_ljust mt_ljustF (pv 2) (pa_cons (pe_callB call_len_str (by rfl) T.len PySem.boot_len (pa_cons (pv 0) pa_nil)) (pa_cons (C8.pe_gc rfl U.em) pa_nil))))) pss_nil))
      (pssn_one (PS.up (ps_ret (pe_bm PySem.F.plainAttrs_str PySem.F.slot_str_rjust PySem.F.type_str_rjust mt_rjustF (pv 2) (pa_cons (pe_callB call_len_str (by rfl) T.len PySem.boot_len (pa_cons (pv 0) pa_nil)) (pa_cons (C8.pe_gc rfl U.em) pa_nil))))))), ?_⟩
    refine ⟨_, rfl, S l, rfl, ?_, ?_⟩
    · rw [S_len]
      omega
    rw [strike_mb]
    refine ⟨_, rfl, b, rfl, ?_⟩
    cases b with
    | true =>
      refine iteT ⟨_, rfl, rfl, _, rfl, _, rfl, hlen, _, _, 46, rfl, rfl, hpad, ?_⟩
      rw [S_len, ljust_sl]
      exact k
    | false =>
      refine iteF ⟨_, rfl, rfl, _, rfl, _, rfl, hlen, _, _, 46, rfl, rfl, hpad, ?_⟩
      rw [S_len, rjust_sl]
      exact k
end
end TK
end
section
set_option Elab.async false
set_option maxRecDepth 100000
set_option linter.all false
namespace TK
open PySem L2 TM
open PySem.Spec PyProof.Rows TH
theorem at_map {α β : Type} {l : List α} {f : α → β} {i : Nat} {y : β} (h : (l.map f)[i]? = some y) : ∃ r, l[i]? = some r ∧ y = f r := by
  rw [List.getElem?_map] at h
  cases e : l[i]? with
  | none => rw [e] at h; cases h
  | some r => rw [e] at h; exact ⟨r, rfl, (Option.some.inj h).symm⟩
theorem take_map_snoc {α β : Type} {l : List α} {f : α → β} {i : Nat} {r : α} (h : l[i]? = some r) : (l.take (i + 1)).map f = (l.take i).map f ++ [f r] := by
  rw [List.take_add_one, h, List.map_append]
  rfl
/-- what zip hands out: a column -/
theorem col_of {g : Grid} {n m i : Nat} {cs : List Nat} (hr : Rect n m g) (hi : i < m) (hl : cs.length = (g.map S).length) (h : ∀ (k : Nat) (y : Str), (g.map S)[k]? = some y → ∃ c, y.cps[i]? = some c ∧ cs[k]? = some c) : (tr m g)[i]? = some cs := by
  rw [tr_get hi]
  refine congrArg some (List.ext_getElem? fun k => ?_)
  rw [List.getElem?_map]
  cases e : g[k]? with
  | none =>
    have : g.length ≤ k := List.getElem?_eq_none_iff.mp e
    rw [List.length_map] at hl
    rw [List.getElem?_eq_none_iff.mpr (by omega)]
    rfl
  | some r =>
    obtain ⟨c, h1, h2⟩ := h k (S r) (by rw [List.getElem?_map, e]; all_goals rfl)
    rw [S_at] at h1
    rw [h2]
    show some (r.getD i 46) = some c
    rw [List.getD_eq_getElem?_getD, h1]
    rfl
theorem dL (c d : Nat) : decide (sg c = V.str (S [d])) = (c == d) := by
  by_cases h : c = d
  · subst h; simp
  · simp [h]
/-- o.join(e), its reading by K -/
def rJn (K : PySem.W.Frag) : V → List V → Hp → VK → Prop := fun x xs H Q => ∃ a p, ∃ ys : List Str, x = .str a ∧ xs = [.ref p] ∧ (SqL K H p (ys.map V.str) ∨ SqT K H p (ys.map V.str)) ∧ (ys.map (·.length)).sum + ys.length * a.length ≤ 16777216 ∧ Q (.str (Txt.join a ys)) H
theorem pe_joinK {X : Cx} {K : PySem.W.Frag} {o e : Expr} {to te : TE} {apos pos : Pos} (hK : X.K = K) (ho : PE X o to) (he : PE X e te) (hs : starEach [e] X.env = [(false, eval e X.env)] := by rfl) (hbase : attributeBase o "join" X.env (eval o X.env) = eval o X.env := by rfl) (hline : (apos.endLine == pos.line) = true := by rfl) :
    PE X (.Call (.Attribute o "join" apos) [e] [] pos) (tM1 (rJn K) to te) := by
  subst hK
  exact pe_join ho he hs hbase hline
section
variable {P : Program} {w : World} {K : PySem.W.Frag} {mg : Str → Option Value} {base : Heap} {t0 : Tok} {n : Nat} {fS : Addr}
abbrev NTd : List Str := ["rows", "tilt", "columns", "row", "column"]
theorem scTd : FnScope NTd ["rows", "tilt"] (defScope sTilted) := ⟨rfl, rfl, rfl, by decide +kernel, rfl, by decide +kernel, by decide +kernel⟩
def spTd (K : PySem.W.Frag) : Sp := fun vs H Q _ => ∃ (a c h w : Nat) (g : Grid), vs = [.ref a, sg c] ∧ SqT K H a (rowV g) ∧ Rect h w g ∧ 1 ≤ h ∧ h ≤ 8 ∧ 1 ≤ w ∧ w ≤ 8 ∧ ∀ H' b, Same H H' → SqT K H' b (rowV (tilt h w g c)) → Q (.ref b) H'
theorem ok_td {f : Addr} {fd : FuncData} (F : Fun K "_tilted" "_tilted" sTilted f fd) (T : TxtW K mg) (U : TxtT K mg t0) (b : Binds K fd ["rows", "tilt"] []) (GS : FnRn n P w K mg base CX0 1 fS spSl) (kS : PySem.W.keepIn K (.ref fS) = true) (mS : mg "_slid" = some (.ref fS)) : FnRn n P w K mg base CX0 2 f (spTd K) := by
  refine fn_n F b scTd (fun vs H Q E h => ?_) fun cdv A outer s H vs Q E hr h => ?_
  · obtain ⟨a, c, h, w, g, rfl, _⟩ := h
    rfl
  · obtain ⟨a, c, h, w, g, rfl, hS, hr', h1, h8, w1, w8, k⟩ := h
    refine ⟨_, pssn_cons (psn_if (PT.up (pt_cmpR op_in_sign (pv 1) (C8.pe_gc rfl T.AR) (by rfl)))
        (pssn_one (psn_ret (pen_callTy call_tuple_of (by rfl) U.tup (by decide +kernel) (pan_cons (pen_lc (own := [("row", 3)]) (g := gName 3) rfl scTd.nd (pi_tup (pv 0)) (blkOk_by (N := NTd) (sc := defScope sTilted) (by decide +kernel)) (fun _ _ _ _ _ => pg_name (i := 3) scTd.nd rfl (.inl rfl))
          (fun _ _ _ _ _ => pen_call GS hr rfl mS kS pass0 (pan_cons (PE.up (pv 3)) (pan_cons (PE.up (pe_cmpR op_eq (pv 1) pe_str (nomark _))) pan_nil)))) pan_nil)))) (PSs.up pss_nil))
      (pssn_cons (psn_setLc (i := 2) (own := [("column", 4)]) (g := gName 4) rfl scTd.nd rfl rfl (sw_true rfl rfl rfl (by decide +kernel)) (pi_zips (by rfl) U.zip (pv 0)) (blkOk_by (N := NTd) (sc := defScope sTilted) (by decide +kernel)) (fun _ _ _ _ _ => pg_name (i := 4) scTd.nd rfl (.inl rfl))
          (fun _ _ _ _ _ => pen_call GS hr rfl mS kS pass0 (pan_cons (PE.up (pe_joinK (K := K) rfl pe_str (pv 4))) (pan_cons (PE.up (pe_cmpR op_eq (pv 1) pe_str (nomark _))) pan_nil))))
      (pssn_one (PS.up (ps_ret (pe_callTy call_tuple_of (by rfl) U.tup (by decide +kernel) (pa_cons (pe_lc (own := [("row", 3)]) (g := gName 3) (tt := tYes) rfl scTd.nd (pi_zips (by rfl) U.zip (pv 2)) (blkOk_by (N := NTd) (sc := defScope sTilted) (by decide +kernel)) (fun _ _ _ _ _ => pg_name (i := 3) scTd.nd rfl (.inl rfl)) (fun _ _ _ _ _ => pts_nil)
          (fun _ _ _ _ _ => pe_joinK (K := K) rfl pe_str (pv 3))) pa_nil)))))), ?_⟩
    have hrl : ∀ r ∈ g, r.length ≤ 8 := fun r hr => by rw [hr'.2 r hr]; exact w8
    refine ⟨_, rfl, c, S [108, 114], rfl, rfl, _, rfl, ?_⟩
    rw [dAR]
    by_cases hc : isH c = true
    · rw [hc]
      have et : tilt h w g c = TM.LT (c == 108) g := if_pos hc
      refine iteT ⟨_, rfl, a, rfl, ⟨_, hS⟩, fun D hD => lc_tup (K := K) (a := a) (xs := rowV g) (fun i H1 => Same H H1 ∧ H1 D = some (.lst ((g.take i).map fun r => V.str (S (sl (c == 108) r)))))
        ⟨same_new hD, upd_same⟩ (fun i H1 _ ⟨sm, _⟩ => sm.tup hS) ?_ ?_⟩
      · rintro i x H1 hi ⟨sm, hL⟩
        obtain ⟨r, hri, rfl⟩ := at_map hi
        have hrm := List.mem_of_getElem? hri
        refine ⟨rfl, ?_⟩
        refine ⟨_, rfl, _, rfl, rfl, r, c == 108, ?_, hrl r hrm, _, hL, ?_, ?_⟩
        · show [V.str (S r), V.bl (decide (sg c = V.str (S [108])))] = _
          rw [dL]
        · rw [List.length_map, List.length_take]
          show _ < 16777216
          have := hr'.1
          omega
        · refine ⟨same_put sm hD, ?_⟩
          rw [upd_same, take_map_snoc hri]
      · rintro H1 ⟨sm, hL⟩
        rw [List.length_map, List.take_length] at hL
        refine ⟨D, _, rfl, .inl ⟨SqL.of hL, fun l hl => ?_⟩⟩
        refine k _ l (sm.trans (same_new hl)) ?_
        rw [et]
        unfold TM.LT rowV
        rw [List.map_map]
        exact SqT.of upd_same
    · rw [Bool.not_eq_true] at hc
      rw [hc]
      have et : tilt h w g c = UT (c == 117) h w g := if_neg (by rw [hc]; exact Bool.false_ne_true)
      refine iteF ?_
      have hm : ∀ x ∈ g.map S, x.cps.size = w := fun x hx => by
        obtain ⟨r, hr, rfl⟩ := List.mem_map.mp hx
        rw [S_size]
        exact hr'.2 r hr
      have hS' : SqT K H a ((g.map S).map V.str) := by
        rw [List.map_map]
        exact hS
      refine ⟨_, rfl, a, g.map S, w, rfl, .inl hS', ?_, ?_, hm, fun D hD => lc_it walk_zips (fun i H1 => Same H H1 ∧ H1 D = some (.lst (((tr w g).take i).map fun r => V.str (S (sl (c == 117) r)))))
        ⟨same_new hD, upd_same⟩ (fun _ _ _ _ => True.intro) ?_ ?_⟩
      · rw [List.length_map, hr'.1]; omega
      · rw [List.length_map, hr'.1]; omega
      · rintro i x H1 H2 hi ⟨sm, hL⟩ ⟨T, cs, rfl, hT, rfl, hl, hcs⟩
        have hcol := col_of hr' hi hl hcs
        have hlc : cs.length = h := by rw [hl, List.length_map, hr'.1]
        have hL2 : upd H1 T (.tup (cs.map fun c => V.str ⟨#[c]⟩)) D = some (.lst (((tr w g).take i).map fun r => V.str (S (sl (c == 117) r)))) := by
          rw [upd_ne (ne_of_none hL hT)]
          exact hL
        refine ⟨rfl, ?_⟩
        refine ⟨⟨_, rfl⟩, _, rfl, _, T, cs.map fun c => S [c], rfl, rfl, .inr ?_, ?_, _, rfl, rfl, cs, c == 117, ?_, by omega, _, hL2, ?_, ?_⟩
        · rw [List.map_map]
          exact SqT.of upd_same
        · rw [sum_ones, List.length_map]
          show _ + _ * 0 ≤ _
          omega
        · show [V.str (Txt.join (Str.ofString "") (cs.map fun c => S [c])), V.bl (decide (sg c = V.str (S [117])))] = _
          rw [dL, join_signs]
        · rw [List.length_map, List.length_take]
          show _ < 16777216
          omega
        · refine ⟨same_put (sm.trans (same_new hT)) hD, ?_⟩
          rw [upd_same, take_map_snoc hcol]
      · rintro H1 ⟨sm, hL⟩
        have hrt := tr_rect hr'
        have hlt := lt_rect (s := c == 117) hrt
        rw [show (tr w g).take w = tr w g from List.take_of_length_le (by rw [hrt.1]; exact Nat.le_refl _)] at hL
        have hm2 : ∀ x ∈ (TM.LT (c == 117) (tr w g)).map S, x.cps.size = h := fun x hx => by
          obtain ⟨r, hr, rfl⟩ := List.mem_map.mp hx
          rw [S_size]
          exact hlt.2 r hr
        have hL' : SqL K H1 D (((TM.LT (c == 117) (tr w g)).map S).map V.str) := by
          unfold TM.LT
          rw [List.map_map, List.map_map]
          exact SqL.of hL
        refine ⟨_, rfl, D, (TM.LT (c == 117) (tr w g)).map S, h, rfl, .inr hL', ?_, ?_, hm2, fun D2 hD2 => lc_it walk_zips (fun i H2 => Same H H2 ∧ H2 D2 = some (.lst (((UT (c == 117) h w g).take i).map fun r => V.str (S r))))
          ⟨sm.trans (same_new hD2), upd_same⟩ (fun _ _ _ _ => True.intro) ?_ ?_⟩
        · rw [List.length_map, hlt.1]; omega
        · rw [List.length_map, hlt.1]; omega
        · rintro i x H2 H3 hi ⟨sm2, hL2⟩ ⟨T, cs, rfl, hT, rfl, hl, hcs⟩
          have hcol := col_of hlt hi hl hcs
          have hlc : cs.length = w := by rw [hl, List.length_map, hlt.1]
          have hL3 : upd H2 T (.tup (cs.map fun c => V.str ⟨#[c]⟩)) D2 = some (.lst (((UT (c == 117) h w g).take i).map fun r => V.str (S r))) := by
            rw [upd_ne (ne_of_none hL2 hT)]
            exact hL2
          refine ⟨rfl, ?_⟩
          refine ⟨⟨_, rfl⟩, _, rfl, _, T, cs.map fun c => S [c], rfl, rfl, .inr ?_, ?_, _, hL3, ?_, ?_⟩
          · rw [List.map_map]
            exact SqT.of upd_same
          · rw [sum_ones, List.length_map]
            show _ + _ * 0 ≤ _
            omega
          · rw [List.length_map, List.length_take]
            show _ < 16777216
            omega
          · refine ⟨same_put (sm2.trans (same_new hT)) (sm.free hD2), ?_⟩
            rw [upd_same, take_map_snoc (l := UT (c == 117) h w g) hcol, join_signs]
        · rintro H2 ⟨sm2, hL2⟩
          rw [show (UT (c == 117) h w g).take h = UT (c == 117) h w g from List.take_of_length_le (by rw [(ut_rect hr').1]; exact Nat.le_refl _)] at hL2
          refine ⟨D2, _, rfl, .inl ⟨SqL.of hL2, fun l hl => ?_⟩⟩
          refine k _ l (sm2.trans (same_new hl)) ?_
          rw [et]
          exact SqT.of upd_same
end
end TK
end
section
set_option Elab.async false
set_option maxRecDepth 100000
set_option linter.all false
namespace TK
open PySem L2 TM
open PySem.Spec PyProof.Rows TH
theorem mb_flat : ∀ g : Grid, mb g.flatten = (g.map mb).flatten
  | [] => rfl
  | r :: g => by rw [List.flatten_cons, mb_app, mb_flat g]; rfl
theorem flat_cons {f : Nat → Nat} {h : Nat → List Nat} : ∀ l : List Nat, ((l.map fun j => f j :: h j).flatten).Perm (l.map f ++ (l.map h).flatten)
  | [] => List.Perm.refl _
  | a :: l => by
    have ih := flat_cons (f := f) (h := h) l
    simp only [List.map_cons, List.flatten_cons, List.cons_append]
    refine List.Perm.cons _ ((List.Perm.append_left _ ih).trans ?_)
    rw [← List.append_assoc, ← List.append_assoc]
    exact List.Perm.append_right _ List.perm_append_comm
theorem flat_none : ∀ l : List Nat, ((l.map fun _ => ([] : List Nat)).flatten) = []
  | [] => rfl
  | _ :: l => by simp [flat_none l]
theorem get_all {m : Nat} {r : List Nat} (h : r.length = m) : (List.range m).map (fun j => r.getD j 46) = r := by
  subst h
  refine List.ext_getElem? fun k => ?_
  rw [List.getElem?_map]
  by_cases hk : k < r.length
  · rw [List.getElem?_range hk, List.getElem?_eq_getElem hk]
    simp [hk]
  · rw [List.getElem?_eq_none_iff.mpr (by simpa using hk), List.getElem?_eq_none_iff.mpr (by omega)]
    rfl
theorem tr_perm {m : Nat} : ∀ {g : Grid}, (∀ r ∈ g, r.length = m) → ((tr m g).flatten).Perm g.flatten
  | [], _ => by
    unfold tr
    rw [show ((List.range m).map fun j => ([] : Grid).map fun r => r.getD j 46) = (List.range m).map fun _ => [] from rfl, flat_none]
    exact List.Perm.refl _
  | r :: g, h => by
    have ih := tr_perm (g := g) fun z hz => h z (List.mem_cons_of_mem _ hz)
    unfold tr at ih ⊢
    refine (flat_cons (f := fun j => r.getD j 46) (h := fun j => g.map fun r => r.getD j 46) (List.range m)).trans ?_
    rw [get_all (h r List.mem_cons_self), List.flatten_cons]
    exact List.Perm.append_left _ ih
theorem lt_mb (s : Bool) (g : Grid) : mb (TM.LT s g).flatten = mb g.flatten := by
  rw [mb_flat, mb_flat]
  unfold TM.LT
  rw [List.map_map]
  congr 1
  exact List.map_congr_left fun r _ => mb_sl s r
/-- as many marbles, the same ones; and signs that are cells -/
structure Like (g g' : Grid) : Prop where
  pm : (mb g'.flatten).Perm (mb g.flatten)
  ok : (∀ c ∈ g.flatten, Cell c) → ∀ c ∈ g'.flatten, Cell c
theorem Like.trans {a b c : Grid} (x : Like a b) (y : Like b c) : Like a c := ⟨y.pm.trans x.pm, fun h => y.ok (x.ok h)⟩
theorem cell_of {l l' : List Nat} (e : mb l' = mb l) (h : ∀ c ∈ l, Cell c) : ∀ c ∈ l', Cell c := fun c hc => by
  by_cases h46 : c = 46
  · exact .inl h46
  · have : c ∈ mb l' := List.mem_filter.mpr ⟨hc, by simp [h46]⟩
    rw [e] at this
    exact h c (List.mem_filter.mp this).1
theorem like_lt (s : Bool) (g : Grid) : Like g (TM.LT s g) := ⟨by rw [lt_mb], cell_of (lt_mb s g)⟩
theorem like_tr {n m : Nat} {g : Grid} (h : Rect n m g) : Like g (tr m g) :=
  have p := tr_perm (m := m) h.2
  ⟨p.filter _, fun k c hc => k c (p.mem_iff.mp hc)⟩
theorem like_tilt {n m c : Nat} {g : Grid} (h : Rect n m g) : Like g (tilt n m g c) := by
  unfold tilt
  split
  · exact like_lt _ g
  · unfold UT
    exact ((like_tr h).trans (like_lt _ _)).trans (like_tr (lt_rect (tr_rect h)))
theorem VG.tilt {n m c : Nat} {g : Grid} (G : VG n m g) : VG n m (TM.tilt n m g c) := by
  have L := like_tilt (c := c) G.rc
  refine ⟨tilt_rect G.rc, G.n1, G.n8, G.m1, G.m8, fun r hr d hd => ?_, L.pm.nodup_iff.mpr G.nd⟩
  exact L.ok (fun d hd => by
    obtain ⟨r, hr, hd⟩ := List.mem_flatten.mp hd
    exact G.ok r hr d hd) d (List.mem_flatten.mpr ⟨r, hr, hd⟩)
theorem VG.tilts {n m : Nat} : ∀ (t : List Nat) {g : Grid}, VG n m g → VG n m (TM.tilts n m t g)
  | [], _, G => G
  | c :: t, g, G => VG.tilts t (G.tilt (c := c))
section
variable {P : Program} {w : World} {K : PySem.W.Frag} {mg : Str → Option Value} {base : Heap} {t0 : Tok} {n : Nat} {C D pT gT fD fI : Addr} {fdG : FuncData}
theorem scRs : FnScope ["self", "other", "rows", "tilt"] ["self", "other"] (defScope sTrayRshift) := ⟨rfl, rfl, rfl, by decide +kernel, rfl, by decide +kernel, by decide +kernel⟩
def spRs (K : PySem.W.Frag) (C D : Addr) : Sp := fun vs H Q _ => ∃ (p q : Addr) (h w : Nat) (g : Grid) (t : List Nat), vs = [.ref p, .ref q] ∧ TrayAt K D H p g ∧ VG h w g ∧ WordAt C H q t ∧ ∀ H' r, Same H H' → TrayAt K D H' r (tilts h w t g) → Q (.ref r) H'
theorem ok_rs {f : Addr} {fd : FuncData} (F : Fun K "__rshift__" "Tray.__rshift__" sTrayRshift f fd) (T : TxtW K mg) (CW : ClsW K mg C) (CT : ClsT K mg D) (IC : C8.InsC K C) (b : Binds K fd ["self", "other"] [])
    (PT : PropOf K C "text" pT gT) (GT : FnOk P w K mg base CX0 1 gT fdG ["self"] (getSp C "_text")) (bT : Binds K fdG ["self"] [])
    (GD : FnRn n P w K mg base CX0 2 fD (spTd K)) (kD : PySem.W.keepIn K (.ref fD) = true) (mD : mg "_tilted" = some (.ref fD)) (M : Mk K D fI)
    (GI : FnR P w K mg base CX0 3 fI (fun vs H Q E => ∃ ws rest, vs = ws ++ rest ∧ ws.length = 1 ∧ rest.length ≤ sizeLine ∧ ∀ p, H p = Option.none → spTi K D (ws ++ [V.ref p]) (upd H p (.tup rest)) Q E)) :
    FnRn n P w K mg base CX0 5 f (spRs K C D) := by
  refine fn_n F b scRs (fun vs H Q E h => ?_) fun cdv A outer s H vs Q E hr h => ?_
  · obtain ⟨p, q, h, w, g, t, rfl, _⟩ := h
    rfl
  · obtain ⟨p, q, h, w, g, t, rfl, ⟨dx, a, hp, hS⟩, G, ⟨dy, hq⟩, k⟩ := h
    refine ⟨_, pssn_cons (PS.up (ps_if (pt_not (pt_val (pe_callB (C8.call_isC IC) (by rfl) T.isi (by decide +kernel) (pa_cons (pv 1) (pa_cons (pe_glob (v := .ref C) rfl CW.mgC rfl) pa_nil))))) pss_never pss_nil))
      (pssn_cons (PS.up (ps_set (i := 2) scRs.nd rfl (.inl rfl) (pe_fld (pv 0) rfl)))
      (pssn_cons (psn_for PassesOwn.never rfl (pi_str (pe_prop (pv 1) CW.cl PT GT (hr.mono (by decide)) bT .nil pass0 rfl)) (pg_name (i := 3) scRs.nd rfl (.inl rfl))
        (pssn_one (psn_set (i := 2) scRs.nd rfl (.inl rfl) (pen_call GD (hr.mono (by decide)) rfl mD kD pass0 (pan_cons (PE.up (pv 2)) (pan_cons (PE.up (pv 3)) pan_nil))))))
      (pssn_one (PS.up (ps_ret (pe_makeS M GI hr rfl CT.mgC pass0 (pv 2))))))), ?_⟩
    refine ⟨_, rfl, q, dy, _, rfl, hq, true, rfl, iteF ?_⟩
    refine ⟨_, rfl, p, D, dx, _, _, rfl, hp, CT.cl, CT.nR, rfl, ?_⟩
    refine ⟨_, rfl, q, dy, _, rfl, hq, q, dy, _, _, rfl, hq, rfl, S t, rfl, for_it (walk_str (z := S t)) (fun i σ H1 => ∃ b v, σ = [some (.ref p), some (.ref q), some (.ref b), v] ∧ Same H H1 ∧ SqT K H1 b (rowV (tilts h w (t.take i) g)))
      ⟨a, none, rfl, Same.refl H, hS⟩ (fun _ _ _ _ _ => True.intro) ?_ ?_⟩
    · rintro i x σ H1 H2 hi ⟨b, v, rfl, sm, hb⟩ ⟨rfl, c, hc, rfl⟩
      rw [S_at] at hc
      have et : tilts h w (t.take (i + 1)) g = TM.tilt h w (tilts h w (t.take i) g) c := by
        rw [List.take_add_one, hc]
        exact tilts_snoc _ _
      have G2 := VG.tilts (t.take i) G
      refine ⟨_, rfl, _, rfl, b, c, h, w, _, rfl, hb, G2.rc, G.n1, G.n8, G.m1, G.m8, fun H3 b3 sm3 hb3 => ?_⟩
      rw [et]
      exact ⟨b3, _, rfl, sm.trans sm3, hb3⟩
    · rintro σ H1 ⟨b, v, rfl, sm, hb⟩
      rw [S_size, List.take_length] at hb
      have G2 := VG.tilts t G
      refine ⟨_, rfl, b, _, rfl, .inl hb, fun x dx nx ndx nex => ?_⟩
      refine ⟨[.ref x], rowV (tilts h w t g), rfl, rfl, ?_, fun p hp => ?_⟩
      · have := G2.len
        rw [List.length_map]
        show _ ≤ 16777216
        omega
      have hpx : x ≠ p := fun z => by rw [← z, upd_same] at hp; cases hp
      refine ⟨x, dx, p, h, w, _, rfl, by rw [upd_ne hpx, upd_same], SqT.of upd_same, G2, fun H' ht kp => ⟨rfl, ?_⟩⟩
      refine k _ _ (sm.trans fun b o e => ?_) ht
      have hbx : b ≠ x := ne_of_none e nx
      have hbd : b ≠ dx := ne_of_none e ndx
      have e2 : (upd (upd H1 dx (.own x)) x (.ins D dx [])) b = some o := by rw [upd_ne hbx, upd_ne hbd]; exact e
      exact kp b o (by rw [upd_ne (ne_of_none e2 hp)]; exact e2) hbx
end
end TK
end
section
set_option Elab.async false
set_option maxRecDepth 100000
set_option linter.all false
namespace TK
open PySem L2 TM
structure TxtL (K : PySem.W.Frag) (mg : Str → Option Value) : Prop where
  int : mg "int" = none
  range : mg "range" = none
  min : mg "min" = none
/-- the script's list at a, where the drawing stands at r -/
def RowAt (K : PySem.W.Frag) (a : Addr) (ns : List Int) (H : Hp) (r : Addr) : Prop := ∃ i seed rest : Int, H r = some (.lst [.ref a, .int i, .int seed, .int rest]) ∧ 0 ≤ i ∧ SqL K H a (ns.map V.int)
def But (r : Addr) (H H' : Hp) : Prop := ∀ b o, H b = some o → b ≠ r → H' b = some o
theorem But.refl (r : Addr) (H : Hp) : But r H H := fun _ _ h _ => h
theorem But.trans {r : Addr} {H H1 H2 : Hp} (a : But r H H1) (b : But r H1 H2) : But r H H2 := fun c o h n => b c o (a c o h n) n
theorem But.same {r : Addr} {H H' : Hp} (s : Same H H') : But r H H' := fun b o h _ => s b o h
theorem RowAt.same {K : PySem.W.Frag} {a r : Addr} {ns : List Int} {H H' : Hp} (R : RowAt K a ns H r) (s : Same H H') : RowAt K a ns H' r := by
  obtain ⟨i, d, e, h, hi, q⟩ := R
  exact ⟨i, d, e, s _ _ h, hi, s.seq q⟩
theorem row_seq {K : PySem.W.Frag} {a r : Addr} {ns : List Int} {H : Hp} {i d e : Int} {o : HO} (h : H r = some (.lst [.ref a, .int i, .int d, .int e])) (q : SqL K H a (ns.map V.int)) : SqL K (upd H r o) a (ns.map V.int) := by
  have hne : ∀ {u : HO}, H a = some u → (∀ xs, u = .lst xs → xs ≠ [.ref a, .int i, .int d, .int e]) → a ≠ r := fun hu hn e' => by
    subst e'
    exact hn _ (Option.some.inj (hu.symm.trans h)) rfl
  rcases q with (q | ⟨u, q⟩) | q
  · refine .inl (.inl ?_)
    rw [upd_ne (hne q fun xs e => by
      cases e
      intro z
      cases ns with
      | nil => simp at z
      | cons n r => simp at z)]
    exact q
  · refine .inl (.inr ⟨u, ?_⟩)
    rw [upd_ne (hne q fun xs e => by cases e)]
    exact q
  · exact .inr q
theorem fmod_in {k m : Int} (h : 1 ≤ m) : 0 ≤ k.fmod m ∧ k.fmod m < m := by
  rw [Int.fmod_eq_emod_of_nonneg _ (by omega)]
  exact ⟨Int.emod_nonneg _ (by omega), Int.emod_lt_of_pos _ (by omega)⟩
section
variable {P : Program} {w : World} {K : PySem.W.Frag} {mg : Str → Option Value} {base : Heap}
theorem scTk : FnScope ["_law_row", "_law_many", "_law_found", "_law_cell"] ["_law_row", "_law_many"] (defScope sLawTaken) := ⟨rfl, rfl, rfl, by decide +kernel, rfl, by decide +kernel, by decide +kernel⟩
def spTk (K : PySem.W.Frag) (a : Addr) (ns : List Int) : Sp := fun vs H Q _ => ∃ (r : Addr) (m : Int), vs = [.ref r, .int m] ∧ RowAt K a ns H r ∧ 1 ≤ m ∧ m ≤ 1000000000 ∧ ∀ H' (k : Nat), (k : Int) < m → RowAt K a ns H' r → But r H H' → Q (.int k) H'
theorem ok_tk {a : Addr} {ns : List Int} {f : Addr} {fd : FuncData} (F : Fun K "_law_taken" "_law_taken" sLawTaken f fd) (T : TxtW K mg) (L : TxtL K mg) : FnOk P w K mg base CX0 1 f fd ["_law_row", "_law_many"] (spTk K a ns) := by
  refine F.ok scTk (fun vs H Q E h => ?_) (fun cdv A outer s H vs Q E hr h => ?_)
  · obtain ⟨r, m, rfl, _⟩ := h
    rfl
  · obtain ⟨r, m, rfl, ⟨i, d, e, hR, hi, hS⟩, m1, m2, k⟩ := h
    have nd := scTk.nd
    refine ⟨_, pss_cons (ps_if (pt_cmpR op_gt (pe_ix ix_list (pv 0) pe_int (fun _ _ => rfl)) pe_int (nomark _))
        (pss_cons (ps_set (i := 2) nd rfl (.inl rfl) (pe_op op_modN (pe_callTy call_int1 (by rfl) L.int (by decide +kernel) (pa_cons (pe_ix ix_list (pv 0) pe_int (fun _ _ => rfl)) pa_nil)) (pv 1)))
        (pss_cons (ps_asg (pe_op op_fdivN (pe_ix ix_list (pv 0) pe_int (fun _ _ => rfl)) (pv 1)) (pg_sub (pv 0) pe_int set_list))
        (pss_one (ps_ret (pv 2))))) pss_nil)
      (C8.pss_cut (ps_asg (pe_op op_add (pe_ix ix_list (pv 0) pe_int (fun _ _ => rfl)) pe_int) (pg_sub (pv 0) pe_int set_list))
      (pss_cons (ps_if (pt_cmpR op_gt (pe_ix ix_list (pv 0) pe_int (fun _ _ => rfl)) (pe_callB call_len_seq (by rfl) T.len PySem.boot_len (pa_cons (pe_ix ix_list (pv 0) pe_int (fun _ _ => rfl)) pa_nil)) (nomark _))
        (pss_cons (ps_asg (pe_op op_modN (pe_callTy call_int1 (by rfl) L.int (by decide +kernel) (pa_cons (pe_op op_add (pe_op op_mul (pe_ix ix_list (pv 0) pe_int (fun _ _ => rfl)) pe_int) pe_int) pa_nil)) pe_int) (pg_sub (pv 0) pe_int set_list))
        (pss_one (ps_ret (pe_op op_modN (pe_callTy call_int1 (by rfl) L.int (by decide +kernel) (pa_cons (pe_op op_fdivN (pe_ix ix_list (pv 0) pe_int (fun _ _ => rfl)) pe_int) pa_nil)) (pv 1))))) pss_nil)
      (pss_cons (ps_set (i := 3) nd rfl (.inl rfl) (pe_ix ix_list (pe_ix ix_list (pv 0) pe_int (fun _ _ => rfl)) (pe_op op_sub (pe_ix ix_list (pv 0) pe_int (fun _ _ => rfl)) pe_int) (fun _ _ => rfl)))
      (C8.pss_cut (ps_asg (pe_op op_modN (pe_callTy call_int1 (by rfl) L.int (by decide +kernel) (pa_cons (pe_op op_add (pe_op op_add (pe_op op_mul (pe_ix ix_list (pv 0) pe_int (fun _ _ => rfl)) pe_int) (pv 3)) pe_int) pa_nil)) pe_int) (pg_sub (pv 0) pe_int set_list))
      (C8.pss_cut (ps_if (pt_cmpR op_ge (pv 3) (pe_op op_pow pe_int pe_int) (nomark _)) (pss_one (ps_asg (pe_op op_fdivN (pv 3) (pv 1)) (pg_sub (pv 0) pe_int set_list))) pss_nil)
      (pss_one (ps_ret (pe_op op_modN (pe_callTy call_int1 (by rfl) L.int (by decide +kernel) (pa_cons (pv 3) pa_nil)) (pv 1))))))))), ?_⟩
    have m0 : m ≠ 0 := by omega
    have mb : m ≠ 0 ∧ m.natAbs < 1073741824 := ⟨m0, by omega⟩
    have row : ∀ {H1 : Hp} {i d e : Int}, H1 r = some (.lst [.ref a, .int i, .int d, .int e]) → 0 ≤ i → SqL K H1 a (ns.map V.int) → RowAt K a ns H1 r := fun h1 h2 h3 => ⟨_, _, _, h1, h2, h3⟩
    have but : ∀ {H1 : Hp} {o : HO}, But r H H1 → But r H (upd H1 r o) := fun b c o h n => by rw [upd_ne n]; exact b c o h n
    refine ⟨_, rfl, r, _, _, _, rfl, rfl, SqL.of hR, rfl, _, _, rfl, rfl, _, rfl, ?_⟩
    by_cases he : e > 0
    · rw [decide_eq_true he]
      refine iteT ⟨_, rfl, r, _, _, _, rfl, rfl, SqL.of hR, rfl, .inl ⟨_, rfl, _, rfl, _, _, rfl, rfl, m0, ?_⟩⟩
      refine ⟨_, rfl, r, _, _, _, rfl, rfl, SqL.of hR, rfl, _, rfl, _, _, rfl, rfl, mb, _, rfl, r, _, _, 3, rfl, rfl, hR, rfl, ?_⟩
      refine ⟨_, rfl, ?_⟩
      have hk := fmod_in (k := e) m1
      have := k (upd H r (.lst [.ref a, .int i, .int d, .int (e.fdiv m)])) (e.fmod m).toNat (by omega) (row upd_same hi (row_seq hR hS)) (but (But.refl r H))
      rw [Int.toNat_of_nonneg hk.1] at this
      exact this
    · rw [decide_eq_false he]
      refine iteF ?_
      refine ⟨fun σ H1 => σ = [some (.ref r), some (.int m), none, none] ∧ H1 r = some (.lst [.ref a, .int (i + 1), .int d, .int e]) ∧ SqL K H1 a (ns.map V.int) ∧ But r H H1, ?_, ?_⟩
      · refine ⟨_, rfl, r, _, _, _, rfl, rfl, SqL.of hR, rfl, _, _, rfl, rfl, _, rfl, r, _, _, 1, rfl, rfl, hR, rfl, ?_⟩
        exact ⟨rfl, upd_same, row_seq hR hS, but (But.refl r H)⟩
      rintro σ H1 ⟨rfl, hR1, hS1, b1⟩
      refine ⟨_, rfl, r, _, _, _, rfl, rfl, SqL.of hR1, rfl, _, rfl, r, _, _, _, rfl, rfl, SqL.of hR1, rfl, a, _, rfl, .inl hS1, _, _, rfl, rfl, _, rfl, ?_⟩
      rw [List.length_map]
      by_cases hl : i + 1 > (ns.length : Int)
      · rw [decide_eq_true hl]
        refine iteT ⟨_, rfl, r, _, _, _, rfl, rfl, SqL.of hR1, rfl, _, _, rfl, rfl, .inr (by decide), _, _, rfl, rfl, .inl ⟨_, rfl, _, _, rfl, rfl, (by show (2147483647 : Int) ≠ 0; decide), _, rfl, r, _, _, 2, rfl, rfl, hR1, rfl, ?_⟩⟩
        refine ⟨_, rfl, r, _, _, _, rfl, rfl, SqL.of upd_same, rfl, _, _, rfl, rfl, (by show (7 : Int) ≠ 0 ∧ (7 : Int).natAbs < 1073741824; decide), .inl ⟨_, rfl, _, rfl, _, _, rfl, rfl, m0, ?_⟩⟩
        have hk := fmod_in (k := ((d * 48271 + 11).fmod 2147483647).fdiv 7) m1
        have := k (upd H1 r (.lst [.ref a, .int (i + 1), .int ((d * 48271 + 11).fmod 2147483647), .int e])) (((d * 48271 + 11).fmod 2147483647).fdiv 7 |>.fmod m).toNat (by omega) (row upd_same (by omega) (row_seq hR1 hS1)) (but b1)
        rw [Int.toNat_of_nonneg hk.1] at this
        exact this
      · rw [decide_eq_false hl]
        refine iteF ?_
        obtain ⟨c, hc⟩ : ∃ c, ns[i.toNat]? = some c := ⟨_, List.getElem?_eq_getElem (by omega)⟩
        refine ⟨_, rfl, r, _, _, _, rfl, rfl, SqL.of hR1, rfl, _, rfl, r, _, _, _, rfl, rfl, SqL.of hR1, rfl, _, _, rfl, rfl, a, _, _, .int c, rfl, rfl, hS1, ?_, ?_⟩
        · rw [show i + 1 - 1 = ((i.toNat : Nat) : Int) by omega]
          exact atI_nat (by rw [List.getElem?_map, hc]; all_goals rfl)
        refine ⟨fun σ H2 => ∃ d' : Int, σ = [some (.ref r), some (.int m), none, some (.int c)] ∧ H2 r = some (.lst [.ref a, .int (i + 1), .int d', .int e]) ∧ SqL K H2 a (ns.map V.int) ∧ But r H H2, ?_, ?_⟩
        · refine ⟨_, rfl, r, _, _, _, rfl, rfl, SqL.of hR1, rfl, _, _, rfl, rfl, .inr (by decide), _, rfl, _, _, rfl, rfl, _, _, rfl, rfl, .inl ⟨_, rfl, _, _, rfl, rfl, (by show (2147483647 : Int) ≠ 0; decide), _, rfl, r, _, _, 2, rfl, rfl, hR1, rfl, ?_⟩⟩
          exact ⟨_, rfl, upd_same, row_seq hR1 hS1, but b1⟩
        rintro σ H2 ⟨d', rfl, hR2, hS2, b2⟩
        refine ⟨fun σ H3 => ∃ e' : Int, σ = [some (.ref r), some (.int m), none, some (.int c)] ∧ H3 r = some (.lst [.ref a, .int (i + 1), .int d', .int e']) ∧ SqL K H3 a (ns.map V.int) ∧ But r H H3, ?_, ?_⟩
        · refine ⟨_, rfl, _, _, rfl, rfl, ⟨by decide, by decide, by decide⟩, _, _, rfl, rfl, _, rfl, ?_⟩
          refine ite2 (fun _ => ?_) fun _ => ?_
          · refine ⟨_, rfl, _, rfl, _, _, rfl, rfl, mb, _, rfl, r, _, _, 3, rfl, rfl, hR2, rfl, ?_⟩
            exact ⟨_, rfl, upd_same, row_seq hR2 hS2, but b2⟩
          · exact ⟨e, rfl, hR2, hS2, b2⟩
        rintro σ H3 ⟨e', rfl, hR3, hS3, b3⟩
        refine ⟨_, rfl, .inl ⟨_, rfl, _, rfl, _, _, rfl, rfl, m0, ?_⟩⟩
        have hk := fmod_in (k := c) m1
        have := k H3 (c.fmod m).toNat (by omega) (row hR3 (by omega) hS3) b3
        rw [Int.toNat_of_nonneg hk.1] at this
        exact this
end
end TK
end
namespace TK
end TK
section
set_option Elab.async false
set_option maxRecDepth 100000
set_option linter.all false
namespace TK
open PySem L2 TM
abbrev intV (l : List Nat) : List V := l.map fun j => V.int (j : Nat)
theorem range_snoc {p : Nat → Bool} (i : Nat) : (List.range (i + 1)).filter p = (List.range i).filter p ++ (if p i then [i] else []) := by
  rw [List.range_succ, List.filter_append]
  congr 1
  by_cases h : p i <;> simp [h]
section
variable {P : Program} {w : World} {K : PySem.W.Frag} {mg : Str → Option Value} {base : Heap}
end
end TK
end
section
set_option Elab.async false
set_option maxRecDepth 100000
set_option linter.all false
namespace TK
open PySem L2 TM
/-- the cells in rows of w -/
def chunk (h w : Nat) (cs : List Nat) : Grid := (List.range h).map fun i => (cs.drop (i * w)).take w
theorem chunk_flat (w : Nat) (cs : List Nat) : ∀ h, (chunk h w cs).flatten = cs.take (h * w)
  | 0 => by simp [chunk]
  | h + 1 => by
    have ih := chunk_flat w cs h
    unfold chunk at ih ⊢
    rw [List.range_succ, List.map_append, List.flatten_append, ih, List.map_singleton, List.flatten_cons, List.flatten_nil, List.append_nil, Nat.succ_mul]
    exact (List.take_add).symm
theorem chunk_rect {h w : Nat} {cs : List Nat} (hl : cs.length = h * w) : Rect h w (chunk h w cs) := by
  refine ⟨by simp [chunk], fun r hr => ?_⟩
  obtain ⟨i, hi, rfl⟩ := List.mem_map.mp hr
  have hi := List.mem_range.mp hi
  rw [List.length_take, List.length_drop, hl]
  have : (i + 1) * w ≤ h * w := Nat.mul_le_mul_right _ hi
  rw [Nat.succ_mul] at this
  omega
/-- k marbles lie, a, b, .. of them -/
structure Lay (k : Nat) (cs : List Nat) : Prop where
  len : (mb cs).length = k
  nd : (mb cs).Nodup
  ab : ∀ c ∈ mb cs, 97 ≤ c ∧ c < 97 + k
theorem Lay.none (n : Nat) : Lay 0 (List.replicate n 46) := by
  have e : mb (List.replicate n 46) = [] := mb_dots n
  exact ⟨by rw [e]; rfl, by rw [e]; exact List.nodup_nil, by rw [e]; intro c hc; cases hc⟩
theorem Lay.cell {k : Nat} {cs : List Nat} (L : Lay k cs) (hk : k ≤ 26) : ∀ c ∈ cs, Cell c := fun c hc => by
  by_cases h : c = 46
  · exact .inl h
  · have := L.ab c (List.mem_filter.mpr ⟨hc, by simp [h]⟩)
    exact .inr ⟨this.1, by omega⟩
theorem Lay.put {k p : Nat} {cs : List Nat} (L : Lay k cs) (hp : cs[p]? = some 46) : Lay (k + 1) (cs.set p (97 + k)) := by
  have hi := (List.getElem?_eq_some_iff.mp hp).1
  have e1 : cs = cs.take p ++ 46 :: cs.drop (p + 1) := by
    have := (List.getElem?_eq_some_iff.mp hp).2
    rw [← this]
    simp
  have e2 : cs.set p (97 + k) = cs.take p ++ (97 + k) :: cs.drop (p + 1) := List.set_eq_take_append_cons_drop ▸ by rw [if_pos hi]
  have m1 : mb cs = mb (cs.take p) ++ mb (cs.drop (p + 1)) := by
    conv => lhs; rw [e1, mb_app]
    simp [mb]
  have m2 : mb (cs.set p (97 + k)) = mb (cs.take p) ++ (97 + k) :: mb (cs.drop (p + 1)) := by
    rw [e2, mb_app]
    have : (97 + k != 46) = true := by simp; omega
    simp [mb, this]
  have pm : (mb (cs.set p (97 + k))).Perm ((97 + k) :: mb cs) := by
    rw [m1, m2]
    exact List.perm_middle
  have fresh : 97 + k ∉ mb cs := fun h => by
    have := L.ab _ h
    omega
  refine ⟨by rw [pm.length_eq, List.length_cons, L.len], pm.nodup_iff.mpr (List.nodup_cons.mpr ⟨fresh, L.nd⟩), fun c hc => ?_⟩
  rcases List.mem_cons.mp (pm.mem_iff.mp hc) with e | e
  · subst e; omega
  · have := L.ab c e
    omega
/-- the free places -/
def frees (cs : List Nat) (n : Nat) : List Nat := (List.range n).filter fun j => cs.getD j 0 == 46
theorem frees_le (cs : List Nat) (n : Nat) : (frees cs n).length ≤ n := by
  have := List.length_filter_le (fun j => cs.getD j 0 == 46) (List.range n)
  rw [List.length_range] at this
  exact this
theorem frees_at {cs : List Nat} {d p : Nat} (h : (frees cs cs.length)[d]? = some p) : cs[p]? = some 46 := by
  have hm := List.mem_filter.mp (List.mem_of_getElem? h)
  have hp := List.mem_range.mp hm.1
  have h2 := hm.2
  rw [List.getD_eq_getElem?_getD, List.getElem?_eq_getElem hp] at h2
  rw [List.getElem?_eq_getElem hp]
  simpa using h2
theorem frees_pos {k : Nat} {cs : List Nat} (L : Lay k cs) (hk : k < cs.length) : 0 < (frees cs cs.length).length := by
  refine Nat.pos_of_ne_zero fun h0 => ?_
  have e : frees cs cs.length = [] := List.length_eq_zero_iff.mp h0
  have all : ∀ c ∈ cs, (c != 46) = true := fun c hc => by
    obtain ⟨j, hj, rfl⟩ := List.mem_iff_getElem.mp hc
    by_cases q : cs[j] = 46
    · have : j ∈ frees cs cs.length := List.mem_filter.mpr ⟨List.mem_range.mpr hj, by rw [List.getD_eq_getElem?_getD, List.getElem?_eq_getElem hj]; simp [q]⟩
      rw [e] at this
      cases this
    · simp [q]
  have : mb cs = cs := List.filter_eq_self.mpr all
  have := L.len
  rw [‹mb cs = cs›] at this
  omega
theorem lay_VG {h w k : Nat} {cs : List Nat} (L : Lay k cs) (hk : k ≤ 26) (hl : cs.length = h * w) (h1 : 1 ≤ h) (h8 : h ≤ 8) (w1 : 1 ≤ w) (w8 : w ≤ 8) : VG h w (chunk h w cs) := by
  have ef : (chunk h w cs).flatten = cs := by rw [chunk_flat, ← hl, List.take_length]
  refine ⟨chunk_rect hl, h1, h8, w1, w8, fun r hr c hc => ?_, by rw [ef]; exact L.nd⟩
  exact L.cell hk c (by rw [← ef]; exact List.mem_flatten.mpr ⟨r, hr, hc⟩)
end TK
end
section
set_option Elab.async false
set_option maxRecDepth 100000
set_option linter.all false
namespace TK
open PySem L2 TM
theorem ix_listK {X : Cx} {K : PySem.W.Frag} (h : X.K = K) : IxR X (rIxL K) := by
  subst h
  exact ix_list
theorem sl_listK {X : Cx} {K : PySem.W.Frag} (h : X.K = K) : SlR X (rSlL K) := by
  subst h
  exact sl_list
theorem but_put {r l : Addr} {H0 H : Hp} {o : HO} (b : But r H0 H) (h : H0 l = none) : But r H0 (upd H l o) := fun c u e n => by
  rw [upd_ne (ne_of_none e h)]
  exact b c u e n
theorem but_none {r l : Addr} {H0 H : Hp} {x : HO} (b : But r H0 H) (hr : H r = some x) (h : H l = none) : H0 l = none := by
  cases e : H0 l with
  | none => rfl
  | some o =>
    have := b l o e (fun q => by subst q; rw [hr] at h; cases h)
    rw [h] at this
    cases this
theorem RowAt.ne {K : PySem.W.Frag} {a r l : Addr} {ns : List Int} {H : Hp} (R : RowAt K a ns H r) (h : H l = none) : l ≠ r := by
  obtain ⟨_, _, _, e, _⟩ := R
  exact (ne_of_none e h).symm
theorem RowAt.none {K : PySem.W.Frag} {a r l : Addr} {ns : List Int} {H0 H : Hp} (R : RowAt K a ns H r) (b : But r H0 H) (h : H l = none) : H0 l = none := by
  obtain ⟨_, _, _, e, _⟩ := R
  exact but_none b e h
/-- a store at a list that is not the drawing's -/
theorem RowAt.put {K : PySem.W.Frag} {a r l : Addr} {ns : List Int} {H : Hp} {xs ys : List V} (R : RowAt K a ns H r) (hl : H l = some (.lst xs)) (hn : l ≠ r) (hs : ∃ c t, xs = sg c :: t) : RowAt K a ns (upd H l (.lst ys)) r := by
  obtain ⟨i, d, e, h, hi, q⟩ := R
  refine ⟨i, d, e, by rw [upd_ne hn.symm]; exact h, hi, ?_⟩
  obtain ⟨c, t, rfl⟩ := hs
  rcases q with (q | ⟨u, q⟩) | q
  · refine .inl (.inl ?_)
    rw [upd_ne (fun e' => by
      subst e'
      have := Option.some.inj (q.symm.trans hl)
      cases ns with
      | nil => cases this
      | cons n r => cases this)]
    exact q
  · refine .inl (.inr ⟨u, ?_⟩)
    rw [upd_ne (fun e' => by
      subst e'
      have := Option.some.inj (q.symm.trans hl)
      cases this)]
    exact q
  · exact .inr q
def side (k : Nat) : Nat := match k with
  | 0 => 3
  | 1 => 5
  | _ => 8
theorem side_at {k : Nat} (h : k < 3) : ([V.int 3, V.int 5, V.int 8] : List V)[k]? = some (.int (side k : Nat)) := by
  match k, h with
  | 0, _ => rfl
  | 1, _ => rfl
  | 2, _ => rfl
theorem side_1 : ∀ k, 1 ≤ side k ∧ side k ≤ 8
  | 0 => by decide
  | 1 => by decide
  | _ + 2 => by show 1 ≤ 8 ∧ 8 ≤ 8; decide
theorem rep_dots (k : Nat) : (List.replicate k [V.str (S [46])]).flatten = (List.replicate k 46).map sg := by
  induction k with
  | zero => rfl
  | succ k ih =>
    rw [List.replicate_succ, List.flatten_cons, ih, List.replicate_succ, List.map_cons]
    rfl
section
variable {P : Program} {w : World} {K : PySem.W.Frag} {mg : Str → Option Value} {base : Heap} {a : Addr} {ns : List Int} {fT : Addr} {fdT : FuncData}
abbrev NRw : List Str := ["_law_row", "_law_most", "_law_height", "_law_width", "_law_cells", "_law_names", "_law_k", "_law_free_here", "_law_place"]
theorem scRw : FnScope NRw ["_law_row", "_law_most"] (defScope sLawRows) := ⟨rfl, rfl, rfl, by decide +kernel, rfl, by decide +kernel, by decide +kernel⟩
def spRw (K : PySem.W.Frag) (a : Addr) (ns : List Int) : Sp := fun vs H Q _ => ∃ (r : Addr) (m : Nat), vs = [.ref r, .int m] ∧ RowAt K a ns H r ∧ m ≤ 26 ∧ ∀ H' l h w g, VG h w g → H' l = some (.lst (rowV g)) → RowAt K a ns H' r → But r H H' → Q (.ref l) H'
/-- .. and the marbles are the first m at most -/
def spRwN (K : PySem.W.Frag) (a : Addr) (ns : List Int) : Sp := fun vs H Q _ => ∃ (r : Addr) (m : Nat), vs = [.ref r, .int m] ∧ RowAt K a ns H r ∧ m ≤ 26 ∧ ∀ H' l h w g, VG h w g → (∀ c ∈ mb g.flatten, c < 97 + m) → H' l = some (.lst (rowV g)) → RowAt K a ns H' r → But r H H' → Q (.ref l) H'
theorem ok_rwN {f : Addr} {fd : FuncData} (F : Fun K "_law_rows" "_law_rows" sLawRows f fd) (T : TxtW K mg) (L : TxtL K mg) (GT : FnOk P w K mg base CX0 1 fT fdT ["_law_row", "_law_many"] (spTk K a ns)) (kT : PySem.W.keepIn K (.ref fT) = true) (bT : Binds K fdT ["_law_row", "_law_many"] []) (mT : mg "_law_taken" = some (.ref fT)) :
    FnOk P w K mg base CX0 2 f fd ["_law_row", "_law_most"] (spRwN K a ns) := by
  refine F.ok scRw (fun vs H Q E h => ?_) (fun cdv A outer s H vs Q E hr h => ?_)
  · obtain ⟨r, m, rfl, _⟩ := h
    rfl
  · obtain ⟨r, m, rfl, hR, hm, k⟩ := h
    have nd := scRw.nd
    refine ⟨_, C8.pss_cut (ps_set (i := 2) nd rfl (.inl rfl) (pe_op op_add pe_int (pe_call GT hr rfl mT kT bT .nil pass0 (pa_cons (pv 0) (pa_cons (pe_ix ix_list (pe_lst (pa_cons pe_int (pa_cons pe_int (pa_cons pe_int pa_nil)))) (pe_call GT hr rfl mT kT bT .nil pass0 (pa_cons (pv 0) (pa_cons pe_int pa_nil))) (fun _ _ => rfl)) pa_nil)))))
      (C8.pss_cut (ps_set (i := 3) nd rfl (.inr rfl) (pe_op op_add pe_int (pe_call GT hr rfl mT kT bT .nil pass0 (pa_cons (pv 0) (pa_cons (pe_ix ix_list (pe_lst (pa_cons pe_int (pa_cons pe_int (pa_cons pe_int pa_nil)))) (pe_call GT hr rfl mT kT bT .nil pass0 (pa_cons (pv 0) (pa_cons pe_int pa_nil))) (fun _ _ => rfl)) pa_nil)))))
      (C8.pss_cut (ps_set (i := 4) nd rfl (.inr rfl) (pe_op op_rep (pe_lst (pa_cons pe_str pa_nil)) (pe_op op_mul (pv 2) (pv 3))))
      (pss_cons (ps_set (i := 5) nd rfl (.inl rfl) pe_str)
      (pss_cons (ps_for PassesOwn.never rfl (pi_range1 (by rfl) L.range (pa_cons (pe_callB (call_min2 rfl) (by rfl) L.min (by decide +kernel) (pa_cons (pe_op op_mul (pv 2) (pv 3)) (pa_cons (pe_call GT hr rfl mT kT bT .nil pass0 (pa_cons (pv 0) (pa_cons (pe_op op_add (pv 1) pe_int) pa_nil))) pa_nil))) pa_nil)) (pg_name (i := 6) nd rfl (.inl rfl))
        (C8.pss_cut (ps_setLc (i := 7) (own := [("_law_place", 8)]) (g := gName 8) rfl nd rfl rfl (sw_true rfl rfl rfl (by decide +kernel)) (pi_range1 (by rfl) L.range (pa_cons (pe_op op_mul (pv 2) (pv 3)) pa_nil)) (blkOk_by (N := NRw) (sc := defScope sLawRows) (by decide +kernel)) (fun _ _ _ _ _ => pg_name (i := 8) nd rfl (.inl rfl))
            (fun _ _ _ _ _ => pts_one (pt_cmpR op_eq (pe_ix (ix_listK (K := K) rfl) (pv 4) (pv 8) (fun _ _ => rfl)) pe_str (nomark _))) (fun _ _ _ _ _ => pv 8))
        (pss_one (ps_asg (pe_ix ix_str (pv 5) (pv 6) (fun _ _ => rfl)) (pg_sub (pv 4) (pe_ix ix_list (pv 7) (pe_call GT hr rfl mT kT bT .nil pass0 (pa_cons (pv 0) (pa_cons (pe_callB call_len_seq (by rfl) T.len PySem.boot_len (pa_cons (pv 7) pa_nil)) pa_nil))) (fun _ _ => rfl)) set_list)))))
      (pss_one (ps_ret (pe_lc (own := [("_law_k", 6)]) (g := gName 6) (tt := tYes) rfl nd (pi_range1 (by rfl) L.range (pa_cons (pv 2) pa_nil)) (blkOk_by (N := NRw) (sc := defScope sLawRows) (by decide +kernel)) (fun _ _ _ _ _ => pg_name (i := 6) nd rfl (.inl rfl)) (fun _ _ _ _ _ => pts_nil)
        (fun _ _ _ _ _ => pe_joinK (K := K) rfl pe_str (pe_slice (sl_listK (K := K) rfl) (pv 4) (po_some (pe_op op_mul (pv 6) (pv 3))) (po_some (pe_op op_add (pe_op op_mul (pv 6) (pv 3)) (pv 3)))))))))))), ?_⟩
    refine ⟨fun σ H1 => ∃ h : Nat, σ = [some (.ref r), some (.int m), some (.int h), none, none, none, none, none, none] ∧ 1 ≤ h ∧ h ≤ 8 ∧ RowAt K a ns H1 r ∧ But r H H1, ?_, ?_⟩
    · refine ⟨_, rfl, (by show 3 ≤ sizeLine; decide), fun p hp => ⟨_, rfl, r, 3, rfl, hR.same (same_new hp), by decide, by decide, fun HA d hd RA bA => ?_⟩⟩
      have hd3 : d < 3 := by omega
      have s1 := side_1 d
      refine ⟨p, _, _, _, rfl, rfl, SqL.of (bA p _ upd_same (hR.ne hp)), atI_nat (side_at hd3), r, _, rfl, RA, by omega, by omega, fun HB e he RB bB => ?_⟩
      exact ⟨_, _, rfl, rfl, e + 1, by rw [show ((e + 1 : Nat) : Int) = 1 + (e : Int) by omega]; rfl, by omega, by omega, RB, (((But.refl r H).trans (.same (same_new hp))).trans bA).trans bB⟩
    rintro σ H1 ⟨h, rfl, h1, h8, R1, b1⟩
    refine ⟨fun σ H2 => ∃ w : Nat, σ = [some (.ref r), some (.int m), some (.int h), some (.int w), none, none, none, none, none] ∧ 1 ≤ w ∧ w ≤ 8 ∧ RowAt K a ns H2 r ∧ But r H H2, ?_, ?_⟩
    · refine ⟨_, rfl, (by show 3 ≤ sizeLine; decide), fun p hp => ⟨_, rfl, r, 3, rfl, R1.same (same_new hp), by decide, by decide, fun HA d hd RA bA => ?_⟩⟩
      have hd3 : d < 3 := by omega
      have s1 := side_1 d
      refine ⟨p, _, _, _, rfl, rfl, SqL.of (bA p _ upd_same (R1.ne hp)), atI_nat (side_at hd3), r, _, rfl, RA, by omega, by omega, fun HB e he RB bB => ?_⟩
      exact ⟨_, _, rfl, rfl, e + 1, by rw [show ((e + 1 : Nat) : Int) = 1 + (e : Int) by omega]; rfl, by omega, by omega, RB, ((b1.trans (.same (same_new hp))).trans bA).trans bB⟩
    rintro σ H2 ⟨w, rfl, w1, w8, R2, b2⟩
    have hw : h * w ≤ 64 := Nat.mul_le_mul h8 w8
    have hw1 : 1 ≤ h * w := Nat.mul_le_mul h1 w1
    have ehw : (h : Int) * (w : Int) = ((h * w : Nat) : Int) := by simp
    have bh : ((-(2 ^ 64) < (h : Int) ∧ (h : Int) < 2 ^ 64) ∨ (-(2 ^ 64) < (w : Int) ∧ (w : Int) < 2 ^ 64)) := .inl ⟨by omega, by omega⟩
    refine ⟨fun σ H3 => ∃ l, σ = [some (.ref r), some (.int m), some (.int h), some (.int w), some (.ref l), none, none, none, none] ∧ H l = none ∧ l ≠ r ∧ H3 l = some (.lst ((List.replicate (h * w) 46).map sg)) ∧ RowAt K a ns H3 r ∧ But r H H3, ?_, ?_⟩
    · refine ⟨(by show 1 ≤ sizeLine; decide), fun p hp => ⟨_, rfl, _, rfl, _, _, rfl, rfl, bh, ?_⟩⟩
      refine ⟨p, ((h * w : Nat) : Int), _, rfl, congrArg V.int ehw, upd_same, by omega, by omega, ?_, fun q hq => ?_⟩
      · show 1 * ((h * w : Nat) : Int).toNat ≤ 16777216
        rw [Int.toNat_natCast]
        omega
      · rw [Int.toNat_natCast]
        have R3 := R2.same (same_new (o := .lst [V.str (S [46])]) hp)
        have b3 := b2.trans (.same (same_new (o := .lst [V.str (S [46])]) hp))
        refine ⟨q, rfl, R3.none b3 hq, R3.ne hq, ?_, R3.same (same_new hq), b3.trans (.same (same_new hq))⟩
        rw [upd_same, ← rep_dots]
        rfl
    rintro σ H3 ⟨l, rfl, hl0, hlr, hL, R3, b3⟩
    refine ⟨_, rfl, _, rfl, _, _, rfl, rfl, bh, _, rfl, _, rfl, _, _, rfl, rfl, r, (m : Int) + 1, rfl, R3, by omega, by omega, fun H4 kk hkk R4 b4 => ?_⟩
    have hmin : ∃ N : Nat, (if (kk : Int) < (h : Int) * (w : Int) then (kk : Int) else (h : Int) * (w : Int)) = (N : Int) ∧ N ≤ 26 ∧ N ≤ h * w ∧ N ≤ m := by
      rw [ehw]
      by_cases hc : (kk : Int) < ((h * w : Nat) : Int)
      · rw [if_pos hc]
        exact ⟨kk, rfl, by omega, by omega, by omega⟩
      · rw [if_neg hc]
        exact ⟨h * w, rfl, by omega, Nat.le_refl _, by omega⟩
    obtain ⟨N, eN, N26, Nhw, Nm⟩ := hmin
    refine ⟨_, _, rfl, ?_⟩
    refine ⟨(N : Int), congrArg (fun z => [V.int z]) eN, by omega, by omega, for_range (lo := 0) (n := ((N : Nat) : Int).toNat) (fun i σ H5 => ∃ cs v6 v7 v8, σ = [some (.ref r), some (.int m), some (.int h), some (.int w), some (.ref l), some (.str (S letters)), v6, v7, v8] ∧ Lay i cs ∧ cs.length = h * w ∧ H5 l = some (.lst (cs.map sg)) ∧ RowAt K a ns H5 r ∧ But r H H5)
      ⟨_, none, none, none, rfl, Lay.none (h * w), List.length_replicate, b4 _ _ hL hlr, R4, b3.trans b4⟩ ?_ ?_⟩
    · rintro i σ H5 hi ⟨cs, v6, v7, v8, rfl, La, hcs, hL5, R5, b5⟩
      rw [Int.toNat_natCast] at hi
      rw [Int.zero_add]
      refine ⟨fun σ H6 => ∃ D v8, σ = [some (.ref r), some (.int m), some (.int h), some (.int w), some (.ref l), some (.str (S letters)), some (.int (i : Nat)), some (.ref D), v8] ∧ D ≠ r ∧ D ≠ l ∧ H6 D = some (.lst (intV (frees cs cs.length))) ∧ H6 l = some (.lst (cs.map sg)) ∧ RowAt K a ns H6 r ∧ But r H H6, ?_, ?_⟩
      · refine ⟨_, rfl, _, rfl, _, _, rfl, rfl, bh, ?_⟩
        refine ⟨((h * w : Nat) : Int), congrArg (fun z => [V.int z]) ehw, by omega, by omega, fun D hD => lc_range (lo := 0) (n := (((h * w : Nat) : Int)).toNat) (fun j H6 => Same H5 H6 ∧ H6 D = some (.lst (intV ((List.range j).filter fun x => cs.getD x 0 == 46))))
          ⟨same_new hD, upd_same⟩ ?_ ?_⟩
        · rintro j H6 hj ⟨sm, hD6⟩
          rw [Int.toNat_natCast] at hj
          rw [Int.zero_add]
          obtain ⟨d, hd⟩ : ∃ d, cs[j]? = some d := ⟨_, List.getElem?_eq_getElem (by omega)⟩
          refine ⟨rfl, _, rfl, _, rfl, l, _, _, sg d, rfl, rfl, SqL.of (sm _ _ hL5), atI_nat (by rw [List.getElem?_map, hd]; all_goals rfl), rfl, _, rfl, ?_⟩
          rw [show decide (sg d = V.str (Str.ofString ".")) = (d == 46) from dL d 46]
          have eg : cs.getD j 0 = d := by rw [List.getD_eq_getElem?_getD, hd]; rfl
          have es := range_snoc (p := fun x => cs.getD x 0 == 46) j
          by_cases hx : (d == 46) = true
          · rw [hx]
            refine iteT ⟨_, rfl, _, hD6, ?_, same_put sm hD, ?_⟩
            · rw [List.length_map]
              have := List.length_filter_le (fun x => cs.getD x 0 == 46) (List.range j)
              rw [List.length_range] at this
              show _ < 16777216
              omega
            · rw [upd_same, es, if_pos (by rw [eg]; exact hx)]
              simp [intV]
          · rw [Bool.not_eq_true] at hx
            rw [hx]
            refine iteF ⟨sm, ?_⟩
            rw [hD6, es, if_neg (by rw [eg, hx]; exact Bool.false_ne_true), List.append_nil]
        · rintro H6 ⟨sm, hD6⟩
          rw [Int.toNat_natCast, ← hcs] at hD6
          exact ⟨D, _, rfl, R5.ne hD, (ne_of_none hL5 hD).symm, hD6, sm _ _ hL5, R5.same sm, b5.trans (.same sm)⟩
      rintro σ H6 ⟨D, v8', rfl, hDr, hDl, hD6, hL6, R6, b6⟩
      have hpos := frees_pos La (by omega)
      have hfl := frees_le cs cs.length
      have hle : letters[i]? = some (97 + i) := by
        have : i < 26 := by omega
        have all : ∀ i : Fin 26, letters[i.1]? = some (97 + i.1) := by decide
        exact all ⟨i, this⟩
      refine ⟨_, rfl, _, rfl, S letters, (i : Int), 97 + i, rfl, rfl, (by show 26 ≤ sizeLine; decide), by rw [S_list]; exact atI_nat hle, ?_⟩
      refine ⟨_, rfl, _, rfl, _, rfl, _, rfl, D, _, rfl, .inl (SqL.of hD6), ?_⟩
      refine ⟨r, _, rfl, R6, ?_, ?_, fun H7 d hd R7 b7 => ?_⟩
      · rw [List.length_map]; omega
      · rw [List.length_map]; omega
      rw [List.length_map] at hd
      obtain ⟨p, hp⟩ : ∃ p, (frees cs cs.length)[d]? = some p := ⟨_, List.getElem?_eq_getElem (by omega)⟩
      have hcp := frees_at hp
      have hpl : p < cs.length := (List.getElem?_eq_some_iff.mp hcp).1
      have hL7 := b7 _ _ hL6 hlr
      refine ⟨D, _, _, .int (p : Nat), rfl, rfl, SqL.of (b7 _ _ hD6 hDr), atI_nat (by rw [List.getElem?_map, hp]; all_goals rfl), l, _, _, p, rfl, rfl, hL7, ?_, ?_⟩
      · rw [List.length_map]
        unfold ixN
        rw [if_pos (by omega), if_pos (by omega), Int.toNat_natCast]
      · have hs : ∃ c t, cs.map sg = sg c :: t := by
          cases cs with
          | nil => simp at hpl
          | cons c t => exact ⟨c, t.map sg, rfl⟩
        refine ⟨cs.set p (97 + i), _, _, _, rfl, La.put hcp, by rw [List.length_set]; exact hcs, ?_, R7.put hL7 hlr hs, but_put (b6.trans b7) hl0⟩
        rw [upd_same, List.map_set]
    · rintro σ H5 ⟨cs, v6, v7, v8, rfl, La, hcs, hL5, R5, b5⟩
      rw [Int.toNat_natCast] at La
      have La' := La
      have goal := lay_VG La' N26 hcs h1 h8 w1 w8
      refine ⟨_, rfl, (h : Int), rfl, by omega, by omega, fun D hD => lc_range (lo := 0) (n := ((h : Nat) : Int).toNat) (fun i H6 => Same H5 H6 ∧ H6 D = some (.lst ((List.range i).map fun j => V.str (S ((cs.drop (j * w)).take w)))))
          ⟨same_new hD, upd_same⟩ ?_ ?_⟩
      · rintro i H6 hi ⟨sm, hD6⟩
        rw [Int.toNat_natCast] at hi
        rw [Int.zero_add]
        have hiw : i * w + w ≤ h * w := by
          have : (i + 1) * w ≤ h * w := Nat.mul_le_mul_right _ hi
          rw [Nat.succ_mul] at this
          exact this
        have eiw : (i : Int) * (w : Int) = ((i * w : Nat) : Int) := by simp
        have bi : ((-(2 ^ 64) < (i : Int) ∧ (i : Int) < 2 ^ 64) ∨ (-(2 ^ 64) < (w : Int) ∧ (w : Int) < 2 ^ 64)) := .inr ⟨by omega, by omega⟩
        have ecut : cutV (cs.map sg) (some ((i : Int) * (w : Int))) (some ((i : Int) * (w : Int) + (w : Int))) = ((cs.drop (i * w)).take w).map sg := by
          rw [eiw, show ((i * w : Nat) : Int) + (w : Int) = ((i * w + w : Nat) : Int) by omega]
          unfold cutV
          rw [HT.sIx_nat, HT.sIx_nat, List.length_map, hcs, Nat.min_eq_left hiw, Nat.min_eq_left (by omega : i * w ≤ h * w), show i * w + w - i * w = w by omega, List.map_take, List.map_drop]
        refine ⟨rfl, ⟨_, rfl⟩, _, rfl, _, rfl, _, rfl, _, _, rfl, rfl, bi, _, rfl, _, rfl, _, rfl, _, _, rfl, rfl, bi, _, rfl, _, _, rfl, rfl, _, rfl, l, _, rfl, SqL.of (sm _ _ hL5), fun q hq => ?_⟩
        rw [ecut]
        have hD7 : (upd H6 q (.lst (((cs.drop (i * w)).take w).map sg))) D = some (.lst ((List.range i).map fun j => V.str (S ((cs.drop (j * w)).take w)))) := by
          rw [upd_ne (ne_of_none hD6 hq)]
          exact hD6
        refine ⟨_, q, ((cs.drop (i * w)).take w).map fun c => S [c], rfl, rfl, .inl ?_, ?_, _, hD7, ?_, ?_⟩
        · rw [List.map_map]
          exact SqL.of upd_same
        · rw [sum_ones, List.length_map, List.length_take, List.length_drop]
          show _ + _ * 0 ≤ _
          omega
        · rw [List.length_map, List.length_range]
          show _ < 16777216
          omega
        · refine ⟨same_put (sm.trans (same_new hq)) hD, ?_⟩
          rw [upd_same, join_signs, List.range_succ, List.map_append]
          rfl
      · rintro H6 ⟨sm, hD6⟩
        rw [Int.toNat_natCast] at hD6
        refine k _ D h w _ goal (fun c hc => ?_) ?_ (R5.same sm) (b5.trans (.same sm))
        · rw [show (chunk h w cs).flatten = cs by rw [chunk_flat, ← hcs, List.take_length]] at hc
          have := La'.ab c hc
          omega
        rw [hD6]
        unfold rowV chunk
        rw [List.map_map]
        rfl
theorem ok_rw {f : Addr} {fd : FuncData} (F : Fun K "_law_rows" "_law_rows" sLawRows f fd) (T : TxtW K mg) (L : TxtL K mg) (GT : FnOk P w K mg base CX0 1 fT fdT ["_law_row", "_law_many"] (spTk K a ns)) (kT : PySem.W.keepIn K (.ref fT) = true) (bT : Binds K fdT ["_law_row", "_law_many"] []) (mT : mg "_law_taken" = some (.ref fT)) :
    FnOk P w K mg base CX0 2 f fd ["_law_row", "_law_most"] (spRw K a ns) := (ok_rwN F T L GT kT bT mT).imp fun vs H Q E ⟨r, m, e, hR, hm, k⟩ => ⟨r, m, e, hR, hm, fun H' l h w g hV _ => k H' l h w g hV⟩
end
end TK
end
section
set_option Elab.async false
set_option maxRecDepth 100000
set_option linter.all false
namespace TK
open PySem L2 TM
open PySem.Spec PyProof.Rows TH
theorem op_twoN {X : Cx} {CX : CXT} {j n : Nat} {C D g : Addr} {sp : Sp} {E : XK} {op : Operator} (hCD : C ≠ D) (hc : PySem.W.selfFirst X.K C = true) (N : NoOp X.K D op.info.2) (hs : PySem.W.findIn X.K (.ref C) (PySem.dunder op.info.2) = some (some (.ref g))) (hf : PySem.W.isFn X.K (.ref g) = true)
    (F : FnRn n X.prog X.w X.K X.mg X.base CX j g sp) (hr : Room j X.A) (hx : Passes CX X E) : OpRn n X (binaryOp op) (rTwo C D sp E) := by
  intro pins s σ H x y v u Q hn I rx ry h
  obtain ⟨a, dx, fs, b, dy, gs, rfl, rfl, ha, hb, q⟩ := h
  cases (show v = Value.ref a from rx)
  cases (show u = Value.ref b from ry)
  obtain ⟨mA, O, _⟩ := ins_get I.hok ha
  obtain ⟨od, J, _⟩ := O.look
  obtain ⟨mB, O', _⟩ := ins_get I.hok hb
  obtain ⟨od', J', _⟩ := O'.look
  refine binop_two I.kIn J J'.type hCD hc N hs hf ?_
  refine wpAny_mono (wpAny_call (run_fnRn (us := [.ref a, .ref b]) (vs := [.ref a, .ref b]) hn F hr hx I (.cons rfl (.cons rfl .nil)) q)) (fun w s' z => ?_) fun _ _ x => x
  obtain ⟨z', H', I', rz, qz⟩ := z
  exact SlX.cmpback rz ⟨z', H', I', rz, qz⟩
abbrev rowD (g : Grid) : List PyData := g.map fun r => PyData.str (S r)
theorem row_all {K : PySem.W.Frag} {H : Hp} : ∀ g : Grid, DpAll K H (rowV g) (rowD g)
  | [] => .nil
  | _ :: g => .cons (.str _) (row_all g)
theorem row_depth : ∀ g : Grid, PyData.depthAll (rowD g) = 0
  | [] => rfl
  | x :: g => by
    show max (PyData.depth (.str _)) (PyData.depthAll (rowD g)) = 0
    rw [row_depth g]
    rfl
theorem row_lay : ∀ g : Grid, (∀ r ∈ g, ∀ c ∈ r, Cell c) → PyData.canLayAll0 (rowD g) = true
  | [], _ => rfl
  | x :: g, h => by
    show (PyData.canLay0 (.str (S x)) && PyData.canLayAll0 (rowD g)) = true
    rw [row_lay g fun r hr => h r (List.mem_cons_of_mem _ hr), Bool.and_true]
    show (S x).cps.all (· < 0x110000) = true
    rw [← Array.all_toList]
    refine List.all_eq_true.mpr fun c hc => ?_
    have := h x List.mem_cons_self c hc
    unfold Cell at this
    exact decide_eq_true (by omega)
theorem row_shaped {n m : Nat} {g : Grid} (G : VG n m g) : SeqAt.shaped (.tuple (rowD g)) = true := by
  show (PyData.canLayAll0 (rowD g) && decide (PyData.depthAll (rowD g) + 1 ≤ 64)) = true
  rw [row_lay g G.ok, row_depth]
  rfl
theorem row_sum (k : Nat) : ∀ g : Grid, (∀ r ∈ g, r.length ≤ k) → ((g.map S).map (·.length)).sum ≤ g.length * k
  | [], _ => by simp
  | x :: g, h => by
    have h1 := row_sum k g fun r hr => h r (List.mem_cons_of_mem _ hr)
    have h2 := h x List.mem_cons_self
    rw [List.map_cons, List.map_cons, List.sum_cons, S_len, List.length_cons, Nat.succ_mul]
    omega
end TK
end
section
set_option Elab.async false
set_option maxRecDepth 100000
set_option linter.all false
namespace TP
open PySem L2 TM TK TH
open PySem.Spec PyProof.Rows
def srt (l : List Nat) : List Nat := l.mergeSort (fun a b => decide (a ≤ b))
theorem srt_perm (l : List Nat) : (srt l).Perm l := List.mergeSort_perm _ _
theorem srt_up (l : List Nat) : (srt l).Pairwise (· ≤ ·) := by
  have := List.pairwise_mergeSort (le := fun a b : Nat => decide (a ≤ b)) (fun a b c h1 h2 => by simp at *; omega) (fun a b => by simp; omega) l
  exact this.imp fun h => by simpa using h
theorem rise : ∀ (zs : List Nat) (p : Nat), risingS (S [p]) (zs.map fun c => S [c]) = true → (p :: zs).Pairwise (· ≤ ·)
  | [], p, _ => by simp
  | x :: r, p, h => by
    have h' : (!ltCps [x] [p] && risingS (S [x]) (r.map fun c => S [c])) = true := h
    rw [Bool.and_eq_true] at h'
    have hpx : p ≤ x := by
      have := h'.1
      simp [ltCps] at this
      omega
    have ih := rise r x h'.2
    refine List.pairwise_cons.mpr ⟨fun y hy => ?_, ih⟩
    rcases List.mem_cons.mp hy with e | e
    · omega
    · have := (List.pairwise_cons.mp ih).1 y e
      omega
theorem sort_uniq {ys : List Str} {l : List Nat} (p : ys.Perm (l.map fun c => S [c])) (s : sortedS ys = true) : ys = (srt l).map fun c => S [c] := by
  obtain ⟨zs, rfl⟩ : ∃ zs : List Nat, ys = zs.map fun c => S [c] := by
    have : ∀ y ∈ ys, ∃ c, y = S [c] := fun y hy => by
      obtain ⟨c, _, rfl⟩ := List.mem_map.mp (p.mem_iff.mp hy)
      exact ⟨c, rfl⟩
    clear p s
    induction ys with
    | nil => exact ⟨[], rfl⟩
    | cons y ys ih =>
      obtain ⟨c, rfl⟩ := this y List.mem_cons_self
      obtain ⟨zs, rfl⟩ := ih fun y hy => this y (List.mem_cons_of_mem _ hy)
      exact ⟨c :: zs, rfl⟩
  have pz : zs.Perm l := by
    have := p.map fun y : Str => y.cps.getD 0 0
    have e : ((fun y : Str => y.cps.getD 0 0) ∘ fun c : Nat => S [c]) = id := funext fun c => rfl
    rw [List.map_map, List.map_map, e, List.map_id, List.map_id] at this
    exact this
  have up : zs.Pairwise (· ≤ ·) := by
    cases zs with
    | nil => exact List.Pairwise.nil
    | cons z zs => exact rise zs z s
  have : zs = srt l := List.Perm.eq_of_pairwise (le := (· ≤ ·)) (fun a b _ _ h1 h2 => by omega) up (srt_up l) (pz.trans (srt_perm l).symm)
  rw [this]
section
variable {P : Program} {w : World} {K : PySem.W.Frag} {mg : Str → Option Value} {base : Heap} {D : Addr} {t0 : Tok}
structure TxtM (K : PySem.W.Frag) (mg : Str → Option Value) : Prop where
  em : ∃ u, mg "EMPTY" = some u ∧ RelV (.str (S [46])) u
  srt : mg "sorted" = none
  len : mg "len" = none
abbrev NMb : List Str := ["self", "row", "cell"]
theorem scMb : FnScope NMb ["self"] (defScope sTrayMarbles) := ⟨rfl, rfl, rfl, by decide +kernel, rfl, by decide +kernel, by decide +kernel⟩
def spMb (K : PySem.W.Frag) (D : Addr) : Sp := fun vs H Q _ => ∃ (p : Addr) (h w : Nat) (g : Grid), vs = [.ref p] ∧ TrayAt K D H p g ∧ VG h w g ∧ ∀ H', Same H H' → Q (.str (S (srt (mb g.flatten)))) H'
theorem nodup_le : ∀ (n : Nat) (l : List Nat), l.Nodup → (∀ c ∈ l, 97 ≤ c ∧ c < 97 + n) → l.length ≤ n
  | 0, l, _, h => by
    cases l with
    | nil => exact Nat.le_refl _
    | cons c l =>
      have := h c List.mem_cons_self
      omega
  | n + 1, l, nd, h => by
    by_cases q : (97 + n) ∈ l
    · have e := List.length_erase_of_mem q
      have ih := nodup_le n (l.erase (97 + n)) (nd.erase _) fun c hc => by
        have := (List.Nodup.mem_erase_iff nd).mp hc
        have h2 := h c this.2
        have := this.1
        omega
      omega
    · have ih := nodup_le n l nd fun c hc => by
        have h2 := h c hc
        have : c ≠ 97 + n := fun z => q (by rw [← z]; exact hc)
        omega
      omega
theorem mb_26 {h w : Nat} {g : Grid} (V : VG h w g) : (mb g.flatten).length ≤ 26 := by
  have sub : ∀ c ∈ mb g.flatten, 97 ≤ c ∧ c < 123 := fun c hc => by
    have := List.mem_filter.mp hc
    obtain ⟨r, hr, hcr⟩ := List.mem_flatten.mp this.1
    have h2 := V.ok r hr c hcr
    rcases h2 with h2 | h2
    · subst h2; simp at this
    · exact ⟨by omega, by omega⟩
  exact nodup_le 26 _ V.nd sub
theorem ok_mb {f : Addr} {fd : FuncData} (F : Fun K "marbles" "Tray.marbles" sTrayMarbles f fd) (T : TxtM K mg) (CT : ClsT K mg D) : FnOk P w K mg base CX0 1 f fd ["self"] (spMb K D) := by
  refine F.ok scMb (fun vs H Q E h => ?_) (fun cdv A outer s H vs Q E hr h => ?_)
  · obtain ⟨p, h, w, g, rfl, _⟩ := h
    rfl
  · obtain ⟨p, h, w, g, rfl, ⟨dx, a, hp, hS⟩, hV, k⟩ := h
    have nd := scMb.nd
    refine ⟨_, pss_one (ps_ret (pe_join pe_str (pe_callB cr_sortedS (by rfl) T.srt (by decide +kernel) (pa_cons (pe_lc2 (own := [("row", 1), ("cell", 2)]) (vs1 := [2]) (g := gName 1) (g1 := gName 2) (tt := tYes) rfl nd (pi_tup (pe_fld (pv 0) rfl)) (blkOk_by (N := NMb) (sc := defScope sTrayMarbles) (by decide +kernel)) (by decide)
      (fun _ _ _ _ _ => pg_name (i := 1) nd rfl (.inl rfl)) (fun _ _ _ _ _ => pts_nil) (fun _ _ _ _ _ => pi_str (pv 1)) (fun _ _ _ _ _ => pg_name (i := 2) nd rfl (.inl rfl)) (fun _ _ _ _ _ => pts_one (pt_cmpR op_ne (pv 2) (C8.pe_gc rfl T.em) (nomark _))) (fun _ _ _ _ _ => pv 2)) pa_nil)))), ?_⟩
    refine ⟨⟨_, rfl⟩, _, rfl, p, D, dx, _, _, rfl, hp, CT.cl, CT.nR, rfl, a, rfl, ⟨_, hS⟩, fun E2 hE2 => lc2_it walk_tup (fun i H1 => Same H H1 ∧ H1 E2 = some (.lst ((mb (g.take i).flatten).map sg)))
      ⟨same_new hE2, upd_same⟩ (fun i H1 _ ⟨sm, _⟩ => sm.tup hS) ?_ ?_⟩
    · rintro i x Hz H1 hi ⟨sm, hL⟩ ⟨rfl, hx⟩
      obtain ⟨r, hri, rfl⟩ := at_map hx
      have et : ((g.take (i + 1)).flatten) = (g.take i).flatten ++ r := by
        rw [List.take_add_one, hri, List.flatten_append]
        simp
      refine ⟨rfl, _, rfl, S r, rfl, in_it (walk_str (z := S r)) (fun j H2 => Same H H2 ∧ H2 E2 = some (.lst ((mb (g.take i).flatten ++ mb (r.take j)).map sg))) ⟨sm, by rw [hL]; simp [mb]⟩ (fun _ _ _ _ => True.intro) ?_ ?_⟩
      · rintro j x Hz H2 hj ⟨sm2, hL2⟩ ⟨rfl, c, hc, rfl⟩
        rw [S_at] at hc
        have et2 : mb (r.take (j + 1)) = mb (r.take j) ++ if c = 46 then [] else [c] := by
          rw [List.take_add_one, hc]
          show mb (r.take j ++ [c]) = _
          rw [mb_app]
          by_cases q : c = 46
          · subst q; rfl
          · rw [if_neg q]; simp [mb, q]
        have hlen : (mb (g.take i).flatten ++ mb (r.take j)).length ≤ 1000 := by
          have h1 := mb_le (g.take i).flatten
          have h2 := mb_le (r.take j)
          have h3 : (g.take i).flatten.length ≤ g.flatten.length := by
            have : (g.take i).flatten ++ (g.drop i).flatten = g.flatten := by rw [← List.flatten_append, List.take_append_drop]
            rw [← this, List.length_append]
            omega
          have h4 : g.flatten.length = h * w := by
            rw [List.length_flatten]
            have : g.map List.length = List.replicate h w := List.eq_replicate_iff.mpr ⟨by rw [List.length_map]; exact hV.rc.1, fun x hx => by
              obtain ⟨l, hl, rfl⟩ := List.mem_map.mp hx
              exact hV.rc.2 l hl⟩
            rw [this]
            simp
          have h5 : h * w ≤ 64 := Nat.mul_le_mul hV.n8 hV.m8
          have h6 := hV.row (List.mem_of_getElem? hri)
          rw [List.length_take] at h2
          rw [List.length_append]
          omega
        refine ⟨rfl, _, rfl, rfl, _, rfl, ?_⟩
        rw [show (!decide (V.str (⟨#[c]⟩ : Str) = V.str (S [46]))) = !(c == 46) from congrArg _ (dL c 46)]
        by_cases q : c = 46
        · rw [beq_iff_eq.mpr q]
          refine iteF ⟨sm2, ?_⟩
          rw [hL2, et2, if_pos q, List.append_nil]
        · rw [beq_eq_false_iff_ne.mpr q]
          refine iteT ⟨_, rfl, _, hL2, ?_, same_put sm2 hE2, ?_⟩
          · rw [List.length_map]
            show _ < 16777216
            omega
          · rw [upd_same, et2, if_neg q, ← List.append_assoc, List.map_append (l₂ := [c])]
            rfl
      · rintro H2 ⟨sm2, hL2⟩
        rw [S_size, List.take_length] at hL2
        refine ⟨sm2, ?_⟩
        rw [hL2, et, mb_app]
    · rintro H1 ⟨sm, hL⟩
      rw [List.length_map, List.take_length] at hL
      have h26 := mb_26 hV
      refine ⟨E2, (mb g.flatten).map fun c => S [c], rfl, ?_, ?_, fun ys z pm st hz => ?_⟩
      · rw [List.map_map]
        exact SqL.of hL
      · rw [List.length_map]
        omega
      · have e := sort_uniq pm st
        subst e
        have l26 : (srt (mb g.flatten)).length ≤ 26 := by rw [(srt_perm _).length_eq]; exact h26
        refine ⟨_, z, (srt (mb g.flatten)).map fun c => S [c], rfl, rfl, .inl (SqL.of upd_same), ?_, ?_⟩
        · rw [sum_ones, List.length_map]
          show _ + _ * 0 ≤ _
          omega
        · rw [join_signs]
          exact k _ (sm.trans (same_new hz))
theorem scHt : FnScope ["self"] ["self"] (defScope sTrayHeight) := ⟨rfl, rfl, rfl, by decide +kernel, rfl, by decide +kernel, by decide +kernel⟩
theorem scWd : FnScope ["self"] ["self"] (defScope sTrayWidth) := ⟨rfl, rfl, rfl, by decide +kernel, rfl, by decide +kernel, by decide +kernel⟩
def spHt (K : PySem.W.Frag) (D : Addr) : Sp := fun vs H Q _ => ∃ (p : Addr) (h w : Nat) (g : Grid), vs = [.ref p] ∧ TrayAt K D H p g ∧ VG h w g ∧ Q (.int (h : Nat)) H
def spWd (K : PySem.W.Frag) (D : Addr) : Sp := fun vs H Q _ => ∃ (p : Addr) (h w : Nat) (g : Grid), vs = [.ref p] ∧ TrayAt K D H p g ∧ VG h w g ∧ Q (.int (w : Nat)) H
theorem row0 {h w : Nat} {g : Grid} (G : VG h w g) : ∃ r0, atI (rowV g) ((0 : Nat) : Int) = some (V.str (S r0)) ∧ r0.length = w ∧ r0 ∈ g := by
  have hg : 0 < g.length := by rw [G.rc.1]; exact G.n1
  have e : g[0]? = some g[0] := List.getElem?_eq_getElem hg
  exact ⟨g[0], atI_nat (by rw [List.getElem?_map, e]; all_goals rfl), G.rc.2 _ (List.getElem_mem hg), List.getElem_mem hg⟩
theorem ok_ht {f : Addr} {fd : FuncData} (F : Fun K "height" "Tray.height" sTrayHeight f fd) (T : TxtM K mg) (CT : ClsT K mg D) : FnOk P w K mg base CX0 1 f fd ["self"] (spHt K D) := by
  refine F.ok scHt (fun vs H Q E h => ?_) (fun cdv A outer s H vs Q E hr h => ?_)
  · obtain ⟨p, h, w, g, rfl, _⟩ := h
    rfl
  · obtain ⟨p, h, w, g, rfl, ⟨dx, a, hp, hS⟩, hV, k⟩ := h
    refine ⟨_, pss_one (ps_ret (pe_callB call_len_seq (by rfl) T.len PySem.boot_len (pa_cons (pe_fld (pv 0) rfl) pa_nil))), ?_⟩
    refine ⟨_, rfl, p, D, dx, _, _, rfl, hp, CT.cl, CT.nR, rfl, a, _, rfl, .inr hS, ?_⟩
    rw [List.length_map, hV.rc.1]
    exact k
theorem ok_wd {f : Addr} {fd : FuncData} (F : Fun K "width" "Tray.width" sTrayWidth f fd) (T : TxtM K mg) (CT : ClsT K mg D) : FnOk P w K mg base CX0 1 f fd ["self"] (spWd K D) := by
  refine F.ok scWd (fun vs H Q E h => ?_) (fun cdv A outer s H vs Q E hr h => ?_)
  · obtain ⟨p, h, w, g, rfl, _⟩ := h
    rfl
  · obtain ⟨p, h, w, g, rfl, ⟨dx, a, hp, hS⟩, hV, k⟩ := h
    obtain ⟨r0, e0, l0, m0⟩ := row0 hV
    refine ⟨_, pss_one (ps_ret (pe_callB call_len_str (by rfl) T.len PySem.boot_len (pa_cons (pe_ix ix_tup (pe_fld (pv 0) rfl) pe_int (fun _ _ => rfl)) pa_nil))), ?_⟩
    have := hV.row m0
    refine ⟨_, rfl, p, D, dx, _, _, rfl, hp, CT.cl, CT.nR, rfl, a, _, _, _, rfl, rfl, hS, e0, _, rfl, by rw [S_len]; show _ ≤ 16777216; omega, ?_⟩
    rw [S_len, l0]
    exact k
end
end TP
end
section
set_option Elab.async false
set_option maxRecDepth 100000
set_option linter.all false
namespace TX
open PySem PySem.Spec PyProof.Rows L2
section
variable {X : Cx} {pins : List (Addr × Obj)} {σ : L2.St} {H : Hp} {s : Shared} {A : Around} {E : Value → Shared → Prop}
/-- the bound ValueError.__init__ is called -/
theorem mw_call {u a C : Addr} {us : List Value} {Q : Value → Shared → Prop} (T : OexC X.K C) (I : Inv X pins σ H s) (e : H a = some (exo a C none)) (hu : s.heap.get? u = some (PySem.W.kxs_mw "ValueError.__init__" a)) (hl : us.length ≤ sizeLine)
    (h : ∀ s', Inv X pins σ H s' → Q .none s') : wpAny (model X.prog X.w) A (call (.ref u) us) Q E s := by
  obtain ⟨nm, q, N, bs, bm, sn, sub, ab, col, dd, k0, k1, k2, k3, k5, hC, hbm⟩ := T.cls
  obtain ⟨t1, ho⟩ := exo_at I.hok e
  have hC := I.kIn _ _ hC
  obtain ⟨hp, g, d, t, os⟩ := s
  refine wpAny_call (codeAny_of_tree ?_)
  show wpAny _ A.in1 (callAny (.ref u) ⟨us, []⟩) _ _ _
  simp only [callAny]
  refine wpAny_bind (wpAny_load hu ?_)
  simp only [PySem.W.kxs_mw, show (Value.type "method-wrapper" == Value.type "method" || Value.type "method-wrapper" == Value.type "builtin_function_or_method" || Value.type "method-wrapper" == Value.type "method-wrapper") = true from by decide, if_true]
  refine PySem.W.KFB.if_so (by decide) ?_
  refine wpAny_bind (PySem.W.check_bound_init F.excBase_ValueError.toExcCallFacts hC ho rfl ?_)
  refine wpAny_bind (wpAny_pure (wpAny_pure ?_))
  refine ⟨plainId_quiet F.excBase_ValueError.init.plain _, ?_⟩
  refine codeAny_builtin F.excBase_ValueError.initEntry ?_
  refine PySem.W.exc_init_tree (cls := .ref C) (t0 := t1) (dv := none) (c2 := .none) (c3 := .none) (b4 := .bool false) ho hl fun h' k hx _ => ?_
  have J := I.write (t' := t) (x := a) (e := a) (o := exo a C none) (by rw [e]; exact True.intro) (.inl rfl) k ⟨_, hx⟩ (exo_ok hx)
  have eu : upd H a (exo a C none) = H := by
    funext b
    by_cases hb : b = a
    · rw [hb, upd_same, e]
    · rw [upd_ne hb]
  rw [eu] at J
  exact h _ J
end
/-- what is written of an __init__ at f that says super().__init__(..): its class at C, its cell at cc, its code at cda -/
structure SupI (P : Program) (K : PySem.W.Frag) (C f cc cda : Addr) (fd : FuncData) (ar : Arg) : Prop where
  fn : ∃ oc od osl, K.lookup f = some ⟨oc, od, .func fd, osl⟩
  hd : (fd.params.posonlyargs ++ fd.params.args).head? = some ar
  code : ∃ ccl cdd vs ccs file tf, K.lookup cda = some ⟨ccl, cdd, .fields vs, ccs⟩ ∧ vs[2]? = some (.str file tf) ∧ ((P.main.file : Str) == file) = true
  cell : ∃ cl cld csl, K.lookup cc = some ⟨cl, cld, .cell (some (.ref C)), csl⟩
  sub : PySem.W.mroIn K C (.ref C) = some true
  sup : PySem.W.ks_superIn K C C "__init__" = some (some (.builtin "ValueError.__init__"))
  ve : PySem.W.subIn K (.ref C) (.type "ValueError") = some true
  op : PySem.W.nsIn K cStatics "thirdparty.any" = some none
  top : (P.main.scope.names.lookup ("super" : Str)).isSome = false
section
variable {X : Cx} {pins : List (Addr × Obj)} {σ : L2.St} {H : Hp} {s : Shared}
theorem super_stmt {a C f cc cda : Addr} {fd : FuncData} {ar : Arg} {arg : Expr} {body : List Stmt} {t : TA} {p0 p1 apos pos spos : Pos} {Qn : Hp → Prop} {pl : Sem Bool} (S : SupI X.prog X.K C f cc cda fd ar) (T : OexC X.K C) (hm : X.mg "super" = none)
    (hfu : X.env.func = some f) (hco : X.env.code = .ref cda) (hce : X.env.cells.lookup ("__class__" : Str) = some cc) (hks : X.env.scope.names.lookup ("super" : Str) = some .globalImplicit) (hkc : X.env.scope.names.lookup ("__class__" : Str) = some .free) (hka : X.env.scope.names.lookup ar.arg = some .local) (hN : X.N[0]? = some ar.arg)
    (hc : eval (.Call (.Attribute (.Call (.Name "super" p0) [] [] p1) "__init__" apos) [arg] [] pos) X.env = (do
      let ov ← attributeBase (.Call (.Name "super" p0) [] [] p1) "__init__" X.env (eval (.Call (.Name "super" p0) [] [] p1) X.env)
      standAt apos.atName
      let (f, first) ← holding [ov] (getMethod ov "__init__" pl)
      callWith pos f first (backTo pos (starEach [arg] X.env)) []))
    (hsw : swapsWith (.Call (.Attribute (.Call (.Name "super" p0) [] [] p1) "__init__" apos) [arg] [] pos) none spos.line X.env = pure false)
    (hi : interactive X.env = false) (I : Inv X pins σ H s) (hσ : σ[0]? = some (some (.ref a))) (e : H a = some (exo a C none)) (ha : PA X [arg] t) (hstar : starEach [arg] X.env = [(false, eval arg X.env)])
    (ht : t σ H fun vs H1 => vs.length ≤ 1000 ∧ H1 a = some (exo a C none) ∧ Qn H1) :
    PySem.wpAt (model X.prog X.w) X.A (.func body X.env) (exec (.Expr (.Call (.Attribute (.Call (.Name "super" p0) [] [] p1) "__init__" apos) [arg] [] pos) spos) X.env) (fun fl s' => fl = .next ∧ ∃ H1, Inv X pins σ H1 s' ∧ Qn H1) X.xe s := by
  obtain ⟨oc, od, osl, hf⟩ := S.fn
  obtain ⟨ccl, cdd, vs, ccs, file, tf, hcode, hvs, hfile⟩ := S.code
  obtain ⟨cl, cld, csl, hcell⟩ := S.cell
  have hsup := S.sup
  unfold PySem.W.ks_superIn at hsup
  cases hcd : PySem.W.clsIn X.K C with
  | none => rw [hcd] at hsup; cases hsup
  | some cd =>
  rw [hcd] at hsup
  obtain ⟨t1, ho⟩ := exo_at I.hok e
  obtain ⟨mb, hb1, hb2⟩ := I.ok.mod.blt
  obtain ⟨m, hns, hloc⟩ := I.loc
  obtain ⟨u0, ru, hlook⟩ := hloc 0 ar.arg (.ref a) hN hσ (.inl hka)
  obtain rfl : u0 = Value.ref a := ru
  refine ks_wpAt_Expr_any (ks_wpAt_MethodCall ?_ hc) hi hsw
  obtain ⟨hp, g, d, tk, os⟩ := s
  have hD := hcd
  unfold PySem.W.clsIn at hD
  split at hD
  · rename_i c0 d0 cd0 sl0 hCl
    cases hD
    have hCo := I.kIn _ _ hCl
    refine ks_wpAt_super_base (f := f) (cc := cda) (ar := ar) (vs := vs) (file := file) (tf := tf) (fd := fd) hks hkc (by decide) hfu (I.kIn _ _ hf) rfl S.hd hco (I.kIn _ _ hcode) rfl hvs hfile S.top ?_
    refine PySem.W.ks_loadName_global I.ok.kind hks (Calls.loadGlobal_builtin (by rw [I.ok.glob]; exact I.ok.mod.glob.keeps I.bk) hm (by rw [I.ok.blt]; exact hb1.keeps I.bk) ((hb2 "super" (by decide)).trans (by decide +kernel)) ⟨rfl, ?_⟩)
    refine wpAny_loadName_free I.ok.kind hkc hce ⟨_, I.kIn _ _ hcell, rfl⟩ ?_
    rcases hlook with ⟨_, hv⟩ | ⟨hk, _⟩
    · refine wpAny_loadName_local I.ok.kind hka hns hv ?_
      refine ks_wpAny_isType_cls hCo rfl ⟨rfl, ?_⟩
      refine ks_wpAny_call_super hCo rfl ho rfl (fun c z => nomatch z) (PySem.W.looks_mroIn I.kIn S.sub) fun h' e1 k1 => ?_
      have I1 : Inv X pins σ H ⟨h', g, d, tk, os⟩ := I.kept (t' := tk) k1
      obtain ⟨t2, ho1⟩ := exo_at I1.hok e
      have hne : a ≠ C := fun z => by
        subst z
        rw [ho] at hCo
        cases hCo
      refine PySem.W.kxs_getMethod PySem.W.kxs_ValueError e1 (PySem.W.looks_opaque I1.kIn S.op) (l₀ := _) (fun A Q E s k q => wpAny_bind ((PySem.W.looks_clsIn I1.kIn hcd) A _ E s k (wpAny_pure q))) rfl I1.kIn hsup ((show PySem.W.InstAt h' a _ C none from ⟨ho1, rfl, rfl, True.intro⟩).type.andThen (PySem.W.looks_subIn I1.kIn S.ve)) hne (by decide) ?_
      have I2 := ClX.pin_new (a := h'.objs.size) (o := PySem.W.kxs_mw "ValueError.__init__" a) (t' := tk + 1) I1 (fun _ _ z => Heap.get?_push_of_some _ z) (Nat.le_refl _) (Heap.get?_push_size h' rfl) (fun v z => nomatch z)
      have hrun := ha.run pos _ _ σ H _ I2 ht
      rw [hstar] at hrun ⊢
      refine PySem.W.kxs_callWith (i := "ValueError.__init__") (x := a) rfl (Calls.evalArgs_plain (thn hrun fun us s3 ⟨ws, H3, I3, rv, hl, e3, q⟩ => ⟨ClX.pin_at I3, ?_⟩))
      refine mw_call T I3 e3 (ClX.pin_at I3) ?_ fun s4 I4 => ⟨rfl, H3, ClX.unpin I4, q⟩
      show us.length ≤ sizeLine
      rw [← rv.length]
      exact Nat.le_trans hl (by decide)
    · have hk' : X.env.scope.names.lookup ar.arg = some .cell ∨ X.env.scope.names.lookup ar.arg = some .free := hk
      rw [hka] at hk'
      rcases hk' with z | z <;> cases z
  · cases hD
end
end TX
end
section
set_option Elab.async false
set_option maxRecDepth 100000
set_option linter.all false
namespace TX
open PySem PySem.Spec PyProof.Rows L2 NdefX
theorem super_fn {CX : CXT} {P : Program} {w : World} {K : PySem.W.Frag} {mg : Str → Option Value} {base : Heap} {k : Nat} {f C cc cda : Addr} {name qual : Str} {params : Arguments} {body rest : List Stmt} {scope : Scope} {kV doc pm ct oc : Value} {an od : Option Addr} {osl : Array (Option Value)}
    {N ps : List Str} {sp : Sp} {ar : Arg} {arg : Expr} {p0 p1 apos pos spos : Pos}
    (lk : K.lookup f = some ⟨oc, od, .func (PySem.W.fnX name qual params body scope [("__class__", cc)] .none kV doc pm an (.ref cda) ct), osl⟩) (hcd : PySem.W.codeIn K (.ref cda) qual = true) (S : NScope N ps ["__class__"] scope)
    (U : SupI P K C f cc cda (PySem.W.fnX name qual params body scope [("__class__", cc)] .none kV doc pm an (.ref cda) ct) ar) (T : OexC K C) (hm : mg "super" = none)
    (hbd : body = .Expr (.Call (.Attribute (.Call (.Name "super" p0) [] [] p1) "__init__" apos) [arg] [] pos) spos :: rest)
    (hks : scope.names.lookup ("super" : Str) = some .globalImplicit) (hka : scope.names.lookup ar.arg = some .local) (hN : N[0]? = some ar.arg) (len : ∀ vs H Q E, sp vs H Q E → vs.length = ps.length)
    (hst : ∀ env : Env, ∀ L : Addr, env = envF ⟨name, qual, params, body, scope, [("__class__", cc)], cda⟩ f L → ∃ pl : Sem Bool, eval (.Call (.Attribute (.Call (.Name "super" p0) [] [] p1) "__init__" apos) [arg] [] pos) env = (do
      let ov ← attributeBase (.Call (.Name "super" p0) [] [] p1) "__init__" env (eval (.Call (.Name "super" p0) [] [] p1) env)
      standAt apos.atName
      let (f, first) ← holding [ov] (getMethod ov "__init__" pl)
      callWith pos f first (backTo pos (starEach [arg] env)) []) ∧ swapsWith (.Call (.Attribute (.Call (.Name "super" p0) [] [] p1) "__init__" apos) [arg] [] pos) none spos.line env = pure false ∧ interactive env = false ∧ starEach [arg] env = [(false, eval arg env)])
    (hbody : ∀ (A : Around) (outer : List Env) (s : Shared) (H : Hp) (vs : List V) (Q : VK) (E : XK), sp vs H Q E → ∃ (a : Addr) (Mid : Hp → Prop) (ta : TA) (t : TS),
      PA (ncx CX P w K mg base N ⟨name, qual, params, body, scope, [("__class__", cc)], cda⟩ f A outer s H E) [arg] ta ∧ PSs (ncx CX P w K mg base N ⟨name, qual, params, body, scope, [("__class__", cc)], cda⟩ f A outer s H E) rest t ∧
      (startF N vs [some (.ref C)])[0]? = some (some (.ref a)) ∧ H a = some (exo a C none) ∧ ta (startF N vs [some (.ref C)]) H (fun vs H1 => vs.length ≤ 1000 ∧ H1 a = some (exo a C none) ∧ Mid H1) ∧
      ∀ H1, Mid H1 → t { nx := fun _ H' => Q .non H', rt := Q } (startF N vs [some (.ref C)]) H1) :
    FnOk P w K mg base CX (k + 1) f (PySem.W.fnX name qual params body scope [("__class__", cc)] .none kV doc pm an (.ref cda) ct) ps sp := by
  refine ⟨len, fun A outer s H args us vs Q E hr e0 hb r hsp => ?_⟩
  have hl := len _ _ _ _ hsp
  have KX : K.In s.heap := e0.mod.kin.keeps fun b o e => (e0.bs b o e).1
  have lim : s.heap.NoLimit := e0.mod.nolimit.keeps fun b o e => (e0.bs b o e).1
  obtain ⟨cl, cld, csl, hcell⟩ := U.cell
  have one : ∀ {y : Str} {c : Addr}, ([("__class__", cc)] : List (Str × Addr)).lookup y = some c → y = "__class__" ∧ c = cc := fun {y c} h => by
    rw [List.lookup_cons] at h
    cases e : (y == ("__class__" : Str)) with
    | true => rw [e] at h; exact ⟨eq_of_beq e, (Option.some.inj h).symm⟩
    | false => rw [e] at h; cases h
  have cells : CellsAt [("__class__", cc)] ["__class__"] [some (.ref C)] s.heap H := by
    refine ⟨rfl, fun y c h => ?_, fun x y c h1 h2 => (one h1).1.trans (one h2).1.symm, fun i y h => ?_⟩
    · obtain ⟨rfl, rfl⟩ := one h
      exact ⟨(e0.bs _ _ (e0.mod.kin _ _ hcell)).2, _, _, KX _ _ hcell, rfl⟩
    · match i, h with
      | 0, h =>
        obtain rfl : ("__class__" : Str) = y := Option.some.inj h
        exact ⟨cc, rfl, fun v e => ⟨.ref C, by cases e; rfl, _, KX _ _ hcell, rfl⟩⟩
      | i + 1, h => cases h
  obtain ⟨a, Mid, ta, t, hA, hS, h0, ea, hta, ht⟩ := hbody A outer s H vs Q E hsp
  refine ks_codeAny_call_defAt (body := body) (binds := ps.zip us) hr.depth (KX _ _ lk) rfl lim (PySem.W.codeRec_of KX hcd) rfl hb S.nocell (fun ⟨n, _⟩ hy => S.par n (List.of_mem_zip hy).1) (fun h₁ hns kp => ?_) S.co S.gen S.kind
  have I : Inv (ncx CX P w K mg base N ⟨name, qual, params, body, scope, [("__class__", cc)], cda⟩ f A outer s H E) [] (startF N vs [some (.ref C)]) H { s with heap := h₁, toks := s.toks + (ps.zip us).length } := inv_startN S hr.hd e0 hl r cells hns kp
  obtain ⟨pl, hc, hsw, hi, hstar⟩ := hst (envF ⟨name, qual, params, body, scope, [("__class__", cc)], cda⟩ f s.heap.objs.size) _ rfl
  have fin : ∀ {σ' : L2.St} {H' : Hp} {v : V} {u : Value} {s' : Shared}, Inv (ncx CX P w K mg base N ⟨name, qual, params, body, scope, [("__class__", cc)], cda⟩ f A outer s H E) [] σ' H' s' → L2.RelV v u → Q v H' → CE outer P w H s Q u s' :=
    fun {σ' H' v u s'} J rv q => ⟨v, H', J.os, J.bare, J.base, J.hok, rv, q⟩
  have first := super_stmt (X := ncx CX P w K mg base N ⟨name, qual, params, body, scope, [("__class__", cc)], cda⟩ f A outer s H E) (body := body) (Qn := Mid) U T hm rfl rfl rfl hks (S.frk _ (by simp)) hka hN hc hsw hi I h0 ea hA hstar hta
  subst hbd
  refine ks_wpAt_execs_cons (ks_wpAt_mono first (fun fl s1 ⟨e, H1, I1, q1⟩ => ?_) fun _ _ z => z)
  subst e
  refine wpAt_of_wpAny (wpAny_mono (hS.run [] s1 _ H1 _ I1 (ht H1 q1)) (fun fl s' hs => ?_) fun _ _ z => z)
  cases fl with
  | ret u =>
    obtain ⟨v, σ', H', J, rv, q⟩ := hs
    exact fin J rv q
  | next =>
    obtain ⟨σ', H', J, q⟩ := hs
    exact fin (v := V.non) (u := Value.none) J rfl q
  | brk =>
    obtain ⟨_, _, _, q⟩ := hs
    exact False.elim q
  | cont =>
    obtain ⟨_, _, _, q⟩ := hs
    exact False.elim q
end TX
end
section
set_option Elab.async false
set_option maxRecDepth 100000
set_option linter.all false
namespace TX
open PySem PySem.Spec PyProof.Rows L2 NdefX TK
section
variable {CX : CXT} {P : Program} {w : World} {K : PySem.W.Frag} {mg : Str → Option Value} {base : Heap} {f C cc cda : Addr} {kV doc pm ct oc : Value} {an od : Option Addr} {osl : Array (Option Value)} {ar : Arg}
def spUm (C : Addr) : Sp := fun vs H Q _ => ∃ (a : Addr) (v : V), vs = [.ref a, v] ∧ H a = some (exo a C none) ∧ ∀ dx, H dx = none → dx ≠ a → Q .non (upd (upd H dx (exd dx [("marble", v)])) a (exo a C (some dx)))
theorem scUm : NScope ["self", "marble", "__class__"] ["self", "marble"] ["__class__"] (defScope sUnknownMarbleInit) := nscope_by (by decide +kernel)
theorem ok_um (lk : K.lookup f = some ⟨oc, od, .func (PySem.W.fnX "__init__" "UnknownMarble.__init__" (defArgs sUnknownMarbleInit) (defBody sUnknownMarbleInit) (defScope sUnknownMarbleInit) [("__class__", cc)] .none kV doc pm an (.ref cda) ct), osl⟩) (hcd : PySem.W.codeIn K (.ref cda) "UnknownMarble.__init__" = true)
    (U : SupI P K C f cc cda (PySem.W.fnX "__init__" "UnknownMarble.__init__" (defArgs sUnknownMarbleInit) (defBody sUnknownMarbleInit) (defScope sUnknownMarbleInit) [("__class__", cc)] .none kV doc pm an (.ref cda) ct) ar) (har : ar.arg = "self") (T : OexC K C) (hm : mg "super" = none) (hno : PySem.W.findIn K (.ref C) "marble" = some none) :
    FnOk P w K mg base CX 1 f (PySem.W.fnX "__init__" "UnknownMarble.__init__" (defArgs sUnknownMarbleInit) (defBody sUnknownMarbleInit) (defScope sUnknownMarbleInit) [("__class__", cc)] .none kV doc pm an (.ref cda) ct) ["self", "marble"] (spUm C) := by
  refine super_fn (N := ["self", "marble", "__class__"]) (k := 0) lk hcd scUm U T hm rfl (by decide +kernel) (by rw [har]; decide +kernel) (by rw [har]; rfl) (fun vs H Q E h => ?_) (fun env L he => ?_) fun A outer s H vs Q E h => ?_
  · obtain ⟨a, v, rfl, _⟩ := h
    rfl
  · subst he
    exact ⟨_, rfl, rfl, rfl, rfl⟩
  · obtain ⟨a, v, rfl, e, k⟩ := h
    refine ⟨a, fun H1 => H1 = H, _, _, pa_cons pe_str pa_nil, pss_one (ps_ost (pv 0) (pv 1)), rfl, e, ?_, ?_⟩
    · exact ⟨by show 1 ≤ 1000; decide, e, rfl⟩
    · rintro H1 rfl
      exact ⟨_, rfl, _, rfl, a, C, rfl, T, hno, .inl ⟨e, k⟩⟩
end
end TX
end
section
set_option Elab.async false
set_option maxRecDepth 100000
set_option linter.all false
namespace TK
open PySem L2 TM
open TX
section
variable {P : Program} {w : World} {K : PySem.W.Frag} {mg : Str → Option Value} {base : Heap} {C fT : Addr} {fdT : FuncData}
/-- a value that is no text -/
def NoText (K : PySem.W.Frag) (H : Hp) (x : V) : Prop := ∃ ty, TyX K H x (.type ty) ∧ kitB ty "str" = some false
/-- what is written of an exception class of the program -/
structure ExcT (K : PySem.W.Frag) (mg : Str → Option Value) (x : Str) (CE fE : Addr) : Prop where
  ox : OexC K CE
  mgE : mg x = some (.ref CE)
  iE : PySem.W.findIn K (.ref CE) "__init__" = some (some (.ref fE))
  tE : PySem.W.typeIn K (.ref fE) = some (.type "function")
end
end TK
end
namespace TX
end TX
namespace TA
end TA
section
set_option Elab.async false
set_option maxRecDepth 100000
set_option linter.all false
namespace TA
open TK
open PySem PySem.Spec PyProof.Rows L2
/-- a sequence at a: a list, a tuple -/
inductive Sq (K : PySem.W.Frag) (H : Hp) (a : Addr) (xs : List V) : Bool → Prop where
  | lst (h : SqL K H a xs) : Sq K H a xs false
  | tup (h : SqT K H a xs) : Sq K H a xs true
def tyN (t : Bool) : String := if t then "tuple" else "list"
theorem sq_ty {K : PySem.W.Frag} {H : Hp} {a : Addr} {xs : List V} {t : Bool} (h : Sq K H a xs t) : TyX K H (.ref a) (.type (tyN t)) := by
  cases h with
  | lst h =>
    rcases h with (h | ⟨o, h⟩) | ⟨o, its, n, h, c, _⟩
    · exact .base (.lst h)
    · exact .base (.frz h)
    · exact .kList h c
  | tup h =>
    rcases h with (h | ⟨o, h⟩) | ⟨o, its, n, h, c, _⟩
    · exact .base (.tup h)
    · exact .fTuple h
    · exact .kTuple h c
theorem tup_kit (t : Bool) : kitB (tyN t) "tuple" = some t := by
  cases t <;> decide +kernel
section
variable {P : Program} {w : World} {K : PySem.W.Frag} {mg : Str → Option Value} {base : Heap}
end
end TA
end
section
set_option Elab.async false
set_option maxRecDepth 100000
set_option maxHeartbeats 4000000
set_option linter.all false
namespace TB
open PySem PySem.Spec PyProof.Rows L2
section
variable {X : Cx} {CX : CXT} {n : Nat} {C g : Addr} {sp : Sp} {E : XK}
def rLenOwn (C : Addr) (sp : Sp) (E : XK) : List V → Hp → VK → Prop := fun xs H Q => ∃ a dx fs, xs = [V.ref a] ∧ H a = some (.ins C dx fs) ∧ sp [.ref a] H (fun z H' => ∃ k : Nat, z = .int k ∧ k < 2 ^ 63 ∧ Q z H') E
theorem call_lenOwn (hs : PySem.W.findIn X.K (.ref C) "__len__" = some (some (.ref g))) (hf : PySem.W.isFn X.K (.ref g) = true) (F : FnR X.prog X.w X.K X.mg X.base CX n g sp) (hr : Room (n + 1) X.A) (hx : Passes CX X E) : CallR X (.builtin "len") (rLenOwn C sp E) := by
  intro pins s σ H xs us Q I r h
  obtain ⟨a, dx, fs, rfl, ha, q⟩ := h
  obtain ⟨u, rfl, ru⟩ := r.one
  cases (show u = Value.ref a from ru)
  obtain ⟨mA, O, _⟩ := ins_get I.hok ha
  obtain ⟨od, J, _⟩ := O.look
  obtain ⟨m, hF⟩ := I.fr
  refine PySem.W.len_K hF I.ok.mod.kin J hs hf (wpAny_mono (wpAny_call (SlX.run_at (us := [.ref a]) (ws := [.ref a]) F hr.in1 I.env0.in1 hx I (.cons rfl .nil) q)) (fun w s' z => ?_) fun _ _ x => x)
  obtain ⟨z', H', I', rz, k, rfl, hk, qz⟩ := z
  obtain ⟨t, rfl⟩ := (show ∃ t, w = Value.int k t from rz)
  exact ⟨⟨by omega, by omega⟩, .int k, H', I'.tok _, ⟨_, rfl⟩, qz⟩
/-- y in x -/
def rInOwn (C : Addr) (sp : Sp) (E : XK) : R2 := fun y x H Q => ∃ a dx fs, x = .ref a ∧ H a = some (.ins C dx fs) ∧ sp [.ref a, y] H (fun z H' => ∃ b, z = .bl b ∧ Q z H') E
theorem op_inOwn (hs : PySem.W.findIn X.K (.ref C) "__contains__" = some (some (.ref g))) (hf : PySem.W.isFn X.K (.ref g) = true) (F : FnR X.prog X.w X.K X.mg X.base CX n g sp) (hr : Room n X.A) (hx : Passes CX X E) : OpR X (compareOp .In) (rInOwn C sp E) := by
  intro pins s σ H y x u v Q I ry rx h
  obtain ⟨a, dx, fs, rfl, ha, q⟩ := h
  cases (show v = Value.ref a from rx)
  obtain ⟨mA, O, _⟩ := ins_get I.hok ha
  obtain ⟨od, J, _⟩ := O.look
  obtain ⟨m, hF⟩ := I.fr
  refine PySem.W.in_K hF I.ok.mod.kin J hs hf (wpAny_mono (wpAny_call (SlX.run_at (us := [.ref a, u]) (ws := [.ref a, y]) F hr I.env0 hx I (.cons rfl (.cons ry .nil)) q)) (fun w s' z => ?_) fun _ _ x => x)
  obtain ⟨z', H', I', rz, b, rfl, qz⟩ := z
  obtain rfl : w = Value.bool b := rz
  exact wpAny_truthy_bool ⟨.bl b, H', I', rfl, qz⟩
/-- a op y, y an instance of the class at C or a value of the built-in type T -/
def rCmpOwn (K : PySem.W.Frag) (C : Addr) (sp : Sp) (E : XK) : R2 := fun x y H Q => ∃ a dx fs, x = .ref a ∧ H a = some (.ins C dx fs) ∧
  ((∃ b dy gs, y = .ref b ∧ H b = some (.ins C dy gs)) ∨ ∃ T, (∀ u, RelV y u → typeOf u = pure (.type T)) ∧ PySem.W.notFirst K C (.type T) = true) ∧ sp [x, y] H Q E
theorem op_cmpOwn {op : CmpOp} (hop : ∀ a b, compareOp op a b = richCompare op a b) (hs : PySem.W.findIn X.K (.ref C) (cmpInfo op).2.1 = some (some (.ref g))) (hf : PySem.W.isFn X.K (.ref g) = true) (F : FnR X.prog X.w X.K X.mg X.base CX n g sp)
    (hr : Room n X.A) (hx : Passes CX X E) : OpR X (compareOp op) (rCmpOwn X.K C sp E) := by
  intro pins s σ H x y v u Q I rx ry h
  obtain ⟨a, dx, fs, rfl, ha, hy, q⟩ := h
  cases (show v = Value.ref a from rx)
  obtain ⟨mA, O, _⟩ := ins_get I.hok ha
  obtain ⟨od, J, _⟩ := O.look
  obtain ⟨m, hF⟩ := I.fr
  obtain ⟨tb, hb, hn⟩ : ∃ tb, PySem.W.Looks (model X.prog X.w) s.heap (typeOf u) tb ∧ PySem.W.notFirst X.K C tb = true := by
    rcases hy with ⟨b, dy, gs, rfl, hb⟩ | ⟨T, ht, hn⟩
    · cases (show u = Value.ref b from ry)
      obtain ⟨mB, O', _⟩ := ins_get I.hok hb
      obtain ⟨od', J', _⟩ := O'.look
      exact ⟨.ref C, J'.type, by simp [PySem.W.notFirst]⟩
    · exact ⟨.type T, PySem.W.Looks.of_pure (ht _ ry), hn⟩
  rw [hop]
  refine PySem.W.cmp_K (op := op) (tb := tb) hr.units0 hF I.ok.mod.kin J hb hn hs hf ?_
  refine wpAny_mono (wpAny_call (run_fnR (us := [.ref a, u]) (vs := [.ref a, y]) F hr hx I (.cons rfl (.cons ry .nil)) q)) (fun w s' z => ?_) fun _ _ x => x
  obtain ⟨z', H', I', rz, qz⟩ := z
  exact SlX.cmpback rz ⟨z', H', I', rz, qz⟩
end
end TB
end
namespace TB
end TB
namespace TA
end TA
section
set_option Elab.async false
set_option maxRecDepth 100000
set_option linter.all false
namespace TA
open TK
open PySem PySem.Spec PyProof.Rows L2 LamX TX TK TM TB
def isN : V → Int → Bool
  | .int i, l => decide (0 ≤ i) && decide (i ≤ l)
  | _, _ => false
/-- what isinstance says of a value -/
structure Kn (K : PySem.W.Frag) (H : Hp) (x : V) (ty : String) (bb bi : Bool) : Prop where
  t : TyX K H x (.type ty)
  b : kitB ty "bool" = some bb
  i : kitB ty "int" = some bi
  yes : bb = false → bi = true → ∃ i, x = .int i
  no : bb = true ∨ bi = false → ∀ i, x ≠ .int i
theorem kn_int {K : PySem.W.Frag} {H : Hp} (i : Int) : Kn K H (.int i) "int" false true := ⟨.base (.int i), by decide +kernel, by decide +kernel, fun _ _ => ⟨i, rfl⟩, fun h => by rcases h with h | h <;> cases h⟩
structure TxtN (K : PySem.W.Frag) (mg : Str → Option Value) : Prop where
  isi : mg "isinstance" = none
  bool : mg "bool" = none
  int : mg "int" = none
section
variable {P : Program} {w : World} {K : PySem.W.Frag} {mg : Str → Option Value} {base : Heap} {C fT : Addr} {fdT : FuncData}
theorem scNu : FnScope ["value", "limit"] ["value", "limit"] (defScope sIsNumber) := ⟨rfl, rfl, rfl, by decide +kernel, rfl, by decide +kernel, by decide +kernel⟩
def spNum (K : PySem.W.Frag) : Sp := fun vs H Q _ => ∃ (x : V) (l : Int) (ty : String) (bb bi : Bool), vs = [x, .int l] ∧ Kn K H x ty bb bi ∧ Q (.bl (isN x l)) H
theorem ok_num {f : Addr} {fd : FuncData} (F : Fun K "is_number" "is_number" sIsNumber f fd) (T : TxtN K mg) : FnOk P w K mg base CX0 1 f fd ["value", "limit"] (spNum K) := by
  refine F.ok scNu (fun vs H Q E h => ?_) (fun cdv A outer s H vs Q E hr h => ?_)
  · obtain ⟨x, l, ty, bb, bi, rfl, _⟩ := h
    rfl
  · obtain ⟨x, l, ty, bb, bi, rfl, N, k⟩ := h
    refine ⟨_, pss_cons (ps_if (PW.pt (pw_or (pt_val (pe_callB call_isi (by rfl) T.isi (by decide +kernel) (pa_cons (pv 0) (pa_cons (pe_bltn (v := .ty "bool") (by rfl) T.bool (by decide +kernel) rfl) pa_nil))))
        (pw_or1 (pt_not (pt_val (pe_callB call_isi (by rfl) T.isi (by decide +kernel) (pa_cons (pv 0) (pa_cons (pe_bltn (v := .ty "int") (by rfl) T.int (by decide +kernel) rfl) pa_nil)))))))) (pss_one (ps_ret pe_bl)) pss_nil)
      (pss_one (ps_ret (pe_chain op_le op_le pe_int (pv 0) (pv 1)))), ?_⟩
    refine ⟨_, rfl, _, _, _, _, bb, rfl, .ty _, N.t, kit_ty N.b, bb, rfl, ?_⟩
    cases bb with
    | true =>
      refine iteT ?_
      have e : isN x l = false := by
        have h := N.no (.inl rfl)
        cases x with
        | int i => exact absurd rfl (h i)
        | _ => rfl
      rw [e] at k
      exact k
    | false =>
      refine iteF ⟨_, rfl, _, _, _, _, bi, rfl, .ty _, N.t, kit_ty N.i, bi, rfl, ?_⟩
      cases bi with
      | false =>
        refine iteT ?_
        have e : isN x l = false := by
          have h := N.no (.inr rfl)
          cases x with
          | int i => exact absurd rfl (h i)
          | _ => rfl
        rw [e] at k
        exact k
      | true =>
        obtain ⟨i, rfl⟩ := N.yes rfl rfl
        refine iteF ?_
        refine ⟨_, rfl, _, _, rfl, rfl, _, rfl, ?_⟩
        by_cases h0 : (0 : Int) ≤ i
        · rw [decide_eq_true h0]
          refine iteT ⟨_, rfl, _, _, rfl, rfl, ?_⟩
          have e : isN (.int i) l = decide (i ≤ l) := by
            show (decide (0 ≤ i) && decide (i ≤ l)) = _
            rw [decide_eq_true h0, Bool.true_and]
          rw [e] at k
          exact k
        · rw [decide_eq_false h0]
          refine iteF ?_
          have e : isN (.int i) l = false := by
            show (decide (0 ≤ i) && decide (i ≤ l)) = _
            rw [decide_eq_false h0, Bool.false_and]
          rw [e] at k
          exact k
end
end TA
end
section
set_option Elab.async false
set_option maxRecDepth 100000
set_option linter.all false
namespace TP
open PySem L2 TM TK TH TB TX
open PySem.Spec PyProof.Rows
def rNotOwn (C : Addr) (sp : Sp) (E : XK) : R2 := fun y x H Q => ∃ a dx fs, x = .ref a ∧ H a = some (.ins C dx fs) ∧ sp [.ref a, y] H (fun z H' => ∃ c, z = .bl c ∧ Q (.bl (!c)) H') E
theorem one_of {u : List Nat} (h : u.length = 1) : ∃ c, u = [c] := by
  match u, h with
  | [c], _ => exact ⟨c, rfl⟩
theorem op_notOwn {X : Cx} {CX : CXT} {n : Nat} {C g : Addr} {sp : Sp} {E : XK} (hs : PySem.W.findIn X.K (.ref C) "__contains__" = some (some (.ref g))) (hf : PySem.W.isFn X.K (.ref g) = true) (F : FnR X.prog X.w X.K X.mg X.base CX n g sp) (hr : Room n X.A) (hx : Passes CX X E) : OpR X (compareOp .NotIn) (rNotOwn C sp E) := by
  intro pins s σ H y x u v Q I ry rx h
  obtain ⟨a, dx, fs, rfl, ha, q⟩ := h
  cases (show v = Value.ref a from rx)
  obtain ⟨mA, O, _⟩ := ins_get I.hok ha
  obtain ⟨od, J, _⟩ := O.look
  obtain ⟨m, hF⟩ := I.fr
  refine PySem.W.notIn_K hF I.ok.mod.kin J hs hf (wpAny_mono (wpAny_call (SlX.run_at (us := [.ref a, u]) (ws := [.ref a, y]) F hr I.env0 hx I (.cons rfl (.cons ry .nil)) q)) (fun w s' z => ?_) fun _ _ x => x)
  obtain ⟨z', H', I', rz, b, rfl, qz⟩ := z
  obtain rfl : w = Value.bool b := rz
  exact wpAny_truthy_bool ⟨.bl (!b), H', I', rfl, qz⟩
theorem occ_at {t : List Nat} {c : Nat} (h : c ∈ t) : ∃ i rest, Builtin.Str.occurrences (S t) (S [c]) 0 (S t).length 1 = i :: rest ∧ t[i]? = some c := by
  have h1 := StrLaws.found_one (S t) c
  rw [S_list] at h1
  change (!(Builtin.Str.occurrences (S t) (S [c]) 0 (S t).length 1).isEmpty) = _ at h1
  rw [decide_eq_true h] at h1
  obtain ⟨f, hc⟩ := StrLaws.occ_chain (S t) (S [c]) 1
  cases e : Builtin.Str.occurrences (S t) (S [c]) 0 (S t).length 1 with
  | nil =>
    rw [e] at h1
    cases h1
  | cons i rest =>
    rw [e] at hc
    obtain ⟨_, ⟨h2, h3⟩, _⟩ := hc
    refine ⟨i, rest, rfl, ?_⟩
    rw [S_len, S_len] at h2
    have hi : i < t.length := by
      have : i + 1 ≤ t.length := h2
      omega
    have h4 := beq_iff_eq.mp h3
    have h5 := congrArg (fun a : Array Nat => a[0]?) h4
    simp only [Array.getElem?_extract] at h5
    rw [List.getElem?_eq_getElem hi]
    simp [S] at h5
    rw [← h5.2, List.getElem?_eq_getElem hi]
section
variable {P : Program} {w : World} {K : PySem.W.Frag} {mg : Str → Option Value} {base : Heap} {D CU fU pM gM pW gW fC : Addr} {fdM fdW fdU : FuncData}
theorem scTc : FnScope ["self", "x"] ["self", "x"] (defScope sTrayContains) := ⟨rfl, rfl, rfl, by decide +kernel, rfl, by decide +kernel, by decide +kernel⟩
def has (g : Grid) (u : List Nat) : Bool := decide (u.length = 1) && decide (u.getD 0 0 ∈ mb g.flatten)
def spTc (K : PySem.W.Frag) (D : Addr) : Sp := fun vs H Q _ => ∃ (p : Addr) (x : V) (h w : Nat) (g : Grid), vs = [.ref p, x] ∧ TrayAt K D H p g ∧ VG h w g ∧
  ((∃ u : List Nat, x = .str (S u) ∧ u.length ≤ 1000 ∧ ∀ H', Same H H' → Q (.bl (has g u)) H') ∨ (NoText K H x ∧ ∀ H', Same H H' → Q (.bl false) H'))
theorem ok_tc {f : Addr} {fd : FuncData} (F : Fun K "__contains__" "Tray.__contains__" sTrayContains f fd) (T : TxtW K mg) (CT : ClsT K mg D) (PM : PropOf K D "marbles" pM gM) (GM : FnOk P w K mg base CX0 1 gM fdM ["self"] (spMb K D)) (bM : Binds K fdM ["self"] []) :
    FnOk P w K mg base CX0 3 f fd ["self", "x"] (spTc K D) := by
  refine F.ok scTc (fun vs H Q E h => ?_) (fun cdv A outer s H vs Q E hr h => ?_)
  · obtain ⟨p, x, h, w, g, rfl, _⟩ := h
    rfl
  · obtain ⟨p, x, h, w, g, rfl, T0, hV, hx⟩ := h
    obtain ⟨dx, a, hp, hS⟩ := id T0
    refine ⟨_, pss_one (ps_ret (pe_and (pe_callB call_isi (by rfl) T.isi (by decide +kernel) (pa_cons (pv 1) (pa_cons (pe_bltn (v := .ty "str") (by rfl) T.str (by decide +kernel) rfl) pa_nil)))
      (pe_and (pe_cmpR op_eq (pe_callB call_len_str (by rfl) T.len PySem.boot_len (pa_cons (pv 1) pa_nil)) pe_int (nomark _))
        (pe_one (pe_cmpR op_in_sign (pv 1) (pe_prop (pv 0) CT.cl PM GM (hr.mono (by decide)) bM .nil pass0 rfl) (by rfl)))))), ?_⟩
    rcases hx with ⟨u, rfl, hl, k⟩ | ⟨⟨ty, hty, hk⟩, k⟩
    · refine ⟨_, rfl, _, _, _, _, true, rfl, .ty _, .base (.str _), kit_ty (by decide +kernel), true, rfl, iteT ?_⟩
      have hs : (S u).length ≤ sizeLine := by
        rw [S_len]
        show _ ≤ 16777216
        omega
      refine ⟨_, rfl, _, rfl, hs, rfl, _, rfl, ?_⟩
      by_cases h1 : u.length = 1
      · obtain ⟨c, rfl⟩ := one_of h1
        have e : decide (V.int ((S [c]).length : Nat) = V.int 1) = true := decide_eq_true (by rw [S_len]; rfl)
        rw [e]
        refine iteT ⟨_, rfl, _, rfl, p, dx, _, rfl, hp, p, h, w, g, rfl, T0, hV, fun H1 sm => ?_⟩
        refine ⟨c, _, rfl, rfl, ?_⟩
        rw [S_list]
        have k1 := k H1 sm
        have e2 : has g [c] = decide (c ∈ mb g.flatten) := rfl
        rw [e2] at k1
        rw [show decide (c ∈ srt (mb g.flatten)) = decide (c ∈ mb g.flatten) from decide_eq_decide.mpr (srt_perm _).mem_iff]
        exact k1
      · have e : decide (V.int ((S u).length : Nat) = V.int 1) = false := decide_eq_false (by
          rw [S_len]
          intro z
          injection z with z
          omega)
        rw [e]
        refine iteF ?_
        have k1 := k H (Same.refl H)
        unfold has at k1
        rw [decide_eq_false h1, Bool.false_and] at k1
        exact k1
    · exact ⟨_, rfl, _, _, _, _, false, rfl, .ty _, hty, kit_ty hk, false, rfl, iteF (k _ (Same.refl H))⟩
theorem scCl : FnScope ["self", "marble", "cells"] ["self", "marble"] (defScope sTrayCall) := ⟨rfl, rfl, rfl, by decide +kernel, rfl, by decide +kernel, by decide +kernel⟩
def spCl (K : PySem.W.Frag) (D CU : Addr) : Sp := fun vs H Q E => ∃ (p : Addr) (x : V) (h w : Nat) (g : Grid), vs = [.ref p, x] ∧ TrayAt K D H p g ∧ VG h w g ∧
  ((∃ c k : Nat, x = sg c ∧ c ≠ 46 ∧ g.flatten[k]? = some c ∧ ∀ H' q, Same H H' → H q = none → H' q = some (.tup [.int ((k : Int) / w), .int ((k : Int) % w)]) → Q (.ref q) H') ∨
    (((∃ u : List Nat, x = .str (S u) ∧ u.length ≤ 1000 ∧ has g u = false) ∨ NoText K H x) ∧ ∀ H' d, Same H H' → H d = none → H' d = some (.xd [("marble", x)]) → E (.ref CU) (some d) H'))
theorem mb_uniq {l : List Nat} (nd : (mb l).Nodup) {c i j : Nat} (hc : c ≠ 46) (hi : l[i]? = some c) (hj : l[j]? = some c) : i = j := by
  induction l generalizing i j with
  | nil => simp at hi
  | cons x l ih =>
    by_cases hx : x = 46
    · subst hx
      have e : mb (46 :: l) = mb l := by simp [mb]
      rw [e] at nd
      cases i with
      | zero => simp at hi; exact absurd hi.symm hc
      | succ i =>
        cases j with
        | zero => simp at hj; exact absurd hj.symm hc
        | succ j => rw [ih nd (i := i) (j := j) (by simpa using hi) (by simpa using hj)]
    · have e : mb (x :: l) = x :: mb l := by simp [mb, hx]
      rw [e] at nd
      have nd' := List.nodup_cons.mp nd
      have no : ∀ {k : Nat}, l[k]? = some x → False := fun {k} hk => nd'.1 (List.mem_filter.mpr ⟨List.mem_of_getElem? hk, by simp [hx]⟩)
      cases i with
      | zero =>
        simp at hi
        subst hi
        cases j with
        | zero => rfl
        | succ j => exact (no (by simpa using hj)).elim
      | succ i =>
        cases j with
        | zero =>
          simp at hj
          subst hj
          exact (no (by simpa using hi)).elim
        | succ j => rw [ih nd'.2 (i := i) (j := j) (by simpa using hi) (by simpa using hj)]
theorem flat_len {h w : Nat} {g : Grid} (R : Rect h w g) : g.flatten.length = h * w := by
  rw [List.length_flatten]
  have : g.map List.length = List.replicate h w := List.eq_replicate_iff.mpr ⟨by rw [List.length_map]; exact R.1, fun x hx => by
    obtain ⟨l, hl, rfl⟩ := List.mem_map.mp hx
    exact R.2 l hl⟩
  rw [this]
  simp
theorem join0 : ∀ g : Grid, Txt.join (S []) (g.map S) = S g.flatten := fun g => by
  rw [join_S, joinL_nil]
theorem ok_cl {f : Addr} {fd : FuncData} (F : Fun K "__call__" "Tray.__call__" sTrayCall f fd) (CT : ClsT K mg D) (dm : mg "divmod" = none)
    (hs : PySem.W.findIn K (.ref D) "__contains__" = some (some (.ref fC))) (hf : PySem.W.isFn K (.ref fC) = true) (FC : FnR P w K mg base CX0 3 fC (spTc K D))
    (PW_ : PropOf K D "width" pW gW) (GW : FnOk P w K mg base CX0 1 gW fdW ["self"] (spWd K D)) (bW : Binds K fdW ["self"] [])
    (X : ExcT K mg "UnknownMarble" CU fU) (GU : FnOk P w K mg base CX0 1 fU fdU ["self", "marble"] (spUm CU)) (bU : Binds K fdU ["self", "marble"] []) :
    FnOk P w K mg base (L2.CX P w) 4 f fd ["self", "marble"] (spCl K D CU) := by
  refine F.okX scCl (fun vs H Q E h => ?_) (fun cdv A outer s H vs Q E hr h => ?_)
  · obtain ⟨p, x, h, w, g, rfl, _⟩ := h
    rfl
  · obtain ⟨p, x, h, w, g, rfl, T0, hV, hx⟩ := h
    obtain ⟨dx, a, hp, hS⟩ := id T0
    refine ⟨_, pss_cons (ps_if (pt_cmpR (op_notOwn hs hf FC hr pass0) (pv 1) (pv 0) (by rfl)) (pss_one (ps_raise rfl (takes_of rfl rfl rfl rfl) (pmk_oex X.ox X.iE X.tE GU (hr.mono (by decide)) bU .nil pass0 rfl X.mgE (pa_cons (pv 1) pa_nil)))) pss_nil)
      (pss_cons (ps_set (i := 2) scCl.nd rfl (.inl rfl) (pe_join pe_str (pe_fld (pv 0) rfl)))
      (pss_one (ps_ret (pe_callB call_divmod (by rfl) dm (by decide +kernel) (pa_cons (pe_bm PySem.F.plainAttrs_str PySem.F.slot_str_index PySem.F.type_str_index mt_sindex (pv 2) (pa_cons (pv 1) pa_nil)) (pa_cons (pe_prop (pv 0) CT.cl PW_ GW (hr.mono (by decide)) bW .nil pass0 rfl) pa_nil)))))), ?_⟩
    rcases hx with ⟨c, kk, rfl, hc, hk, k⟩ | ⟨hn, k⟩
    · have hm : c ∈ mb g.flatten := List.mem_filter.mpr ⟨List.mem_of_getElem? hk, by simp [hc]⟩
      have hh : has g [c] = true := by
        show (true && decide (c ∈ mb g.flatten)) = true
        rw [decide_eq_true hm]
        rfl
      refine ⟨_, rfl, _, rfl, p, dx, _, rfl, hp, p, _, h, w, g, rfl, T0, hV, .inl ⟨[c], rfl, by show 1 ≤ 1000; decide, fun H1 sm => ?_⟩⟩
      rw [hh]
      refine ⟨true, rfl, _, rfl, iteF ?_⟩
      have hf64 := flat_len hV.rc
      have h64 : h * w ≤ 64 := Nat.mul_le_mul hV.n8 hV.m8
      refine ⟨⟨_, rfl⟩, _, rfl, p, D, dx, _, _, rfl, sm _ _ hp, CT.cl, CT.nR, rfl, _, a, g.map S, rfl, rfl, .inr ?_, ?_, ?_⟩
      · rw [List.map_map]
        exact sm.tup hS
      · have h1 := row_sum 8 g fun r hr => hV.row hr
        have h2 := hV.len
        rw [List.length_map]
        show _ + _ * 0 ≤ _
        omega
      rw [show Str.ofString "" = S [] from rfl, join0]
      have hcf : c ∈ g.flatten := List.mem_of_getElem? hk
      obtain ⟨i, rest, e1, e2⟩ := occ_at hcf
      have ei := mb_uniq hV.nd hc e2 hk
      subst ei
      refine ⟨_, rfl, rfl, _, rfl, _, _, i, rest, rfl, rfl, e1, ?_⟩
      refine ⟨_, rfl, p, dx, _, rfl, sm _ _ hp, p, h, w, g, rfl, T0.same sm, hV, _, _, rfl, ⟨by have := hV.m1; omega, by have := hV.m8; omega⟩, fun q hq => ?_⟩
      exact k _ q (sm.trans (same_new hq)) (sm.free hq) upd_same
    · have raised : ∀ {H1 : Hp}, Same H H1 → ∀ a, H1 a = none → spUm CU [.ref a, x] (upd H1 a (exo a CU none)) (fun v H2 => v = .non ∧ ∃ (d : Addr) (fs : List (Str × V)), H2 a = some (exo a CU (some d)) ∧ H2 d = some (exd d fs) ∧ H1 d = none ∧ E (.ref CU) (some d) (upd (del H2 a) d (.xd fs))) (fun _ _ _ => False) := by
        intro H1 sm a ha
        refine ⟨a, x, rfl, upd_same, fun d hd hne => ⟨rfl, d, _, upd_same, by rw [upd_ne hne, upd_same], ?_, ?_⟩⟩
        · rw [upd_ne hne] at hd
          exact hd
        · rw [upd_ne hne] at hd
          refine k _ _ (fun b o e => ?_) (sm.free hd) upd_same
          have e1 := sm b o e
          have nd := ne_of_none e1 hd
          have na := ne_of_none e1 ha
          rw [upd_ne nd, del_ne na, upd_ne na, upd_ne nd, upd_ne na]
          exact e1
      refine ⟨_, rfl, _, rfl, p, dx, _, rfl, hp, p, _, h, w, g, rfl, T0, hV, ?_⟩
      rcases hn with ⟨u, rfl, hu, hh⟩ | hn
      · refine .inl ⟨u, rfl, hu, fun H1 sm => ?_⟩
        rw [hh]
        exact ⟨false, rfl, _, rfl, iteT ⟨_, rfl, by show 1 ≤ 1000; decide, raised sm⟩⟩
      · exact .inr ⟨hn, fun H1 sm => ⟨false, rfl, _, rfl, iteT ⟨_, rfl, by show 1 ≤ 1000; decide, raised sm⟩⟩⟩
end
end TP
end
namespace TA
end TA
section
set_option Elab.async false
set_option maxRecDepth 100000
set_option linter.all false
namespace TA
open TK
open PySem PySem.Spec PyProof.Rows L2 LamX TX TK TM TB
/-- an own exception class that is made with a text -/
structure ExN (K : PySem.W.Frag) (mg : Str → Option Value) (x : Str) (CE : Addr) : Prop where
  q : PySem.W.excIn K CE [.type "ValueError", .type "Exception", .type "BaseException", .type "object"] "ValueError.__new__" = true
  g : mg x = some (.ref CE)
  k : PySem.W.keepIn K (.ref CE) = true
  s : PySem.W.subIn K (.ref CE) (.type "BaseException") = some true
  t : PySem.W.typeIn K (.ref CE) = some (.type "type")
section
variable {P : Program} {w : World} {K : PySem.W.Frag} {mg : Str → Option Value} {base : Heap} {C CN fU : Addr} {fdU : FuncData}
end
end TA
end
namespace TB
end TB
namespace TA
end TA
namespace TA
end TA
namespace TA
end TA
namespace TA
end TA
namespace TB
end TB
namespace TU
end TU
namespace TU
end TU
section
set_option Elab.async false
set_option maxRecDepth 100000
set_option linter.all false
namespace TW
open PySem L2 TM TK TB TU
open PySem.Spec PyProof.Rows TH
section
variable {X : Cx} {n : Nat}
end
theorem eqv_rows : ∀ g g' : Grid, PyData.eqvAll (rowD g) (rowD g') = decide (g = g')
  | [], [] => rfl
  | [], _ :: _ => by simp [PyData.eqvAll]
  | _ :: _, [] => by simp [PyData.eqvAll]
  | x :: g, y :: g' => by
    have e : PyData.eqv (.str (S x)) (.str (S y)) = decide (x = y) := by
      show (S x == S y) = _
      rw [Bool.eq_iff_iff]
      simp [beq_iff_eq]
    show PyData.eqvAll (PyData.str (S x) :: rowD g) (PyData.str (S y) :: rowD g') = _
    rw [PyData.eqvAll, e, eqv_rows g g']
    rw [Bool.eq_iff_iff]
    simp
theorem eqv_tup (g g' : Grid) : PyData.eqv (.tuple (rowD g)) (.tuple (rowD g')) = decide (g = g') := eqv_rows g g'
section
variable {P : Program} {w : World} {K : PySem.W.Frag} {mg : Str → Option Value} {base : Heap} {C D : Addr}
theorem scTe : FnScope ["self", "other"] ["self", "other"] (defScope sTrayEq) := ⟨rfl, rfl, rfl, by decide +kernel, rfl, by decide +kernel, by decide +kernel⟩
def spTe (K : PySem.W.Frag) (D : Addr) : Sp := fun vs H Q _ => ∃ (p q : Addr) (h w h' w' : Nat) (g g' : Grid), vs = [.ref p, .ref q] ∧ TrayAt K D H p g ∧ TrayAt K D H q g' ∧ VG h w g ∧ VG h' w' g' ∧ Q (.bl (decide (g = g'))) H
theorem ok_te {f : Addr} {fd : FuncData} (F : Fun K "__eq__" "Tray.__eq__" sTrayEq f fd) (T : TxtW K mg) (CT : ClsT K mg D) (IC : C8.InsC K D) : FnOk P w K mg base CX0 1 f fd ["self", "other"] (spTe K D) := by
  refine F.ok scTe (fun vs H Q E h => ?_) (fun cdv A outer s H vs Q E hr h => ?_)
  · obtain ⟨p, q, h, w, h', w', g, g', rfl, _⟩ := h
    rfl
  · obtain ⟨p, q, h, w, h', w', g, g', rfl, ⟨dp, ap, hp, hSp⟩, ⟨dq, aq, hq, hSq⟩, V1, V2, k⟩ := h
    refine ⟨_, pss_one (ps_ret (pe_and (pe_callB (C8.call_isC IC) (by rfl) T.isi (by decide +kernel) (pa_cons (pv 1) (pa_cons (pe_glob (v := .ref D) rfl CT.mgC rfl) pa_nil)))
      (pe_one (pe_cmpR (op_eqD hr.units) (pe_fld (pv 0) rfl) (pe_fld (pv 1) rfl) (nomark _))))), ?_⟩
    refine ⟨_, rfl, q, dq, _, rfl, hq, true, rfl, iteT ?_⟩
    refine ⟨_, rfl, p, D, dp, _, _, rfl, hp, CT.cl, CT.nR, rfl, ?_⟩
    refine ⟨_, rfl, q, D, dq, _, _, rfl, hq, CT.cl, CT.nR, rfl, ?_⟩
    refine ⟨_, _, .tup hSp (row_all _), .tup hSq (row_all _), row_shaped V1, row_shaped V2, ?_⟩
    rw [eqv_tup]
    exact k
end
end TW
end
namespace TW
end TW
section
set_option Elab.async false
set_option maxRecDepth 100000
set_option linter.all false
namespace TR
open PySem PySem.Spec PyProof.Rows L2 TM TK TB TP TH
theorem pssn_cut {X : Cx} {n : Nat} {st : Stmt} {rest : List Stmt} {t u : TS} (h1 : PSn n X st t) (h2 : PSsn n X rest u) : PSsn n X (st :: rest) (C8.tCut t u) := by
  intro pins s σ H D hn I h
  obtain ⟨Mid, hm, hu⟩ := h
  refine wpAny_execs_cons (thnN hn (h1 pins s σ H { D with nx := Mid } hn I hm) fun f s1 hn1 q => ?_)
  cases f with
  | next =>
    obtain ⟨σ', H', I', q⟩ := q
    exact h2 pins s1 σ' H' D hn1 I' (hu σ' H' q)
  | ret v => exact q
  | brk => exact q
  | cont => exact q
def tCallO (C : Addr) (sp : Sp) (E : XK) (tf : TE) (t : TA) : TE := fun σ H Q => tf σ H fun y H1 => ∃ a, y = V.ref a ∧ t σ H1 fun vs H2 => (∃ dx fs, H2 a = some (HO.ins C dx fs)) ∧ sp (V.ref a :: vs) H2 Q E
/-- f(e, ..), f an instance with its own __call__ -/
theorem pe_callO {X : Cx} {CX : CXT} {k : Nat} {C : Addr} {sp : Sp} {E : XK} {e fe : Expr} {es : List Expr} {tf : TE} {t : TA} {pos : Pos} {g : Addr} (hf : PE X fe tf) (c : StX.CallO X.K C g) (F : FnR X.prog X.w X.K X.mg X.base CX k g sp) (hr : Room k X.A) (hx : Passes CX X E) (ha : PA X (e :: es) t)
    (ht : eval (.Call fe (e :: es) [] pos) X.env = (do callWith pos (← eval fe X.env) [] (backTo pos (starEach (e :: es) X.env)) (backToKw pos (keywordEach [] X.env))) := by rfl)
    (he : starEach (e :: es) X.env = (false, eval e X.env) :: starEach es X.env := by rfl) (hpl : (backTo pos (starEach es X.env)).any (·.1) = false := by rfl) : PE X (.Call fe (e :: es) [] pos) (tCallO C sp E tf t) := by
  refine ⟨fun pins s σ H Q I h => ?_⟩
  refine Call_ (thn (hf.run pins s σ H _ I h) fun u s1 ⟨y, H1, I1, ry, a, ey, q⟩ => ?_) ht
  subst ey
  obtain rfl : u = Value.ref a := ry
  refine StX.callO_with (thn (ha.run pos pins s1 σ H1 _ I1 q) fun us s2 ⟨vs, H2, I2, r, hi, q2⟩ => ?_) he hpl
  obtain ⟨ox, od, J, hd⟩ := StX.insC_at I2 (.inr hi)
  exact ⟨⟨C, ox, od, J, hd⟩, StX.run_callO c F hr hx I2 (.inr hi) r q2⟩
def plV (w k : Nat) : List V := [.int ((k : Int) / w), .int ((k : Int) % w)]
def plK (w k : Nat) : List Key := [Sum.inl ((k : Int) / w), Sum.inl ((k : Int) % w)]
theorem plK_inj {w a b : Nat} (e : plK w a = plK w b) : a = b := by
  have h1 : (a : Int) / w = (b : Int) / w := by
    injection e with e1 e2
    exact Sum.inl.inj e1
  have h2 : (a : Int) % w = (b : Int) % w := by
    injection e with e1 e2
    injection e2 with e3 e4
    exact Sum.inl.inj e3
  have ha := Int.mul_ediv_add_emod (a : Int) w
  have hb := Int.mul_ediv_add_emod (b : Int) w
  rw [h1, h2] at ha
  have : (a : Int) = b := ha.symm.trans hb
  omega
theorem like_tilts {n m : Nat} : ∀ (t : List Nat) {g : Grid}, Rect n m g → Like g (tilts n m t g)
  | [], _, _ => ⟨List.Perm.refl _, fun h => h⟩
  | c :: t, _, R => (like_tilt (c := c) R).trans (like_tilts t (tilt_rect R))
theorem mem_srt {l : List Nat} {c : Nat} : c ∈ srt l ↔ c ∈ l := (srt_perm l).mem_iff
section
variable {P : Program} {w_ : World} {K : PySem.W.Frag} {mg : Str → Option Value} {base : Heap} {C D CU fRs fCl pM gM : Addr} {n : Nat} {fdM : FuncData}
end
end TR
end
namespace TR
end TR
namespace TM
end TM
section
set_option Elab.async false
set_option maxRecDepth 100000
set_option linter.all false
namespace TR
open PySem PySem.Spec PyProof.Rows L2 TM TK TB TP TH TU
section
variable {P : Program} {w_ : World} {K : PySem.W.Frag} {mg : Str → Option Value} {base : Heap} {C D CU fRs fCl fI fEx fCf fCn fN pM gM pH gH pW gW : Addr} {n : Nat} {fdM fdH fdW fdCf fdCn fdN : FuncData}
theorem mb_let {h w : Nat} {g : Grid} (V : VG h w g) : ∀ c ∈ mb g.flatten, 97 ≤ c ∧ c < 123 := fun c hc => by
  have h1 := mem_mb.mp hc
  obtain ⟨r, hr, hcr⟩ := List.mem_flatten.mp h1.1
  rcases V.ok r hr c hcr with h2 | h2
  · exact absurd h2 h1.2
  · exact ⟨by omega, by omega⟩
def plD (w k : Nat) : PyData := .tuple [.int ((k : Int) / w), .int ((k : Int) % w)]
theorem pl_dp {H : Hp} {a : Addr} {w k : Nat} (h : H a = some (.tup (plV w k))) : Dp K H (.ref a) (plD w k) := .tup (SqT.of h) (.cons (.int _) (.cons (.int _) .nil))
theorem pl_shaped (w k : Nat) : SeqAt.shaped (plD w k) = true := rfl
theorem pl_eqv (w a b : Nat) : PyData.eqv (plD w a) (plD w b) = decide (a = b) := by
  have h1 : PyData.eqv (plD w a) (plD w b) = (decide ((a : Int) / w = (b : Int) / w) && (decide ((a : Int) % w = (b : Int) % w) && true)) := by
    unfold plD
    simp [PyData.eqv, PyData.eqvAll]
    rfl
  rw [h1]
  by_cases q : a = b
  · subst q
    simp
  · rw [decide_eq_false q]
    have : ¬ ((a : Int) / w = (b : Int) / w ∧ (a : Int) % w = (b : Int) % w) := fun z => q (plK_inj (w := w) (by unfold plK; rw [z.1, z.2]))
    by_cases q1 : (a : Int) / w = (b : Int) / w
    · rw [decide_eq_true q1, decide_eq_false (fun z => this ⟨q1, z⟩)]
      rfl
    · rw [decide_eq_false q1]
      rfl
end
end TR
end
namespace TU
end TU
namespace TR
end TR
namespace TM
end TM
namespace TM
end TM
section
set_option Elab.async false
set_option maxRecDepth 100000
set_option linter.all false
namespace TI
open PySem PySem.Spec PyProof.Rows L2 TM TK TB TP TH TU TW TR
theorem cut_lo {t : List Nat} {d : Nat} (h : d ≤ t.length) : cutS (S t) none (some (d : Int)) = S (t.take d) := by
  unfold cutS
  rw [S_len, S_list]
  have e1 : HT.sIx t.length 0 none = 0 := rfl
  have e2 : HT.sIx t.length t.length (some (d : Int)) = d := by
    unfold HT.sIx
    simp
    split
    · omega
    · omega
  rw [e1, e2]
  simp
theorem cut_hi {t : List Nat} {d : Nat} (h : d ≤ t.length) : cutS (S t) (some (d : Int)) none = S (t.drop d) := by
  unfold cutS
  rw [S_len, S_list]
  have e1 : HT.sIx t.length t.length none = t.length := rfl
  have e2 : HT.sIx t.length 0 (some (d : Int)) = d := by
    unfold HT.sIx
    simp
    split
    · omega
    · omega
  rw [e1, e2]
  have : (t.drop d).take (t.length - d) = t.drop d := List.take_of_length_le (by rw [List.length_drop]; exact Nat.le_refl _)
  rw [this]
theorem ixN_nat {n i : Nat} (h : i < n) : ixN n (i : Int) = some i := by
  unfold ixN
  simp
  omega

/-- another cell -/
def putc (g : Grid) (i j c : Nat) : Grid := g.set i ((g.getD i []).set j c)
theorem row_at {h w : Nat} {g : Grid} (R : Rect h w g) {i : Nat} (hi : i < h) : ∃ r, g[i]? = some r ∧ g.getD i [] = r ∧ r.length = w := by
  have hi' : i < g.length := by rw [R.1]; exact hi
  refine ⟨g[i], List.getElem?_eq_getElem hi', by rw [List.getD_eq_getElem?_getD, List.getElem?_eq_getElem hi']; rfl, R.2 _ (List.getElem_mem hi')⟩
theorem putc_flat : ∀ {g : Grid} {w i j c : Nat}, (∀ r ∈ g, r.length = w) → i < g.length → j < w → (putc g i j c).flatten = g.flatten.set (i * w + j) c
  | [], _, _, _, _, _, hi, _ => by simp at hi
  | r :: g, w, 0, j, c, hr, _, hj => by
    have e := hr r List.mem_cons_self
    show (r.set j c :: g).flatten = _
    rw [List.flatten_cons, List.flatten_cons, Nat.zero_mul, Nat.zero_add, List.set_append_left _ _ (by omega)]
  | r :: g, w, i + 1, j, c, hr, hi, hj => by
    have e := hr r List.mem_cons_self
    have ih := putc_flat (g := g) (w := w) (i := i) (j := j) (c := c) (fun z hz => hr z (List.mem_cons_of_mem _ hz)) (by simpa using hi) hj
    show (r :: putc g i j c).flatten = _
    rw [List.flatten_cons, List.flatten_cons, ih, List.set_append_right _ _ (by rw [e, Nat.add_mul, Nat.one_mul]; omega), e]
    congr 2
    rw [Nat.add_mul, Nat.one_mul]
    omega
theorem set_split {l : List Nat} {k : Nat} (h : k < l.length) (c : Nat) : l.set k c = l.take k ++ c :: l.drop (k + 1) := by
  rw [List.set_eq_take_append_cons_drop, if_pos h]
theorem own_split {l : List Nat} {k x : Nat} (h : l[k]? = some x) : l = l.take k ++ x :: l.drop (k + 1) := by
  obtain ⟨hk, e⟩ := List.getElem?_eq_some_iff.mp h
  rw [← e, List.getElem_cons_drop, List.take_append_drop]
theorem putc_rect {h w : Nat} {g : Grid} (R : Rect h w g) {i j c : Nat} (hi : i < h) : Rect h w (putc g i j c) := by
  obtain ⟨r, h1, h2, h3⟩ := row_at R hi
  refine ⟨by unfold putc; rw [List.length_set]; exact R.1, fun z hz => ?_⟩
  rcases List.mem_or_eq_of_mem_set hz with q | rfl
  · exact R.2 z q
  · rw [List.length_set, h2, h3]
/-- a marble more, a marble less -/
theorem putc_VG {h w : Nat} {g : Grid} (hV : VG h w g) {i j c x : Nat} (hi : i < h) (hj : j < w) (hx : g.flatten[i * w + j]? = some x) (hc : Cell c) (hp : (x = 46 ∧ c ∉ mb g.flatten) ∨ c = 46) : VG h w (putc g i j c) := by
  have fl : (putc g i j c).flatten = g.flatten.take (i * w + j) ++ c :: g.flatten.drop (i * w + j + 1) := by
    rw [putc_flat hV.rc.2 (by rw [hV.rc.1]; exact hi) hj, set_split (List.getElem?_eq_some_iff.mp hx).1]
  refine ⟨putc_rect hV.rc hi, hV.n1, hV.n8, hV.m1, hV.m8, fun r hr d hd => ?_, ?_⟩
  · rcases List.mem_or_eq_of_mem_set hr with q | rfl
    · exact hV.ok r q d hd
    · obtain ⟨r', h1, h2, h3⟩ := row_at hV.rc hi
      rw [h2] at hd
      rcases List.mem_or_eq_of_mem_set hd with q | rfl
      · exact hV.ok r' (List.mem_of_getElem? h1) d q
      · exact hc
  · have nd := hV.nd
    rw [own_split hx, mb_app, show mb (x :: g.flatten.drop (i * w + j + 1)) = mb ([x] ++ g.flatten.drop (i * w + j + 1)) from rfl, mb_app] at nd
    rw [fl, mb_app, show mb (c :: g.flatten.drop (i * w + j + 1)) = mb ([c] ++ g.flatten.drop (i * w + j + 1)) from rfl, mb_app]
    have drop : (mb (g.flatten.take (i * w + j)) ++ mb (g.flatten.drop (i * w + j + 1))).Nodup := nd.sublist (List.Sublist.append_left (List.sublist_append_right _ _) _)
    rcases hp with ⟨rfl, hn⟩ | rfl
    · have c46 : c = 46 ∨ c ≠ 46 := by omega
      rcases c46 with rfl | c46
      · exact drop
      · have e1 : mb [c] = [c] := by simp [mb, c46]
        rw [e1]
        refine (List.perm_middle (a := c) (l₁ := mb (g.flatten.take (i * w + j))) (l₂ := mb (g.flatten.drop (i * w + j + 1)))).nodup_iff.mpr (List.nodup_cons.mpr ⟨fun z => hn ?_, drop⟩)
        rw [own_split hx, mb_app, show mb (46 :: g.flatten.drop (i * w + j + 1)) = mb (g.flatten.drop (i * w + j + 1)) by simp [mb]]
        exact z
    · exact drop
end TI
end
section
set_option Elab.async false
set_option maxRecDepth 100000
set_option linter.all false
namespace TP
open PySem L2 TM TK TH TB TX
open PySem.Spec PyProof.Rows
theorem passX {X : Cx} {E : XK} (tk : Takes X (fun cls d _ H => E cls d H)) : Passes (L2.CX X.prog X.w) X E := passes_call tk fun _ _ _ _ h => h
/-- what is_place says of a value -/
inductive Plc (K : PySem.W.Frag) (H : Hp) (h w : Nat) : V → Bool → Prop where
  | two {q : Addr} {a b : V} {ta tb : String} {xa ya xb yb : Bool} (hq : SqT K H q [a, b]) (ka : TA.Kn K H a ta xa ya) (kb : TA.Kn K H b tb xb yb) : Plc K H h w (.ref q) (TA.isN a ((h : Int) - 1) && TA.isN b ((w : Int) - 1))
  | tup {q : Addr} {xs : List V} (hq : SqT K H q xs) (hl : xs.length ≠ 2) : Plc K H h w (.ref q) false
  | other {x : V} {ty : String} (ht : TyX K H x (.type ty)) (hk : kitB ty "tuple" = some false) : Plc K H h w x false
section
variable {P : Program} {w : World} {K : PySem.W.Frag} {mg : Str → Option Value} {base : Heap} {D CP fN fL pH gH pW gW : Addr} {fdN fdL fdH fdW : FuncData}
structure TxtP (K : PySem.W.Frag) (mg : Str → Option Value) : Prop where
  isi : mg "isinstance" = none
  tup : mg "tuple" = none
  len : mg "len" = none
theorem scPl : FnScope ["value", "height", "width"] ["value", "height", "width"] (defScope sIsPlace) := ⟨rfl, rfl, rfl, by decide +kernel, rfl, by decide +kernel, by decide +kernel⟩
def spPl (K : PySem.W.Frag) : Sp := fun vs H Q _ => ∃ (x : V) (h w : Nat) (b : Bool), vs = [x, .int (h : Nat), .int (w : Nat)] ∧ Plc K H h w x b ∧ Q (.bl b) H
theorem ok_pl {f : Addr} {fd : FuncData} (F : Fun K "is_place" "is_place" sIsPlace f fd) (T : TxtP K mg) (GN : FnOk P w K mg base CX0 1 fN fdN ["value", "limit"] (TA.spNum K)) (kN : PySem.W.keepIn K (.ref fN) = true) (bN : Binds K fdN ["value", "limit"] []) (mN : mg "is_number" = some (.ref fN)) :
    FnOk P w K mg base CX0 2 f fd ["value", "height", "width"] (spPl K) := by
  refine F.ok scPl (fun vs H Q E h => ?_) (fun cdv A outer s H vs Q E hr h => ?_)
  · obtain ⟨x, h, w, b, rfl, _⟩ := h
    rfl
  · obtain ⟨x, h, w, b, rfl, hx, k⟩ := h
    refine ⟨_, pss_cons (ps_if (PW.pt (pw_or (pt_not (pt_val (pe_callB call_isi (by rfl) T.isi (by decide +kernel) (pa_cons (pv 0) (pa_cons (pe_bltn (v := .ty "tuple") (by rfl) T.tup (by decide +kernel) rfl) pa_nil)))))
        (pw_or1 (pt_cmpR op_ne (pe_callB call_len_seq (by rfl) T.len PySem.boot_len (pa_cons (pv 0) pa_nil)) pe_int (nomark _))))) (pss_one (ps_ret pe_bl)) pss_nil)
      (pss_one (ps_ret (pe_and (pe_call GN hr rfl mN kN bN .nil pass0 (pa_cons (pe_ix ix_tup (pv 0) pe_int (fun _ _ => rfl)) (pa_cons (pe_op op_sub (pv 1) pe_int) pa_nil)))
        (pe_one (pe_call GN hr rfl mN kN bN .nil pass0 (pa_cons (pe_ix ix_tup (pv 0) pe_int (fun _ _ => rfl)) (pa_cons (pe_op op_sub (pv 2) pe_int) pa_nil))))))), ?_⟩
    cases hx with
    | two hq ka kb =>
      rename_i q a b ta tb xa ya xb yb
      refine ⟨_, rfl, _, _, _, _, true, rfl, .ty _, TA.sq_ty (.tup hq), kit_ty (TA.tup_kit true), true, rfl, iteF ?_⟩
      refine ⟨_, rfl, q, _, rfl, .inr hq, rfl, _, rfl, iteF ?_⟩
      refine ⟨_, rfl, q, _, _, _, rfl, rfl, hq, rfl, _, rfl, _, _, rfl, rfl, a, _, _, _, _, rfl, ka, _, rfl, ?_⟩
      by_cases ha : TA.isN a ((h : Int) - 1) = true
      · rw [ha] at k ⊢
        refine iteT ⟨_, rfl, q, _, _, _, rfl, rfl, hq, rfl, _, rfl, _, _, rfl, rfl, b, _, _, _, _, rfl, kb, ?_⟩
        rw [Bool.true_and] at k
        exact k
      · rw [Bool.not_eq_true] at ha
        rw [ha] at k ⊢
        exact iteF k
    | tup hq hl =>
      rename_i q xs
      refine ⟨_, rfl, _, _, _, _, true, rfl, .ty _, TA.sq_ty (.tup hq), kit_ty (TA.tup_kit true), true, rfl, iteF ?_⟩
      refine ⟨_, rfl, q, _, rfl, .inr hq, rfl, _, rfl, ?_⟩
      rw [show (!decide (V.int (xs.length : Nat) = V.int 2)) = true by
        rw [decide_eq_false]
        · rfl
        · intro z
          injection z with z
          omega]
      exact iteT k
    | other ht hk =>
      refine ⟨_, rfl, _, _, _, _, false, rfl, .ty _, ht, kit_ty hk, false, rfl, iteT (iteT k)⟩
theorem scCp : FnScope ["tray", "place"] ["tray", "place"] (defScope sCheckPlace) := ⟨rfl, rfl, rfl, by decide +kernel, rfl, by decide +kernel, by decide +kernel⟩
def spCp (K : PySem.W.Frag) (D CP : Addr) : Sp := fun vs H Q E => ∃ (p : Addr) (x : V) (h w : Nat) (g : Grid), vs = [.ref p, x] ∧ TrayAt K D H p g ∧ VG h w g ∧
  ((∃ (q : Addr) (r c : Nat), x = .ref q ∧ SqT K H q [.int r, .int c] ∧ r < h ∧ c < w ∧ Q .non H) ∨ (Plc K H h w x false ∧ E (.ref CP) none H))
theorem ok_cp {f : Addr} {fd : FuncData} (F : Fun K "check_place" "check_place" sCheckPlace f fd) (CT : ClsT K mg D) (GL : FnOk P w K mg base CX0 2 fL fdL ["value", "height", "width"] (spPl K)) (kL : PySem.W.keepIn K (.ref fL) = true) (bL : Binds K fdL ["value", "height", "width"] []) (mL : mg "is_place" = some (.ref fL))
    (PH : PropOf K D "height" pH gH) (GH : FnOk P w K mg base CX0 1 gH fdH ["self"] (spHt K D)) (bH : Binds K fdH ["self"] [])
    (PW_ : PropOf K D "width" pW gW) (GW : FnOk P w K mg base CX0 1 gW fdW ["self"] (spWd K D)) (bW : Binds K fdW ["self"] []) (X : TA.ExN K mg "InvalidPlace" CP) :
    FnOk P w K mg base (L2.CX P w) 3 f fd ["tray", "place"] (spCp K D CP) := by
  refine F.okX scCp (fun vs H Q E h => ?_) (fun cdv A outer s H vs Q E hr h => ?_)
  · obtain ⟨p, x, h, w, g, rfl, _⟩ := h
    rfl
  · obtain ⟨p, x, h, w, g, rfl, T0, hV, hx⟩ := h
    obtain ⟨dx, a, hp, hS⟩ := id T0
    refine ⟨_, pss_one (ps_if (pt_not (pt_val (pe_call GL hr rfl mL kL bL .nil pass0 (pa_cons (pv 1) (pa_cons (pe_prop (pv 0) CT.cl PH GH (hr.mono (by decide)) bH .nil pass0 rfl) (pa_cons (pe_prop (pv 0) CT.cl PW_ GW (hr.mono (by decide)) bW .nil pass0 rfl) pa_nil))))))
        (pss_one (ps_raise rfl (takes_of rfl rfl rfl rfl) (pmk_own PySem.F.excBase_ValueError X.q X.g X.k (raises_own X.s X.t) rfl))) pss_nil), ?_⟩
    refine ⟨_, rfl, _, rfl, p, dx, _, rfl, hp, p, h, w, g, rfl, T0, hV, _, rfl, p, dx, _, rfl, hp, p, h, w, g, rfl, T0, hV, x, h, w, ?_⟩
    rcases hx with ⟨q, r, c, rfl, hq, hr', hc', k⟩ | ⟨hb, k⟩
    · refine ⟨_, rfl, .two hq (TA.kn_int _) (TA.kn_int _), ?_⟩
      have e1 : TA.isN (.int r) ((h : Int) - 1) = true := by
        show (decide ((0 : Int) ≤ r) && decide ((r : Int) ≤ (h : Int) - 1)) = true
        rw [decide_eq_true (by omega), decide_eq_true (by omega)]
        rfl
      have e2 : TA.isN (.int c) ((w : Int) - 1) = true := by
        show (decide ((0 : Int) ≤ c) && decide ((c : Int) ≤ (w : Int) - 1)) = true
        rw [decide_eq_true (by omega), decide_eq_true (by omega)]
        rfl
      rw [e1, e2]
      exact ⟨true, rfl, iteF k⟩
    · exact ⟨false, rfl, hb, false, rfl, iteT k⟩
abbrev NAt : List Str := ["self", "place", "row", "column", "cell"]
theorem scAt : FnScope NAt ["self", "place"] (defScope sTrayAt) := ⟨rfl, rfl, rfl, by decide +kernel, rfl, by decide +kernel, by decide +kernel⟩
def atV (g : Grid) (r c : Nat) : V := if (g.getD r []).getD c 46 = 46 then .non else sg ((g.getD r []).getD c 46)
def spAt (K : PySem.W.Frag) (D CP : Addr) : Sp := fun vs H Q E => ∃ (p : Addr) (x : V) (h w : Nat) (g : Grid), vs = [.ref p, x] ∧ TrayAt K D H p g ∧ VG h w g ∧
  ((∃ (q : Addr) (r c : Nat), x = .ref q ∧ SqT K H q [.int r, .int c] ∧ r < h ∧ c < w ∧ Q (atV g r c) H) ∨ (Plc K H h w x false ∧ E (.ref CP) none H))
theorem ok_at {fV : Addr} {fdV : FuncData} {f : Addr} {fd : FuncData} (F : Fun K "at" "Tray.at" sTrayAt f fd) (T : TxtM K mg) (CT : ClsT K mg D)
    (GV : FnOk P w K mg base (L2.CX P w) 3 fV fdV ["tray", "place"] (spCp K D CP)) (kV : PySem.W.keepIn K (.ref fV) = true) (bV : Binds K fdV ["tray", "place"] []) (mV : mg "check_place" = some (.ref fV)) :
    FnOk P w K mg base (L2.CX P w) 4 f fd ["self", "place"] (spAt K D CP) := by
  refine F.okX scAt (fun vs H Q E h => ?_) (fun cdv A outer s H vs Q E hr h => ?_)
  · obtain ⟨p, x, h, w, g, rfl, _⟩ := h
    rfl
  · obtain ⟨p, x, h, w, g, rfl, T0, hV, hx⟩ := h
    obtain ⟨dx, a, hp, hS⟩ := id T0
    have nd := scAt.nd
    refine ⟨_, pss_cons (ps_expr (pe_call GV hr rfl mV kV bV .nil (passX (takes_of rfl rfl rfl rfl)) (pa_cons (pv 0) (pa_cons (pv 1) pa_nil))))
      (pss_cons (ps_asg (pv 1) (pg_tup (by rfl) (pgs_cons (pg_name (i := 2) nd rfl (.inl rfl)) (pgs_cons (pg_name (i := 3) nd rfl (.inl rfl)) pgs_nil))))
      (pss_cons (ps_set (i := 4) nd rfl (.inl rfl) (pe_ix ix_str (pe_ix ix_tup (pe_fld (pv 0) rfl) (pv 2) (fun _ _ => rfl)) (pv 3) (fun _ _ => rfl)))
      (pss_one (ps_ret (pe_ifExp (pt_cmpR op_eq (pv 4) (C8.pe_gc rfl T.em) (nomark _)) pe_non (pv 4)))))), ?_⟩
    refine ⟨_, rfl, _, rfl, p, x, h, w, g, rfl, T0, hV, ?_⟩
    rcases hx with ⟨q, r, c, rfl, hq, hr', hc', k⟩ | ⟨hb, k⟩
    · refine .inl ⟨q, r, c, rfl, hq, hr', hc', ?_⟩
      refine ⟨_, rfl, q, _, rfl, hq, rfl, _, _, rfl, _, _, rfl, rfl, ?_⟩
      have hrg : r < g.length := by rw [hV.rc.1]; exact hr'
      have er : g[r]? = some (g.getD r []) := by
        rw [List.getD_eq_getElem?_getD, List.getElem?_eq_getElem hrg]
        rfl
      have lr : (g.getD r []).length = w := hV.rc.2 _ (List.mem_of_getElem? er)
      have h8 := hV.m8
      unfold atV at k
      generalize g.getD r [] = row at er lr k
      have ec : row[c]? = some (row.getD c 46) := by
        rw [List.getD_eq_getElem?_getD, List.getElem?_eq_getElem (by omega)]
        rfl
      refine ⟨_, rfl, p, D, dx, _, _, rfl, hp, CT.cl, CT.nR, rfl, _, rfl, a, _, _, _, rfl, rfl, hS, atI_nat (by rw [List.getElem?_map, er]; all_goals rfl), _, rfl, S row, (c : Int), row.getD c 46, rfl, rfl, by rw [S_len]; show _ ≤ 16777216; omega, by rw [S_list]; exact atI_nat ec, ?_⟩
      generalize row.getD c 46 = z at k
      refine ⟨_, rfl, rfl, _, rfl, ?_⟩
      rw [show decide (V.str (⟨#[z]⟩ : Str) = V.str (S [46])) = (z == 46) from dL z 46]
      by_cases q46 : z = 46
      · rw [beq_iff_eq.mpr q46]
        rw [if_pos q46] at k
        exact iteT k
      · rw [beq_eq_false_iff_ne.mpr q46]
        rw [if_neg q46] at k
        exact iteF ⟨_, rfl, k⟩
    · exact .inr ⟨hb, k⟩
end
end TP
end
namespace TM
end TM
namespace TR
end TR
namespace TM
end TM
namespace TR
end TR
namespace TR
end TR
namespace TR
end TR
namespace TR
end TR
namespace TR
end TR
section
set_option Elab.async false
set_option maxRecDepth 100000
set_option linter.all false
namespace TR
open PySem PySem.Spec PyProof.Rows L2 TM TK TB TP TH TU
section
variable {P : Program} {w_ : World} {K : PySem.W.Frag} {mg : Str → Option Value} {base : Heap} {C D fT pO gO : Addr} {mc : Value} {fdT : FuncData} {a : Addr} {ns : List Int}
theorem scTry : FnScope ["_law_rows_here"] ["_law_rows_here"] (defScope sLawTray) := ⟨rfl, rfl, rfl, by decide +kernel, rfl, by decide +kernel, by decide +kernel⟩
def spTry (K : PySem.W.Frag) (D : Addr) : Sp := fun vs H Q _ => ∃ (l : Addr) (h w : Nat) (g : Grid), vs = [.ref l] ∧ VG h w g ∧ H l = some (.lst (rowV g)) ∧ ∀ H' p, Same H H' → TrayAt K D H' p g → Q (.ref p) H'
theorem ok_try {f : Addr} {fd : FuncData} (F : Fun K "_law_tray" "_law_tray" sLawTray f fd) (CT : ClsT K mg D) (CR_ : ClX.CRead K D mc) (CM : ClX.CMet K D mc "of_text" pO gO) (GO : FnR P w_ K mg base CX0 5 gO (spOt K D)) :
    FnOk P w_ K mg base CX0 6 f fd ["_law_rows_here"] (spTry K D) := by
  refine F.ok scTry (fun vs H Q E h => ?_) (fun cdv A outer s H vs Q E hr h => ?_)
  · obtain ⟨l, h, w, g, rfl, _⟩ := h
    rfl
  · obtain ⟨l, h, w, g, rfl, hV, hl, k⟩ := h
    refine ⟨_, pss_one (ps_ret (ClX.pe_cmeth (pe_glob (v := .ref D) rfl CT.mgC rfl) CR_ CM GO hr pass0 (pa_cons (pe_join pe_str (pv 0)) pa_nil))), ?_⟩
    have h1 := row_sum 8 g fun r hr => hV.row hr
    have h2 := hV.len
    refine ⟨rfl, ⟨_, rfl⟩, _, rfl, _, l, g.map S, rfl, rfl, .inl ?_, ?_, h, w, g, ?_, hV, fun H' p sm ht => k H' p sm ht⟩
    · rw [List.map_map]
      exact SqL.of hl
    · rw [List.length_map]
      show _ + _ * 1 ≤ 16777216
      omega
    · show [V.ref D, V.str (Txt.join (S [10]) (g.map S))] = _
      rw [join_S]
end
end TR
end
section
set_option Elab.async false
set_option maxRecDepth 100000
set_option linter.all false
namespace TR
open PySem PySem.Spec PyProof.Rows L2 TM TK TB TP TH TU TW
section
variable {X : Cx} {n : Nat}
end
section
variable {P : Program} {w_ : World} {K : PySem.W.Frag} {mg : Str → Option Value} {base : Heap} {C D CU fCl fTc fCm fAr fBk fTe : Addr} {n : Nat} {fdCm : FuncData}
/-- where a marble stands, as a place's tuple -/
def PlcAt (H : Hp) (q : Addr) (w : Nat) (g : Grid) (c : Nat) : Prop := H q = some (.tup (plV w (g.flatten.idxOf c)))
theorem call_ok {H : Hp} {p : Addr} {c h w : Nat} {g : Grid} {Q : VK} {E : XK} (T0 : TrayAt K D H p g) (hV : VG h w g) (hm : c ∈ mb g.flatten) (k : ∀ H' q, Same H H' → H q = none → PlcAt H' q w g c → Q (.ref q) H') : spCl K D CU [.ref p, sg c] H Q E := by
  have hc := mem_mb.mp hm
  exact ⟨p, _, h, w, g, rfl, T0, hV, .inl ⟨c, g.flatten.idxOf c, rfl, hc.2, (idx_at hc.1).2, fun H' q s hq e => k H' q s hq e⟩⟩
end
end TR
end
section
set_option Elab.async false
set_option maxRecDepth 100000
set_option linter.all false
namespace TI
open PySem PySem.Spec PyProof.Rows L2 TM TK TB TP TH TU TW TR
section
variable {X : Cx}
theorem op_neDK {K : PySem.W.Frag} (h : X.K = K) (hu : X.A.units + 64 < cLine) : OpR X (compareOp .NotEq) (rNeD K) := by
  subst h
  exact op_neD hu
end
section
variable {P : Program} {w_ : World} {K : PySem.W.Frag} {mg : Str → Option Value} {base : Heap} {n : Nat} {C D CU CP fI fWc fIl fAt : Addr} {t0 : Tok} {pR gR pM gM : Addr} {fdR fdM fdWc fdIl fdAt : FuncData}
theorem scIl : FnScope ["value"] ["value"] (defScope sIsLetter) := ⟨rfl, rfl, rfl, by decide +kernel, rfl, by decide +kernel, by decide +kernel⟩
def spIl : Sp := fun vs H Q _ => ∃ c : Nat, vs = [sg c] ∧ 97 ≤ c ∧ c < 123 ∧ Q (.bl true) H
theorem ok_il {f : Addr} {fd : FuncData} (F : Fun K "_is_letter" "_is_letter" sIsLetter f fd) (T : TxtW K mg) (U : TxtT K mg t0) : FnOk P w_ K mg base CX0 1 f fd ["value"] spIl := by
  refine F.ok scIl (fun vs H Q E h => ?_) (fun cdv A outer s H vs Q E hr h => ?_)
  · obtain ⟨t, rfl, _⟩ := h
    rfl
  · obtain ⟨c, rfl, c1, c2, k⟩ := h
    refine ⟨_, pss_one (ps_ret (pe_and (pe_callB call_isi (by rfl) T.isi (by decide +kernel) (pa_cons (pv 0) (pa_cons (pe_bltn (v := .ty "str") (by rfl) T.str (by decide +kernel) rfl) pa_nil)))
      (pe_and (pe_cmpR op_eq (pe_callB call_len_str (by rfl) T.len PySem.boot_len (pa_cons (pv 0) pa_nil)) pe_int (nomark _))
        (pe_one (pe_cmpR op_in_sign (pv 0) (C8.pe_gc rfl U.LE) (by rfl)))))), ?_⟩
    refine ⟨_, rfl, _, _, _, _, true, rfl, .ty _, .base (.str _), kit_ty (by decide +kernel), true, rfl, iteT ?_⟩
    refine ⟨_, rfl, _, rfl, by show 1 ≤ sizeLine; decide, rfl, true, rfl, iteT ?_⟩
    refine ⟨_, rfl, c, _, rfl, rfl, ?_⟩
    have e4 : decide (c ∈ (S letters).cps.toList) = true := by
      rw [S_list]
      have all : ∀ k : Fin 26, (97 + k.1) ∈ letters := by decide +kernel
      have := all ⟨c - 97, by omega⟩
      rw [show 97 + (c - 97) = c by omega] at this
      exact decide_eq_true this
    rw [e4]
    exact k
abbrev NWc : List Str := ["tray", "place", "cell", "row", "column", "rows"]
theorem scWc : FnScope NWc ["tray", "place", "cell"] (defScope sWithCell) := ⟨rfl, rfl, rfl, by decide +kernel, rfl, by decide +kernel, by decide +kernel⟩
def spWc (K : PySem.W.Frag) (D : Addr) : Sp := fun vs H Q _ => ∃ (p q h w i j c : Nat) (g : Grid), vs = [.ref p, .ref q, sg c] ∧ TrayAt K D H p g ∧ VG h w g ∧ SqT K H q [.int (i : Nat), .int (j : Nat)] ∧ i < h ∧ j < w ∧ VG h w (putc g i j c) ∧ ∀ H' r, Same H H' → TrayAt K D H' r (putc g i j c) → Q (.ref r) H'
theorem ok_wc {f : Addr} {fd : FuncData} (F : Fun K "_with_cell" "_with_cell" sWithCell f fd) (hlst : mg "list" = none) (CT : ClsT K mg D) (PR : PropOf K D "rows" pR gR) (GR : FnOk P w_ K mg base CX0 1 gR fdR ["self"] (getSp D "_rows")) (bR : Binds K fdR ["self"] []) (M : Mk K D fI)
    (GI : FnR P w_ K mg base CX0 3 fI (fun vs H Q E => ∃ ws rest, vs = ws ++ rest ∧ ws.length = 1 ∧ rest.length ≤ sizeLine ∧ ∀ p, H p = Option.none → spTi K D (ws ++ [V.ref p]) (upd H p (.tup rest)) Q E)) : FnOk P w_ K mg base CX0 5 f fd ["tray", "place", "cell"] (spWc K D) := by
  refine F.ok scWc (fun vs H Q E h => ?_) (fun cdv A outer s H vs Q E hr h => ?_)
  · obtain ⟨p, q, h, w, i, j, c, g, rfl, _⟩ := h
    rfl
  · obtain ⟨p, q, h, w, i, j, c, g, rfl, T0, hV, hq, hi, hj, V1, k⟩ := h
    have nd := scWc.nd
    refine ⟨_, pss_cons (ps_asg (pv 1) (pg_tup (by rfl) (pgs_cons (pg_name (i := 3) nd rfl (.inl rfl)) (pgs_cons (pg_name (i := 4) nd rfl (.inl rfl)) pgs_nil))))
      (pss_cons (ps_set (i := 5) nd rfl (.inl rfl) (pe_callTy call_list_of (by rfl) hlst (by decide +kernel) (pa_cons (pe_prop (pv 0) CT.cl PR GR (hr.mono (by decide)) bR .nil pass0 rfl) pa_nil)))
      (pss_cons (ps_asg (pe_op op_add_str (pe_op op_add_str (pe_slice sl_str (pe_ix ix_list (pv 5) (pv 3) (fun _ _ => rfl)) po_none (po_some (pv 4))) (pv 2)) (pe_slice sl_str (pe_ix ix_list (pv 5) (pv 3) (fun _ _ => rfl)) (po_some (pe_op op_add (pv 4) pe_int)) po_none)) (pg_sub (pv 5) (pv 3) set_list))
      (pss_one (ps_ret (pe_makeS M GI hr rfl CT.mgC pass0 (pv 5)))))), ?_⟩
    obtain ⟨dp, ap, hp, hS⟩ := id T0
    obtain ⟨r, h1, h2, h3⟩ := row_at hV.rc hi
    have w8 := hV.m8
    have rl : (S r).length ≤ sizeLine := by
      rw [S_len]
      show _ ≤ 16777216
      omega
    refine ⟨_, rfl, q, _, rfl, hq, rfl, _, _, rfl, _, _, rfl, rfl, ?_⟩
    refine ⟨_, rfl, p, dp, _, rfl, hp, p, dp, _, _, rfl, hp, rfl, ap, rowV g, rfl, .inr hS, fun l hl => ?_⟩
    have s1 := same_new (o := .lst (rowV g)) hl
    have l1 : upd H l (.lst (rowV g)) l = some (.lst (rowV g)) := upd_same
    generalize upd H l (.lst (rowV g)) = H1 at s1 l1
    have rat : atI (rowV g) (i : Int) = some (.str (S r)) := atI_nat (by rw [List.getElem?_map, h1]; rfl)
    refine ⟨_, rfl, _, rfl, l, _, _, _, rfl, rfl, SqL.of l1, rat, _, rfl, _, rfl, S r, rfl, rl, ?_⟩
    rw [cut_lo (by omega)]
    refine ⟨_, rfl, _, _, rfl, rfl, ?_, ?_⟩
    · rw [S_len, List.length_take]
      show _ + 1 ≤ 16777216
      omega
    refine ⟨_, rfl, _, rfl, l, _, _, _, rfl, rfl, SqL.of l1, rat, _, rfl, _, _, rfl, rfl, _, rfl, S r, rfl, rl, ?_⟩
    rw [show ((j : Int) + 1) = ((j + 1 : Nat) : Int) by omega, cut_hi (by omega)]
    refine ⟨_, _, rfl, rfl, ?_, ?_⟩
    · show (((r.take j).toArray ++ #[c]).size + (S (r.drop (j + 1))).length) ≤ 16777216
      rw [S_len, List.length_drop]
      simp
      omega
    have ecat : (S (r.take j) ++ (⟨#[c]⟩ : Str)) ++ S (r.drop (j + 1)) = S (r.set j c) := by
      rw [set_split (by omega)]
      show Str.mk (((r.take j).toArray ++ #[c]) ++ (r.drop (j + 1)).toArray) = _
      simp
    rw [ecat]
    refine ⟨_, rfl, _, rfl, l, _, _, _, rfl, rfl, l1, ixN_nat (by rw [List.length_map, hV.rc.1]; exact hi), ?_⟩
    rw [show (rowV g).set i (.str (S (r.set j c))) = rowV (putc g i j c) from by
      unfold putc
      rw [h2]
      exact List.map_set.symm]
    have noL : H l = none := hl
    refine ⟨_, rfl, l, _, rfl, .inr (SqL.of upd_same), fun x dx nx ndx nex => ?_⟩
    refine ⟨[.ref x], rowV (putc g i j c), rfl, rfl, ?_, fun tp htp => ?_⟩
    · have := V1.len
      rw [List.length_map]
      show _ ≤ 16777216
      omega
    have hpx : x ≠ tp := fun z => by rw [← z, upd_same] at htp; cases htp
    refine ⟨x, dx, tp, h, w, _, rfl, by rw [upd_ne hpx, upd_same], SqT.of upd_same, V1, fun H' ht kp => ⟨rfl, ?_⟩⟩
    refine k _ _ (fun b o e => ?_) ht
    have bl : b ≠ l := fun z => by rw [z, noL] at e; cases e
    have e1 : upd H1 l (.lst (rowV (putc g i j c))) b = some o := by rw [upd_ne bl]; exact s1 _ _ e
    have hbx : b ≠ x := ne_of_none e1 nx
    have hbd : b ≠ dx := ne_of_none e1 ndx
    have e2 : (upd (upd (upd H1 l (.lst (rowV (putc g i j c)))) dx (.own x)) x (.ins D dx [])) b = some o := by rw [upd_ne hbx, upd_ne hbd]; exact e1
    exact kp b o (by rw [upd_ne (ne_of_none e2 htp)]; exact e2) hbx
abbrev NTk : List Str := ["tray", "marble", "place"]
theorem scTk_ : FnScope NTk ["tray", "marble"] (defScope sAfterTake) := ⟨rfl, rfl, rfl, by decide +kernel, rfl, by decide +kernel, by decide +kernel⟩
/-- a marble less: the tray, the place -/
def spAk (K : PySem.W.Frag) (D : Addr) : Sp := fun vs H Q _ => ∃ (p h w c k : Nat) (g : Grid), vs = [.ref p, sg c] ∧ TrayAt K D H p g ∧ VG h w g ∧ c ≠ 46 ∧ g.flatten[k]? = some c ∧
  ∀ H' tp r q, Same H H' → H' tp = some (.tup [.ref r, .ref q]) → TrayAt K D H' r (putc g (k / w) (k % w) 46) → VG h w (putc g (k / w) (k % w) 46) → H' q = some (.tup (plV w k)) → Q (.ref tp) H'
theorem ok_ak {f : Addr} {fd : FuncData} (F : Fun K "_after_take" "_after_take" sAfterTake f fd) (mEM : ∃ u, mg "EMPTY" = some u ∧ RelV (.str (S [46])) u)
    (CO : StX.CallO K D fI) (GC : FnR P w_ K mg base (L2.CX P w_) 4 fI (spCl K D CU)) (GW : FnOk P w_ K mg base CX0 5 fWc fdWc ["tray", "place", "cell"] (spWc K D)) (kW : PySem.W.keepIn K (.ref fWc) = true) (bW : Binds K fdWc ["tray", "place", "cell"] []) (mW : mg "_with_cell" = some (.ref fWc)) :
    FnOk P w_ K mg base CX0 6 f fd ["tray", "marble"] (spAk K D) := by
  refine F.ok scTk_ (fun vs H Q E h => ?_) (fun cdv A outer s H vs Q E hr h => ?_)
  · obtain ⟨p, h, w, c, k, g, rfl, _⟩ := h
    rfl
  · obtain ⟨p, h, w, c, k, g, rfl, T0, hV, hc, hk, kk⟩ := h
    have nd := scTk_.nd
    refine ⟨_, pss_cons (ps_set (i := 2) nd rfl (.inl rfl) (pe_callO (pv 0) CO GC (hr.mono (by decide)) passL (pa_cons (pv 1) pa_nil)))
      (pss_one (ps_ret (pe_tup (pa_cons (pe_call GW hr rfl mW kW bW .nil pass0 (pa_cons (pv 0) (pa_cons (pv 2) (pa_cons (C8.pe_gc rfl mEM) pa_nil)))) (pa_cons (pv 2) pa_nil))))), ?_⟩
    have hw1 := hV.m1
    have hkl : k < h * w := by
      have := (List.getElem?_eq_some_iff.mp hk).1
      rwa [flat_len hV.rc] at this
    have hi : k / w < h := (Nat.div_lt_iff_lt_mul hw1).mpr hkl
    have hj : k % w < w := Nat.mod_lt _ hw1
    have ek : k / w * w + k % w = k := by
      rw [Nat.mul_comm]
      exact Nat.div_add_mod k w
    have V1 : VG h w (putc g (k / w) (k % w) 46) := putc_VG hV hi hj (by rw [ek]; exact hk) (by unfold Cell; omega) (.inr rfl)
    obtain ⟨d0, a0, h0, _⟩ := id T0
    refine ⟨_, rfl, p, rfl, _, rfl, ⟨d0, _, h0⟩, p, _, h, w, g, rfl, T0, hV, .inl ⟨c, k, rfl, hc, hk, fun H1 q s1 hq hq1 => ?_⟩⟩
    have e1 : ([.int ((k : Int) / w), .int ((k : Int) % w)] : List V) = [.int ((k / w : Nat) : Int), .int ((k % w : Nat) : Int)] := rfl
    refine ⟨_, rfl, _, rfl, p, q, h, w, k / w, k % w, 46, g, rfl, T0.same s1, hV, SqT.of (by rw [hq1, e1]), hi, hj, V1, fun H2 r s2 t2 => ?_⟩
    refine ⟨_, rfl, (by show 2 ≤ sizeLine; decide), fun tp htp => ?_⟩
    have s3 := same_new (o := .tup [V.ref r, V.ref q]) htp
    exact kk _ tp r q ((s1.trans s2).trans s3) upd_same (t2.same s3) V1 ((s2.trans s3) _ _ hq1)
/-- how many marbles there are behind -/
theorem putc_more {h w : Nat} {g : Grid} (hV : VG h w g) {i j c : Nat} (hi : i < h) (hj : j < w) (hx : g.flatten[i * w + j]? = some 46) (hc : c ≠ 46) : (mb (putc g i j c).flatten).Perm (c :: mb g.flatten) := by
  have fl : (putc g i j c).flatten = g.flatten.take (i * w + j) ++ c :: g.flatten.drop (i * w + j + 1) := by
    rw [putc_flat hV.rc.2 (by rw [hV.rc.1]; exact hi) hj, set_split (List.getElem?_eq_some_iff.mp hx).1]
  have e2 : mb g.flatten = mb (g.flatten.take (i * w + j)) ++ mb (g.flatten.drop (i * w + j + 1)) := by
    conv => lhs; rw [own_split hx, mb_app]
    rw [show mb (46 :: g.flatten.drop (i * w + j + 1)) = mb (g.flatten.drop (i * w + j + 1)) by simp [mb]]
  rw [fl, mb_app, show mb (c :: g.flatten.drop (i * w + j + 1)) = c :: mb (g.flatten.drop (i * w + j + 1)) by simp [mb, hc], e2]
  exact List.perm_middle
abbrev NPt : List Str := ["tray", "marble", "place", "after"]
theorem scPt_ : FnScope NPt ["tray", "marble", "place"] (defScope sAfterPut) := ⟨rfl, rfl, rfl, by decide +kernel, rfl, by decide +kernel, by decide +kernel⟩
/-- a marble more: the tray, how many -/
def spAp (K : PySem.W.Frag) (D : Addr) : Sp := fun vs H Q _ => ∃ (p q h w c i j : Nat) (g : Grid), vs = [.ref p, sg c, .ref q] ∧ TrayAt K D H p g ∧ VG h w g ∧ 97 ≤ c ∧ c < 123 ∧ c ∉ mb g.flatten ∧ SqT K H q [.int (i : Nat), .int (j : Nat)] ∧ i < h ∧ j < w ∧ g.flatten[i * w + j]? = some 46 ∧
  ∀ H' tp r, Same H H' → H' tp = some (.tup [.ref r, .int (((mb g.flatten).length + 1 : Nat) : Int)]) → TrayAt K D H' r (putc g i j c) → VG h w (putc g i j c) → Q (.ref tp) H'
theorem ok_ap {f : Addr} {fd : FuncData} {fTc : Addr} (F : Fun K "_after_put" "_after_put" sAfterPut f fd) (hlen : mg "len" = none) (CT : ClsT K mg D)
    (GIl : FnOk P w_ K mg base CX0 1 fIl fdIl ["value"] spIl) (kIl : PySem.W.keepIn K (.ref fIl) = true) (bIl : Binds K fdIl ["value"] []) (mIl : mg "_is_letter" = some (.ref fIl))
    (hTc : PySem.W.findIn K (.ref D) "__contains__" = some (some (.ref fTc))) (iTc : PySem.W.isFn K (.ref fTc) = true) (GTc : FnR P w_ K mg base CX0 3 fTc (spTc K D))
    (MA : Meth K D "at" fAt) (GA : FnOk P w_ K mg base (L2.CX P w_) 4 fAt fdAt ["self", "place"] (spAt K D CU)) (bA : Binds K fdAt ["self", "place"] [])
    (PM : PropOf K D "marbles" pM gM) (GM : FnOk P w_ K mg base CX0 1 gM fdM ["self"] (spMb K D)) (bM : Binds K fdM ["self"] [])
    (GW : FnOk P w_ K mg base CX0 5 fWc fdWc ["tray", "place", "cell"] (spWc K D)) (kW : PySem.W.keepIn K (.ref fWc) = true) (bW : Binds K fdWc ["tray", "place", "cell"] []) (mW : mg "_with_cell" = some (.ref fWc)) :
    FnOk P w_ K mg base CX0 6 f fd ["tray", "marble", "place"] (spAp K D) := by
  refine F.ok scPt_ (fun vs H Q E h => ?_) (fun cdv A outer s H vs Q E hr h => ?_)
  · obtain ⟨p, q, h, w, c, i, j, g, rfl, _⟩ := h
    rfl
  · obtain ⟨p, q, h, w, c, i, j, g, rfl, T0, hV, c1, c2, hc, hq, hi, hj, hx, kk⟩ := h
    have nd := scPt_.nd
    refine ⟨_, pss_cons (ps_if (PW.pt (pw_or (pt_not (pt_val (pe_call GIl (hr.mono (by decide)) rfl mIl kIl bIl .nil pass0 (pa_cons (pv 1) pa_nil)))) (pw_or1 (pt_cmpR (op_inOwn hTc iTc GTc (hr.mono (by decide)) pass0) (pv 1) (pv 0) (by rfl))))) pss_never pss_nil)
      (pss_cons (ps_if (pt_cmpR op_notN (pe_meth (pv 0) CT.cl MA GA (hr.mono (by decide)) bA .nil passL (pa_cons (pv 2) pa_nil)) pe_non (nomark _)) pss_never pss_nil)
      (pss_cons (ps_set (i := 3) nd rfl (.inl rfl) (pe_call GW hr rfl mW kW bW .nil pass0 (pa_cons (pv 0) (pa_cons (pv 2) (pa_cons (pv 1) pa_nil)))))
      (pss_one (ps_ret (pe_tup (pa_cons (pv 3) (pa_cons (pe_callB call_len_str (by rfl) hlen PySem.boot_len (pa_cons (pe_prop (pv 3) CT.cl PM GM (hr.mono (by decide)) bM .nil pass0 rfl) pa_nil)) pa_nil))))))), ?_⟩
    have V1 : VG h w (putc g i j c) := putc_VG hV hi hj hx (by unfold Cell; omega) (.inl ⟨rfl, hc⟩)
    have hg0 : has g [c] = false := by
      show (true && decide (c ∈ mb g.flatten)) = false
      rw [decide_eq_false hc]
      rfl
    obtain ⟨d0, a0, h0, _⟩ := id T0
    refine ⟨_, rfl, c, rfl, c1, c2, true, rfl, iteF ?_⟩
    refine ⟨_, rfl, _, rfl, p, d0, _, rfl, h0, ?_⟩
    refine ⟨p, _, h, w, g, rfl, T0, hV, .inl ⟨[c], rfl, by simp, fun H1 s1 => ?_⟩⟩
    rw [hg0]
    have T1 := T0.same s1
    have q1 := s1.tup hq
    obtain ⟨d1, a1, h1, _⟩ := id T1
    have rg : g[i]? = some (g.getD i []) ∧ (g.getD i []).length = w := by
      obtain ⟨r, e1, e2, e3⟩ := row_at hV.rc hi
      rw [e2]
      exact ⟨e1, e3⟩
    have cell : (g.getD i []).getD j 46 = 46 := by
      have := flat_at hV.rc hi hj
      rw [hx] at this
      have e0 : (g.getD i []).getD j 0 = 46 := (Option.some.inj this).symm
      have lj : j < (g.getD i []).length := by rw [rg.2]; exact hj
      rw [List.getD_eq_getElem?_getD, List.getElem?_eq_getElem lj] at e0 ⊢
      exact e0
    have av : atV g i j = .non := by
      unfold atV
      rw [cell]
      rfl
    refine ⟨false, rfl, false, rfl, iteF ⟨_, rfl, p, d1, _, rfl, h1, rfl, _, rfl, p, _, h, w, g, rfl, T1, hV, .inl ⟨q, i, j, rfl, q1, hi, hj, ?_⟩⟩⟩
    rw [av]
    refine ⟨rfl, _, rfl, iteF ⟨_, rfl, _, rfl, _, rfl, p, q, h, w, i, j, c, g, rfl, T1, hV, q1, hi, hj, V1, fun H2 r s2 t2 => ?_⟩⟩
    obtain ⟨d2, a2, h2, _⟩ := id t2
    refine ⟨_, rfl, _, rfl, r, d2, _, rfl, h2, r, h, w, _, rfl, t2, V1, fun H3 s3 => ?_⟩
    have ln : (S (srt (mb (putc g i j c).flatten))).length = (mb g.flatten).length + 1 := by
      rw [S_len, (srt_perm _).length_eq, (putc_more hV hi hj hx (by omega)).length_eq]
      rfl
    have m26 := mb_26 hV
    refine ⟨_, rfl, by rw [ln]; show _ ≤ 16777216; omega, (by show 2 ≤ sizeLine; decide), fun tp htp => ?_⟩
    rw [ln]
    have s4 := same_new (o := .tup [V.ref r, V.int (((mb g.flatten).length + 1 : Nat) : Int)]) htp
    exact kk _ tp r (((s1.trans s2).trans s3).trans s4) upd_same ((t2.same s3).same s4) V1
abbrev NTl : List Str := ["tray", "tilt", "after", "moved", "marble"]
theorem scTl_ : FnScope NTl ["tray", "tilt"] (defScope sAfterTilt) := ⟨rfl, rfl, rfl, by decide +kernel, rfl, by decide +kernel, by decide +kernel⟩
/-- the marbles that move -/
def moves (g g' : Grid) : List Nat := (srt (mb g.flatten)).filter fun m => decide (g'.flatten.idxOf m ≠ g.flatten.idxOf m)
/-- a tilt: the tray, the marbles that move -/
def spAl_ (K : PySem.W.Frag) (D : Addr) : Sp := fun vs H Q _ => ∃ (p h w c : Nat) (g : Grid), vs = [.ref p, sg c] ∧ TrayAt K D H p g ∧ VG h w g ∧ isT c = true ∧
  ∀ H' tp r, Same H H' → H' tp = some (.tup [.ref r, .str (S (moves g (TM.tilt h w g c)))]) → TrayAt K D H' r (TM.tilt h w g c) → Q (.ref tp) H'
theorem ok_al_ {f : Addr} {fd : FuncData} {fRs fIt fWi fCl : Addr} {fdIt fdWi : FuncData} (F : Fun K "_after_tilt" "_after_tilt" sAfterTilt f fd) (b : Binds K fd ["tray", "tilt"] []) (CW : ClsW K mg C) (CT : ClsT K mg D) (hDC : D ≠ C)
    (sf : PySem.W.selfFirst K D = true) (NO : NoOp K C Operator.RShift.info.2) (hs : PySem.W.findIn K (.ref D) (PySem.dunder Operator.RShift.info.2) = some (some (.ref fRs))) (hf : PySem.W.isFn K (.ref fRs) = true) (GRs : FnRn n P w_ K mg base CX0 5 fRs (spRs K C D))
    (GIt : FnOk P w_ K mg base CX0 1 fIt fdIt ["value"] spIt) (kIt : PySem.W.keepIn K (.ref fIt) = true) (bIt : Binds K fdIt ["value"] []) (mIt : mg "is_tilt" = some (.ref fIt))
    (MW : Mk K C fWi) (GWi : FnOk P w_ K mg base CX0 3 fWi fdWi ["self", "text"] (spWi C)) (bWi : Binds K fdWi ["self", "text"] [])
    (CO : StX.CallO K D fCl) (GC : FnR P w_ K mg base (L2.CX P w_) 4 fCl (spCl K D CU))
    (PM : PropOf K D "marbles" pM gM) (GM : FnOk P w_ K mg base CX0 1 gM fdM ["self"] (spMb K D)) (bM : Binds K fdM ["self"] []) : FnRn n P w_ K mg base CX0 6 f (spAl_ K D) := by
  refine fn_n F b scTl_ (fun vs H Q E h => ?_) fun cdv A outer s H vs Q E hr h => ?_
  · obtain ⟨p, h, w, c, g, rfl, _⟩ := h
    rfl
  · obtain ⟨p, h, w, c, g, rfl, T0, hV, hc, kk⟩ := h
    have nd := scTl_.nd
    refine ⟨_, pssn_cons (PS.up (ps_if (pt_not (pt_val (pe_call GIt (hr.mono (by decide)) rfl mIt kIt bIt .nil pass0 (pa_cons (pv 1) pa_nil)))) pss_never pss_nil))
      (pssn_cons (psn_set (i := 2) nd rfl (.inr rfl) (pen_op (op_twoN hDC sf NO hs hf GRs hr pass0) (PE.up (pv 0)) (PE.up (pe_make MW GWi (hr.mono (by decide)) rfl CW.mgC bWi .nil pass0 (pa_cons (pv 1) pa_nil)))))
      (pssn_cut (PS.up (ps_setLc (i := 3) (own := [("marble", 4)]) (g := gName 4) rfl nd rfl rfl (sw_true rfl rfl rfl (by decide +kernel)) (pi_str (pe_prop (pv 0) CT.cl PM GM (hr.mono (by decide)) bM .nil pass0 rfl)) (blkOk_by (N := NTl) (sc := defScope sAfterTilt) (by decide +kernel)) (fun _ _ _ _ _ => pg_name (i := 4) nd rfl (.inl rfl))
          (fun _ _ _ _ _ => pts_one (pt_cmpR (op_neDK (K := K) rfl hr.units) (pe_callO (pv 2) CO GC (hr.mono (by decide)) passL (pa_cons (pv 4) pa_nil)) (pe_callO (pv 0) CO GC (hr.mono (by decide)) passL (pa_cons (pv 4) pa_nil)) (nomark _))) (fun _ _ _ _ _ => pv 4)))
      (pssn_one (PS.up (ps_ret (pe_tup (pa_cons (pv 2) (pa_cons (pe_join pe_str (pv 3)) pa_nil)))))))), ?_⟩
    have V1 : VG h w (TM.tilt h w g c) := VG.tilts [c] hV
    refine ⟨_, rfl, c, rfl, true, by rw [hc], iteF ?_⟩
    refine ⟨_, rfl, _, rfl, ?_⟩
    intro x dx nx ndx nex
    refine ⟨x, dx, [c], rfl, upd_same, ⟨by show 1 ≤ 60; decide, by simpa using hc⟩, fun H1 hw kp1 => ⟨rfl, ?_⟩⟩
    have s1 := Same.made nx ndx kp1
    have T1 := T0.same s1
    obtain ⟨d1, a1, h1, _⟩ := id T1
    obtain ⟨d2, h2⟩ := id hw
    refine ⟨p, d1, _, x, d2, _, rfl, rfl, h1, h2, p, x, h, w, g, [c], rfl, T1, hV, hw, fun H2 r s2 t2 => ?_⟩
    replace t2 : TrayAt K D H2 r (TM.tilt h w g c) := t2
    have T2 := T1.same s2
    refine ⟨fun σ H3 => ∃ l, σ = [some (.ref p), some (sg c), some (.ref r), some (.ref l), none] ∧ Same H H3 ∧ TrayAt K D H3 r (TM.tilt h w g c) ∧ H3 l = some (.lst ((moves g (TM.tilt h w g c)).map sg)), ?_, ?_⟩
    · obtain ⟨d3, a3, h3, _⟩ := id T2
      refine ⟨_, rfl, p, d3, _, rfl, h3, p, h, w, g, rfl, T2, hV, fun H3 s3 => ⟨_, rfl, fun l hl => ?_⟩⟩
      have T3 := T2.same s3
      have t3 := t2.same s3
      have keep : ∀ {H' : Hp} {o : HO}, Same H3 H' → Same H3 (upd H' l o) := fun {H' o} s b o' e => by rw [upd_ne (ne_of_none e hl)]; exact s b o' e
      refine lc_it (walk_str (z := S (srt (mb g.flatten)))) (fun i H4 => Same H3 H4 ∧ H4 l = some (.lst ((((srt (mb g.flatten)).take i).filter fun m => decide ((TM.tilt h w g c).flatten.idxOf m ≠ g.flatten.idxOf m)).map sg)))
        ⟨keep (Same.refl H3), upd_same⟩ (fun _ _ _ _ => True.intro) ?_ ?_
      · rintro i v H4 H5 hi ⟨s4, l4⟩ ⟨rfl, m, hm, rfl⟩
        rw [S_at] at hm
        have hmb := mem_srt.mp (List.mem_of_getElem? hm)
        have mtl : m ∈ mb (TM.tilt h w g c).flatten := (like_tilts [c] hV.rc).pm.mem_iff.mpr hmb
        have t4 := t3.same s4
        obtain ⟨d4, a4, h4, _⟩ := id t4
        refine ⟨rfl, _, rfl, r, rfl, _, rfl, ⟨d4, _, h4⟩, call_ok t4 V1 mtl fun H6 q6 s6 hq6 hp6 => ?_⟩
        have T6 := (T3.same s4).same s6
        obtain ⟨d5, a5, h5, _⟩ := id T6
        refine ⟨_, rfl, p, rfl, _, rfl, ⟨d5, _, h5⟩, call_ok T6 hV hmb fun H7 q7 s7 hq7 hp7 => ?_⟩
        have p6 := s7 _ _ hp6
        unfold PlcAt at p6 hp7
        refine ⟨_, _, pl_dp p6, pl_dp hp7, pl_shaped _ _, pl_shaped _ _, _, rfl, ?_⟩
        rw [pl_eqv]
        have s47 := (s4.trans s6).trans s7
        have l7 := (s6.trans s7) _ _ l4
        have tk : (srt (mb g.flatten)).take (i + 1) = (srt (mb g.flatten)).take i ++ [m] := by rw [List.take_add_one, hm]; rfl
        rw [tk, List.filter_append, List.map_append]
        by_cases e : (TM.tilt h w g c).flatten.idxOf m = g.flatten.idxOf m
        · rw [decide_eq_true e]
          refine iteF ⟨s47, ?_⟩
          rw [l7]
          simp [e]
        · rw [decide_eq_false e]
          refine iteT ⟨_, rfl, _, l7, ?_, keep s47, ?_⟩
          · have := List.length_filter_le (fun m => decide ((TM.tilt h w g c).flatten.idxOf m ≠ g.flatten.idxOf m)) ((srt (mb g.flatten)).take i)
            have m26 := mb_26 hV
            rw [List.length_take, (srt_perm _).length_eq] at this
            rw [List.length_map]
            show _ < 16777216
            omega
          · rw [upd_same]
            simp [e]
      · rintro H4 ⟨s4, l4⟩
        rw [S_size, List.take_length] at l4
        exact ⟨l, rfl, ((s1.trans s2).trans s3).trans s4, t3.same s4, l4⟩
    rintro σ H3 ⟨l, rfl, s3, t3, hl⟩
    have m26 := mb_26 hV
    have ml : (moves g (TM.tilt h w g c)).length ≤ 26 := by
      have := List.length_filter_le (fun m => decide ((TM.tilt h w g c).flatten.idxOf m ≠ g.flatten.idxOf m)) (srt (mb g.flatten))
      rw [(srt_perm _).length_eq] at this
      unfold moves
      omega
    refine ⟨_, rfl, ⟨_, rfl⟩, _, rfl, _, l, (moves g (TM.tilt h w g c)).map fun m => S [m], rfl, rfl, .inl ?_, ?_, ?_⟩
    · rw [List.map_map]
      exact SqL.of hl
    · have sm1 : ∀ L : List Nat, ((L.map fun m => S [m]).map (fun x => x.length)).sum = L.length := fun L => by
        induction L with
        | nil => rfl
        | cons a L ih =>
          rw [List.map_cons, List.map_cons, List.sum_cons, ih, List.length_cons, S_len]
          show 1 + L.length = L.length + 1
          omega
      rw [sm1, List.length_map]
      show _ + _ * 0 ≤ 16777216
      omega
    · rw [join_signs]
      refine ⟨(by show 2 ≤ sizeLine; decide), fun tp htp => ?_⟩
      have s4 := same_new (o := .tup [V.ref r, V.str (S (moves g (TM.tilt h w g c)))]) htp
      exact kk _ tp r (s3.trans s4) upd_same (t3.same s4)
end
end TI
end
section
set_option Elab.async false
set_option maxRecDepth 100000
set_option linter.all false
namespace TI
open PySem PySem.Spec PyProof.Rows L2 TM TK TB TP TH TU TW TR
section
variable {prog : Program} {w : World} {A : Around} {E : Value → Shared → Prop} {s : Shared}
theorem walks_from (hh : A.handled = none) (I ax : Addr) (hne : ax ≠ I) (items : Array Value) (d : Nat) (hd : d ≤ items.size) :
    Walks prog w A I [I, ax] [I] (items.size - d) (fun i v => items[d + i]? = some v) (fun i h => h.IsTupleIter I ax (d + i) ∧ h.IsTuple ax items) where
  sub := fun b hb => by simp at hb; simp [hb]
  frame := fun _ _ _ st hk => ⟨st.1.at fun o e => hk I (by simp) o e, st.2.at fun o e => hk ax (by simp) o e⟩
  item := fun i s Q E hi st hQ => by
    have hlt : d + i < items.size := by omega
    refine wpAny_pyNext_tuple_item st.1 st.2 (x := items[d + i]) (by simp [hlt]) fun h' hit' hs' => ?_
    exact hQ _ h' s.toks (by simp [hlt]) ⟨hit', st.2.extBut hs'.extBut hne⟩ fun b o hb e => hs'.extBut b o (fun h => hb (by simp [h])) e
  done := fun s Q E st hQ => wpAny_pyNext_tuple_end hh st.1 st.2 (by simp; omega) fun h' he' => hQ h' s.toks fun b o hb e => he' b o (fun h => hb (by simp [h])) e
  self := fun _ _ _ _ st hQ => wpAny_pyIter_tupleiter st.1 hQ
theorem unpackItems_star {t : Addr} {x : Value} {r : List Value} {Q : List Value → Shared → Prop} (hh : A.handled = none) (ht : IsTup s.heap t (x :: r).toArray) (hz : r.length ≤ sizeLine)
    (hQ : ∀ (h' : Heap) (tk : Nat), (∀ b o, s.heap.get? b = some o → h'.get? b = some o) → Q [x, .ref h'.objs.size] { s with heap := h'.push { cls := .type "list", data := .seq r.toArray }, toks := tk }) : wpAny (model prog w) A (unpackItems (.ref t) 2 (some 1)) Q E s := by
  have hlt : t ≠ s.heap.objs.size := by obtain ⟨o, ho, _⟩ := ht; exact Nat.ne_of_lt (Heap.lt_size ho)
  unfold unpackItems
  refine wpAny_bind ?_
  unfold notIterableAtAll
  refine wpAny_bind (wpAny_specialOf ht.typeIs slot_tuple_iter.lookup ?_)
  refine wpAny_pure ?_
  simp only [Bool.false_eq_true, if_false]
  refine wpAny_bind (wpAny_holding (iter_tuple ht ?_))
  have k0 : ∀ b o, s.heap.get? b = some o → (s.heap.push { cls := .type "tuple_iterator", data := .fields #[.ref t, .int 0 0] }).get? b = some o := fun b o e => Heap.get?_push_of_some _ e
  refine wpAny_bind (wpAny_holding (draw_tuple hlt 1 0 _ _ ⟨_, Heap.get?_push_size _ rfl, rfl, rfl⟩ (ht.push _) (by simp) fun h₁ hit₁ hs₁ => ?_))
  have hall : List.take 1 (List.drop 0 (x :: r).toArray.toList) = [x] := by simp
  rw [hall, if_neg (by simp)]
  have ht₁ : IsTup h₁ t (x :: r).toArray := (ht.push _).extBut hs₁.extBut hlt
  have k1 : ∀ b o, s.heap.get? b = some o → h₁.get? b = some o := fun b o e => hs₁.extBut b o (Nat.ne_of_lt (Heap.lt_size e)) (k0 b o e)
  have sz : s.heap.objs.size < h₁.objs.size := by
    obtain ⟨o, ho, _⟩ := hit₁
    exact Heap.lt_size ho
  refine wpAny_bind (wpAny_holding (wpAny_collect_iter (T := "tuple_iterator") (.inr (.inr (.inr rfl))) (walks_from (A := A.in1) hh s.heap.objs.size t hlt (x :: r).toArray 1 (by simp)).toS (fun _ _ st => let ⟨o, ho, hc, _⟩ := st.1; ⟨o, ho, hc⟩) ⟨hit₁, ht₁⟩ (fun b hb => ?_) (by simp) (fun s' acc hm hacc => ?_) (by simp; exact hz)))
  · simp only [List.mem_cons, List.not_mem_nil, or_false] at hb
    rcases hb with rfl | rfl
    · exact sz
    · obtain ⟨o, ho, _⟩ := ht₁
      exact Heap.lt_size ho
  have ea : acc.toList = r := by
    refine List.ext_getElem? fun k => ?_
    have hs : acc.size = r.length := by
      have := hacc.1
      simpa using this
    rcases Nat.lt_or_ge k r.length with hk | hk
    · have hk2 : k < acc.size := by omega
      have := hacc.2 k acc[k] (by simp [hk2])
      rw [List.getElem?_eq_getElem (by rw [Array.length_toList]; exact hk2), Array.getElem_toList]
      rw [← this]
      simp [Nat.add_comm]
    · rw [List.getElem?_eq_none_iff.mpr (by rw [Array.length_toList]; omega), List.getElem?_eq_none_iff.mpr hk]
  obtain ⟨h', gens, drawn, tk', os⟩ := s'
  have g1 : gens = s.gens := hm.gens
  have g2 : drawn = s.drawn := hm.drawn
  have g3 : os = s.os := hm.os
  subst g1 g2 g3
  rw [ea]
  show wpAny (model prog w) A (if r.length < 0 then _ else _) Q E _
  rw [if_neg (Nat.not_lt_zero _)]
  show wpAny (model prog w) A (newList (r.take (r.length - 0)) >>= _) Q E _
  rw [Nat.sub_zero, List.take_length]
  refine wpAny_bind (wpAny_newObj_type (wpAny_pure ?_) (by first | exact hz | (simp; exact hz)))
  rw [List.drop_length, List.append_nil]
  exact hQ h' tk' fun b o e => hm.heap b o (fun z => Nat.ne_of_lt (Heap.lt_size e) (List.mem_singleton.mp z)) (k1 b o e)
end
section
variable {X : Cx}
/-- (a, *b) = a tuple with an item or more -/
def gStar (K : PySem.W.Frag) (t : TGs) : TG := fun v σ H Q => ∃ a x xs, v = .ref a ∧ SqT K H a (x :: xs) ∧ ∀ l, H l = none → t [x, .ref l] σ (upd H l (.lst xs)) Q
theorem pg_star {e1 e2 : Expr} {k : Nat} {t : TGs} {p pos : Pos} (hc : X.calm = true) (h : PGs X [e1, e2] t)
    (h1 : assignEach [e1, .Starred e2 p] X.env = [(false, assign e1 X.env), (true, assign e2 X.env)] := by rfl) (h2 : (assignEach [e1, e2] X.env).map (·.2) = [assign e1 X.env, assign e2 X.env] := by rfl) : PG X (.Tuple [e1, .Starred e2 p] k pos) (gStar X.K t) := by
  refine ⟨fun pins s σ H v u Q I r hw => ?_⟩
  obtain ⟨a, x, xs, rfl, hq, hw⟩ := hw
  cases r
  obtain ⟨its, rv, ht, hz⟩ := I.tuple hq
  cases rv with
  | cons r1 r2 =>
    rename_i u0 ur
    have hl := r2.length
    have hz2 : ur.length ≤ sizeLine := by
      rw [List.length_cons] at hz
      omega
    rw [assign_Tuple]
    refine wpAny_bind (wpAny_standAt ?_)
    unfold unpack
    rw [h1]
    refine wpAny_bind (wpAny_holding (unpackItems_star (I.ok.hd hc) ht hz2 fun h' tk kp => ?_))
    have I1 : Inv X pins σ H { s with heap := h', toks := tk } := I.kept (t' := tk) kp
    have hf : H h'.objs.size = none := I1.hok.fresh (Nat.le_refl _)
    have I2 : Inv X pins σ (upd H h'.objs.size (.lst xs)) { s with heap := h'.push { cls := .type "list", data := .seq ur.toArray }, toks := tk } := I1.laid (t' := tk) (fun b o e => Heap.get?_push_of_some _ e) (Nat.le_refl _) ⟨by rw [hl]; exact hz2, ur, 0, r2, Heap.get?_push_size _ rfl⟩
    have := h.run pins _ σ _ [x, .ref h'.objs.size] [u0, .ref h'.objs.size] Q I2 (.cons r1 (.cons rfl .nil)) (hw _ hf)
    rw [h2] at this
    exact this
end
end TI
end
section
set_option Elab.async false
set_option maxRecDepth 100000
set_option linter.all false
namespace TI
open PySem PySem.Spec PyProof.Rows L2 TM TK TB TP TH TU TW TR
section
variable {X : Cx} {CX : CXT} {n k : Nat}
/-- which def, with which promise -/
def tCallVS (G : Addr → Prop) (sps : Addr → Sp) (E : XK) (tf : TE) (t : TA) : TE := fun σ H Q => tf σ H fun v H1 => ∃ g, v = .ref g ∧ G g ∧ t σ H1 fun vs H2 => sps g vs H2 Q E
theorem pen_callVS {G : Addr → Prop} {sps : Addr → Sp} {E : XK} {b : Str} {tf : TE} {e : Expr} {es : List Expr} {t : TA} {p pos : Pos} (F : ∀ g, G g → FnRn n X.prog X.w X.K X.mg X.base CX k g (sps g) ∧ PySem.W.keepIn X.K (.ref g) = true) (hr : Room k X.A) (hx : Passes CX X E) (hf : PE X (.Name b p) tf) (ha : PA X (e :: es) t)
    (he : starEach (e :: es) X.env = (false, eval e X.env) :: starEach es X.env := by rfl) (hst : (backTo pos (starEach es X.env)).any (·.1) = true := by rfl) :
    PEn n X (.Call (.Name b p) (e :: es) [] pos) (tCallVS G sps E tf t) := by
  intro pins s σ H Q hn I h
  refine wpAny_Call_Name_kw (thnN hn (hf.run pins s σ H _ I h) fun u s1 hn1 ⟨v, H1, I1, r1, g, ev, hg, q1⟩ => ?_)
  subst ev
  obtain rfl : u = Value.ref g := r1
  obtain ⟨FG, hk⟩ := F g hg
  refine PySem.W.callWith_S2 (h₀ := X.base) I.ok.mod.kin hk (thnN hn1 (ha.run pos pins s1 σ H1 _ I1 q1) fun us s2 hn2 ⟨vs, H2, I2, r, q⟩ => ⟨I2.kIn, ?_⟩) he hst
  exact wpAny_call (run_fnRn hn2 FG hr hx I2 r q)
end
/-- def f(a, .., *v), its body wants n tokens out -/
theorem fn_starN {CX : CXT} {P : Program} {w : World} {K : PySem.W.Frag} {mg : Str → Option Value} {base : Heap} {n k : Nat} {f : Addr} {x qual va : Str} {st : Stmt} {fd : FuncData} {N ps : List Str} {sp : Sp} (F : L2.Fun K x qual st f fd) (S : FnScope N (ps ++ [va]) (defScope st)) (hCX : StX.CXUp CX)
    (hb : ∀ us rest : List Value, us.length = ps.length → bindArgs fd ⟨us ++ rest, []⟩ = (newTuple rest >>= fun t => pure (ps.zip us ++ [(va, t)])))
    (hbody : ∀ (cdv : Value) (A : Around) (outer : List Env) (s : Shared) (H : Hp) (vs : List V) (Q : VK) (E : XK), Room k (A.deeper (envOfC qual (defScope st) s.heap.objs.size f cdv)) → sp vs H Q E →
      ∃ t, PSsn n (cxOf CX P w K mg base N qual (defScope st) f cdv A outer s H E).nox (defBody st) t ∧ t { nx := fun _ H' => Q .non H', rt := Q } (start N vs) H) :
    FnRn n P w K mg base CX (k + 1) f (fun vs H Q E => ∃ ws rest, vs = ws ++ rest ∧ ws.length = ps.length ∧ rest.length ≤ sizeLine ∧ ∀ p, H p = none → sp (ws ++ [V.ref p]) (upd H p (.tup rest)) Q E) := by
  obtain ⟨oc, od, kV, doc, pm, an, cdv, ct, osl, rfl, lk, hcd⟩ := F.ex
  intro A outer s H us vs Q E hn hr e0 r hsp
  obtain ⟨ws, rest, rfl, hl, hz, hq⟩ := hsp
  obtain ⟨u1, u2, rfl, r1, r2⟩ := StX.vals_split r
  have KX : K.In s.heap := e0.mod.kin.keeps fun b o e => (e0.bs b o e).1
  have hf : H s.heap.objs.size = none := e0.hok.fresh (Nat.le_refl _)
  have l1 : u1.length = ps.length := by rw [← r1.length]; exact hl
  have l2 : u2.length ≤ sizeLine := by rw [← r2.length]; exact hz
  refine codeAny_call_function hr.depth (KX _ _ lk) rfl S.co S.gen rfl (PySem.W.codeRec_of KX hcd) ?_
  rw [hb u1 u2 l1]
  have tupAt : ObjOk P w (upd H s.heap.objs.size (.tup rest)) (s.heap.push ({ cls := .type "tuple", data := .seq u2.toArray } : Obj)) s.heap.objs.size (.tup rest) := ⟨hz, u2, r2, ⟨_, Heap.get?_push_size _ rfl, rfl, _, rfl⟩⟩
  have e2 := StX.env0_laid e0 tupAt
  have un := StX.un_laid (fs := frs outer) (s := s) (o := ({ cls := .type "tuple", data := .seq u2.toArray } : Obj)) (u := .tup rest) hf
  have r3 : Vals (ws ++ [V.ref s.heap.objs.size]) (u1 ++ [Value.ref s.heap.objs.size]) := r1.append (.cons rfl .nil)
  have l3 : (ws ++ [V.ref s.heap.objs.size]).length = (ps ++ [va]).length := by
    rw [List.length_append, List.length_append, hl]
    rfl
  have q3 := hq _ hf
  generalize upd H s.heap.objs.size (.tup rest) = H2 at e2 un q3
  refine wpAny_bind (wpAny_newTuple (wpAny_pure ?_) l2)
  have zp : ps.zip u1 ++ [(va, Value.ref s.heap.objs.size)] = (ps ++ [va]).zip (u1 ++ [Value.ref s.heap.objs.size]) := by
    rw [List.zip_append l1.symm]
    rfl
  rw [zp]
  generalize hs2 : ({ s with heap := s.heap.push ({ cls := .type "tuple", data := .seq u2.toArray } : Obj) } : Shared) = s2 at e2
  have hn2 : n ≤ s2.toks := by rw [← hs2]; exact hn
  have os2 : s2.os = s.os := by rw [← hs2]
  have kp2 : ∀ b o, s.heap.get? b = some o → s2.heap.get? b = some o := by rw [← hs2]; exact fun b o e => Heap.get?_push_of_some _ e
  have un2 : Un (frs outer) [] H H2 s.heap s2.heap := by rw [← hs2]; exact un
  have lim : s2.heap.NoLimit := e0.mod.nolimit.keeps fun b o e => (e2.bs b o e).1
  have hkind : ∀ y ∈ (ps ++ [va]).zip (u1 ++ [Value.ref s.heap.objs.size]), (defScope st).names.lookup y.1 = some .local ∨ ((defScope st).names.lookup y.1 = some .cell ∧ ((cellsFrom (s2.heap.objs.size + 1) (defScope st).names []).lookup y.1).isSome = true) := fun ⟨m, v⟩ hy => by
    rcases S.par m (List.of_mem_zip hy).1 with q | q
    · exact .inl q
    · exact .inr ⟨q, PySem.W.cellsFrom_some _ _ _ (.inl q)⟩
  show wpAny _ _ _ _ _ s2
  refine wpAny_with_toks hn2 (wpAny_mono (wpAny_newFunctionEnv_cells (Q := fun env s1 => n ≤ s1.toks → _) S.kind hkind fun env he s1 x hn1 => ?_) (fun _ _ z => z) fun _ _ z _ => z)
  subst he
  refine ⟨lim.keeps x.toInCall.keep, codeAny_func ?_⟩
  obtain ⟨t, ht, hq'⟩ := hbody cdv A outer s2 H2 _ Q E (hr.deeper _) q3
  have I : Inv (cxOf CX P w K mg base N qual (defScope st) f cdv A outer s2 H2 E) [] (start N (ws ++ [V.ref s.heap.objs.size])) H2 s1 := inv_start S hr.hd e2 l3 r3 x
  refine wpAny_mono (pssn_nox ht [] s1 _ H2 _ hn1 I hq') (fun fl s' hs => ?_) fun e s' hs => ?_
  rotate_left
  · exact wpAny_mono hs (fun _ s'' z => hCX outer s H s2 H2 E _ s'' un2 kp2 os2 z) fun e' s'' z => hCX outer s H s2 H2 E e' s'' un2 kp2 os2 z
  have fin : ∀ {σ' : L2.St} {H' : Hp} {v : V} {u : Value}, Inv (cxOf CX P w K mg base N qual (defScope st) f cdv A outer s2 H2 E) [] σ' H' s' → RelV v u → Q v H' → CE outer P w H s Q u s' :=
    fun {σ' H' v u} J rv q => ⟨v, H', J.os.trans os2, J.bare, un2.trans J.base, J.hok, rv, q⟩
  cases fl with
  | ret u =>
    obtain ⟨v, σ', H', J, rv, q⟩ := hs
    exact fin J rv q
  | next =>
    obtain ⟨σ', H', J, q⟩ := hs
    exact fin (v := V.non) (u := Value.none) J rfl q
  | brk =>
    obtain ⟨_, _, _, q⟩ := hs
    exact q.elim
  | cont =>
    obtain ⟨_, _, _, q⟩ := hs
    exact q.elim
end TI
end
section
set_option Elab.async false
set_option maxRecDepth 100000
set_option linter.all false
namespace TI
open PySem PySem.Spec PyProof.Rows L2 TM TK TB TP TH TU TW TR
def rInKd (K : PySem.W.Frag) (w : World) : R2 := fun y x H Q => ∃ p z v, x = .ref p ∧ y = .str z ∧ (p == sysModules) = false ∧ KDct K w p z v ∧ Q (.bl true) H
section
variable {X : Cx}
/-- x in a dict of the module -/
theorem op_inKd : OpR X (compareOp .In) (rInKd X.K X.w) := by
  intro pins s σ H y x v u Q I ry rx h
  obtain ⟨p, z, r, rfl, rfl, hp, ⟨es, n, u0, hl, hk, e, ru⟩, q⟩ := h
  obtain rfl : u = Value.ref p := rx
  obtain ⟨t, rfl⟩ := ry
  have hm := PySem.W.mapOf_K (prog := X.prog) (w := X.w) I.kIn hl hk
  have hv := PySem.W.find_K hl e
  refine wpAny_in_of (strKind_is X.prog X.w z t) hp hm ?_
  rw [hv]
  exact ⟨.bl true, H, I.tok _, rfl, q⟩
end
section
variable {P : Program} {w_ : World} {K : PySem.W.Frag} {mg : Str → Option Value} {base : Heap} {n : Nat} {aS : Addr}
theorem scIo : FnScope ["value", "name"] ["value"] (defScope sIsOperation) := ⟨rfl, rfl, rfl, by decide +kernel, rfl, by decide +kernel, by decide +kernel⟩
def spIo (K : PySem.W.Frag) (w_ : World) (aS : Addr) : Sp := fun vs H Q _ => ∃ (a : Addr) (z : Str) (xs : List V), vs = [.ref a] ∧ SqT K H a (.str z :: xs) ∧ xs.length ≤ 100 ∧ KDct K w_ aS z (.int ((xs.length + 1 : Nat) : Int)) ∧ Q (.bl true) H
theorem ok_io {f : Addr} {fd : FuncData} (F : Fun K "_is_operation" "_is_operation" sIsOperation f fd) (T : TxtW K mg) (htup : mg "tuple" = none) (mS : mg "SIZES" = some (.ref aS)) (nS : (aS == sysModules) = false) : FnOk P w_ K mg base CX0 1 f fd ["value"] (spIo K w_ aS) := by
  refine F.ok scIo (fun vs H Q E h => ?_) (fun cdv A outer s H vs Q E hr h => ?_)
  · obtain ⟨a, z, xs, rfl, _⟩ := h
    rfl
  · obtain ⟨a, z, xs, rfl, hS, hl, hK, k⟩ := h
    have nd := scIo.nd
    refine ⟨_, pss_cons (ps_if (PW.pt (pw_or (pt_not (pt_val (pe_callB call_isi (by rfl) T.isi (by decide +kernel) (pa_cons (pv 0) (pa_cons (pe_bltn (v := .ty "tuple") (by rfl) htup (by decide +kernel) rfl) pa_nil))))) (pw_or1 (pt_cmpR op_eq (pe_callB call_len_seq (by rfl) T.len PySem.boot_len (pa_cons (pv 0) pa_nil)) pe_int (nomark _))))) pss_never pss_nil)
      (pss_cons (ps_set (i := 1) nd rfl (.inl rfl) (pe_ix ix_tup (pv 0) pe_int (fun _ _ => rfl)))
      (pss_one (ps_ret (pe_and (pe_callB call_isi (by rfl) T.isi (by decide +kernel) (pa_cons (pv 1) (pa_cons (pe_bltn (v := .ty "str") (by rfl) T.str (by decide +kernel) rfl) pa_nil)))
        (pe_and (pe_cmpR op_inKd (pv 1) (pe_glob (v := .ref aS) rfl mS rfl) (by rfl))
          (pe_one (pe_cmpR op_eq (pe_callB call_len_seq (by rfl) T.len PySem.boot_len (pa_cons (pv 0) pa_nil)) (pe_ix ix_kdict (pe_glob (v := .ref aS) rfl mS rfl) (pv 1) (fun _ _ => rfl)) (nomark _)))))))), ?_⟩
    refine ⟨_, rfl, _, _, _, _, true, rfl, .ty _, TA.sq_ty (.tup hS), kit_ty (TA.tup_kit true), true, rfl, iteF ?_⟩
    refine ⟨_, rfl, a, _, rfl, .inr hS, rfl, _, rfl, ?_⟩
    rw [show decide (V.int (((V.str z :: xs).length : Nat) : Int) = V.int 0) = false from decide_eq_false fun y => by
      have := V.int.inj y
      rw [List.length_cons] at this
      omega]
    refine iteF ⟨_, rfl, a, _, 0, _, rfl, rfl, hS, atI_nat (xs := V.str z :: xs) (j := 0) rfl, ?_⟩
    refine ⟨_, rfl, _, _, _, _, true, rfl, .ty _, .base (.str _), kit_ty (by decide +kernel), true, rfl, iteT ?_⟩
    refine ⟨_, rfl, aS, z, _, rfl, rfl, nS, hK, true, rfl, iteT ?_⟩
    refine ⟨_, rfl, a, _, rfl, .inr hS, _, rfl, aS, z, _, rfl, rfl, hK, rfl, ?_⟩
    rw [show decide (V.int (((V.str z :: xs).length : Nat) : Int) = V.int ((xs.length + 1 : Nat) : Int)) = true from decide_eq_true rfl]
    exact k
end
end TI
end
section
set_option Elab.async false
set_option maxRecDepth 100000
set_option linter.all false
namespace TI
open PySem PySem.Spec PyProof.Rows L2 TM TK TB TP TH TU TW TR
inductive Op where
  | tl (c : Nat)
  | pt (c i j : Nat)
  | tk (c : Nat)
/-- an operation's tuple -/
def opV (H : Hp) (K : PySem.W.Frag) : Op → List V → Prop
  | .tl c, xs => xs = [.str (Str.ofString "tilt"), sg c]
  | .pt c i j, xs => ∃ q, xs = [.str (Str.ofString "put"), sg c, .ref q] ∧ SqT K H q [.int (i : Nat), .int (j : Nat)]
  | .tk c, xs => xs = [.str (Str.ofString "take"), sg c]
def OpAt (K : PySem.W.Frag) (H : Hp) (x : V) (o : Op) : Prop := ∃ a xs, x = .ref a ∧ SqT K H a xs ∧ opV H K o xs
theorem OpAt.same {K : PySem.W.Frag} {H H' : Hp} {x : V} {o : Op} (h : OpAt K H x o) (s : Same H H') : OpAt K H' x o := by
  obtain ⟨a, xs, h1, h2, h3⟩ := h
  refine ⟨a, xs, h1, s.tup h2, ?_⟩
  cases o with
  | tl c => exact h3
  | pt c i j =>
    obtain ⟨q, e, hq⟩ := h3
    exact ⟨q, e, s.tup hq⟩
  | tk c => exact h3
def TrV (K : PySem.W.Frag) (D : Addr) (H : Hp) (x : V) (g : Grid) : Prop := ∃ r, x = .ref r ∧ TrayAt K D H r g
def All2 {α : Type} (R : V → α → Prop) (xs : List V) (ys : List α) : Prop := xs.length = ys.length ∧ ∀ (k : Nat) x y, xs[k]? = some x → ys[k]? = some y → R x y
theorem All2.imp {α : Type} {R S : V → α → Prop} {xs : List V} {ys : List α} (h : All2 R xs ys) (f : ∀ x y, R x y → S x y) : All2 S xs ys := ⟨h.1, fun k x y a b => f x y (h.2 k x y a b)⟩
theorem All2.take {α : Type} {R : V → α → Prop} {xs : List V} {ys : List α} (h : All2 R xs ys) (d : Nat) : All2 R (xs.take d) (ys.take d) := by
  refine ⟨by rw [List.length_take, List.length_take, h.1], fun k x y a b => ?_⟩
  have l1 := (List.getElem?_eq_some_iff.mp a).1
  rw [List.length_take] at l1
  have l2 : k < d := by omega
  rw [List.getElem?_take_of_lt l2] at a b
  exact h.2 k x y a b
theorem All2.app {α : Type} {R : V → α → Prop} {xs us : List V} {ys vs : List α} (h : All2 R xs ys) (g : All2 R us vs) : All2 R (xs ++ us) (ys ++ vs) := by
  refine ⟨by rw [List.length_append, List.length_append, h.1, g.1], fun k x y a b => ?_⟩
  rcases Nat.lt_or_ge k xs.length with l | l
  · rw [List.getElem?_append_left l] at a
    rw [List.getElem?_append_left (by rw [← h.1]; exact l)] at b
    exact h.2 k x y a b
  · rw [List.getElem?_append_right l] at a
    rw [List.getElem?_append_right (by rw [← h.1]; exact l), ← h.1] at b
    exact g.2 _ x y a b
/-- the state's tuple: all operations, all trays, how many are in effect -/
structure StAt (K : PySem.W.Frag) (D : Addr) (H : Hp) (st : Addr) (os : List Op) (gs : List Grid) (d : Nat) : Prop where
  at_ : ∃ o tr xs ts, SqT K H st [.ref o, .ref tr, .int (d : Nat)] ∧ SqT K H o xs ∧ SqT K H tr ts ∧ All2 (OpAt K H) xs os ∧ All2 (TrV K D H) ts gs
  le : d ≤ os.length
  len : gs.length = os.length + 1
theorem StAt.same {K : PySem.W.Frag} {D : Addr} {H H' : Hp} {st d : Nat} {os : List Op} {gs : List Grid} (h : StAt K D H st os gs d) (s : Same H H') : StAt K D H' st os gs d := by
  obtain ⟨⟨o, tr, xs, ts, h1, h2, h3, h4, h5⟩, h6, h7⟩ := h
  exact ⟨⟨o, tr, xs, ts, s.tup h1, s.tup h2, s.tup h3, h4.imp fun x y z => z.same s, h5.imp fun x y ⟨r, e, t⟩ => ⟨r, e, t.same s⟩⟩, h6, h7⟩
/-- a live tray, no block open -/
def LvAt (K : PySem.W.Frag) (L D : Addr) (H : Hp) (p : Addr) (os : List Op) (gs : List Grid) (d : Nat) : Prop := ∃ dx st, H p = some (.ins L dx [("_state", .ref st), ("_state_before_block", .non)]) ∧ StAt K D H st os gs d
theorem LvAt.same {K : PySem.W.Frag} {L D : Addr} {H H' : Hp} {p d : Nat} {os : List Op} {gs : List Grid} (h : LvAt K L D H p os gs d) (s : Same H H') : LvAt K L D H' p os gs d := by
  obtain ⟨dx, st, h1, h2⟩ := h
  exact ⟨dx, st, s _ _ h1, h2.same s⟩
structure ClsL (K : PySem.W.Frag) (mg : Str → Option Value) (L : Addr) : Prop where
  cl : Cls K L
  n1 : NoAttr K L "_state"
  n2 : NoAttr K L "_state_before_block"
  mgL : mg "LiveTray" = some (.ref L)
section
variable {P : Program} {w_ : World} {K : PySem.W.Frag} {mg : Str → Option Value} {base : Heap} {n : Nat} {L D : Addr}
abbrev NPr : List Str := ["self", "_", "trays", "done"]
theorem scPr : FnScope NPr ["self"] (defScope sLiveTrayPresentTray) := ⟨rfl, rfl, rfl, by decide +kernel, rfl, by decide +kernel, by decide +kernel⟩
def spPr (K : PySem.W.Frag) (L D : Addr) : Sp := fun vs H Q _ => ∃ (p d : Nat) (os : List Op) (gs : List Grid) (g : Grid), vs = [.ref p] ∧ LvAt K L D H p os gs d ∧ gs[d]? = some g ∧ ∀ r, TrayAt K D H r g → Q (.ref r) H
theorem ok_pr {f : Addr} {fd : FuncData} (F : Fun K "present_tray" "LiveTray.present_tray" sLiveTrayPresentTray f fd) (CL : ClsL K mg L) : FnOk P w_ K mg base CX0 1 f fd ["self"] (spPr K L D) := by
  refine F.ok scPr (fun vs H Q E h => ?_) (fun cdv A outer s H vs Q E hr h => ?_)
  · obtain ⟨p, d, os, gs, g, rfl, _⟩ := h
    rfl
  · obtain ⟨p, d, os, gs, g, rfl, hL, hg, k⟩ := h
    have nd := scPr.nd
    obtain ⟨dx, st, hp, ⟨⟨o, tr, xs, ts, h1, h2, h3, h4, h5⟩, h6, h7⟩⟩ := hL
    refine ⟨_, pss_cons (ps_asg (pe_fld (pv 0) rfl) (pg_tup (by rfl) (pgs_cons (pg_name (i := 1) nd rfl (.inl rfl)) (pgs_cons (pg_name (i := 2) nd rfl (.inl rfl)) (pgs_cons (pg_name (i := 3) nd rfl (.inl rfl)) pgs_nil)))))
      (pss_one (ps_ret (pe_ix ix_tup (pv 2) (pv 3) (fun _ _ => rfl)))), ?_⟩
    refine ⟨_, rfl, p, L, dx, _, _, rfl, hp, CL.cl, CL.n1, rfl, st, _, rfl, h1, rfl, _, _, rfl, _, _, rfl, _, _, rfl, rfl, ?_⟩
    have hd : d < gs.length := (List.getElem?_eq_some_iff.mp hg).1
    obtain ⟨x, hx⟩ : ∃ x, ts[d]? = some x := ⟨_, List.getElem?_eq_getElem (by rw [h5.1]; exact hd)⟩
    obtain ⟨r, rfl, tr_⟩ := h5.2 d x g hx hg
    exact ⟨_, rfl, _, rfl, tr, ts, _, _, rfl, rfl, h3, atI_nat hx, k r tr_⟩
end
end TI
end
section
set_option Elab.async false
set_option maxRecDepth 100000
set_option linter.all false
namespace TI
open PySem PySem.Spec PyProof.Rows L2 TM TK TB TP TH TU TW TR
theorem sl_of {K : PySem.W.Frag} {H : Hp} {a : Addr} {xs : List V} {lo hi : Option Int} {Q : VK} (h : SqT K H a xs) (k : ∀ H' r, Same H H' → SqT K H' r (cutV xs lo hi) → Q (.ref r) H') : rSlA K (.ref a) lo hi H Q := by
  refine ⟨a, xs, rfl, h, fun z => ?_, fun z p hp => ?_⟩
  · refine k H a (Same.refl H) ?_
    have e : cutV xs lo hi = xs := by
      unfold cutV
      rw [z.1, z.2, List.drop_zero, Nat.sub_zero, List.take_length]
    rw [e]
    exact h
  · exact k _ p (same_new hp) (SqT.of upd_same)
theorem cat_of {K : PySem.W.Frag} {H : Hp} {a b : Addr} {xs ys : List V} {Q : VK} (ha : SqT K H a xs) (hb : SqT K H b ys) (hz : xs.length + ys.length ≤ sizeLine) (k : ∀ H' r, Same H H' → SqT K H' r (xs ++ ys) → Q (.ref r) H') : rCatA K (.ref a) (.ref b) H Q := by
  refine ⟨a, b, xs, ys, rfl, rfl, ha, hb, hz, fun z => k H b (Same.refl H) (by rw [z]; exact hb), fun _ z => k H a (Same.refl H) (by rw [z, List.append_nil]; exact ha), fun _ _ p hp => k _ p (same_new hp) (SqT.of upd_same)⟩
theorem cutT_tk (t : List V) (d : Nat) : cutV t none (some (d : Int)) = t.take d := by
  unfold cutV
  rw [show HT.sIx t.length 0 none = 0 from rfl, HT.sIx_nat, Nat.sub_zero, List.drop_zero]
  rcases Nat.le_total d t.length with h | h
  · rw [Nat.min_eq_left h]
  · rw [Nat.min_eq_right h, List.take_length, List.take_of_length_le h]
/-- what stands while a live tray changes -/
abbrev LO (L dx st : Addr) (u : V) : HO := .ins L dx [("_state", .ref st), ("_state_before_block", u)]
section
variable {K : PySem.W.Frag} {L D dx st p : Addr} {u : V} {H H' : Hp}
theorem seq_lv {a : Addr} {xs : List V} (h : SqT K H a xs) (hp : H p = some (LO L dx st u)) (kp : But p H H') : SqT K H' a xs := seq_but h hp (fun _ _ => ⟨by simp, by simp⟩) kp
theorem tray_lv {r : Addr} {g : Grid} (h : TrayAt K D H r g) (hp : H p = some (LO L dx st u)) (kp : But p H H') : TrayAt K D H' r g := by
  obtain ⟨d, a, e, q⟩ := h
  refine ⟨d, a, kp _ _ e fun z => ?_, seq_lv q hp kp⟩
  rw [z, hp] at e
  have e := Option.some.inj e
  simp at e
theorem op_lv {x : V} {o : Op} (h : OpAt K H x o) (hp : H p = some (LO L dx st u)) (kp : But p H H') : OpAt K H' x o := by
  obtain ⟨a, xs, h1, h2, h3⟩ := h
  refine ⟨a, xs, h1, seq_lv h2 hp kp, ?_⟩
  cases o with
  | tl c => exact h3
  | pt c i j =>
    obtain ⟨q, e, hq⟩ := h3
    exact ⟨q, e, seq_lv hq hp kp⟩
  | tk c => exact h3
theorem st_lv {s d : Nat} {os : List Op} {gs : List Grid} (h : StAt K D H s os gs d) (hp : H p = some (LO L dx st u)) (kp : But p H H') : StAt K D H' s os gs d := by
  obtain ⟨⟨o, tr, xs, ts, h1, h2, h3, h4, h5⟩, h6, h7⟩ := h
  exact ⟨⟨o, tr, xs, ts, seq_lv h1 hp kp, seq_lv h2 hp kp, seq_lv h3 hp kp, h4.imp fun x y z => op_lv z hp kp, h5.imp fun x y ⟨r, e, t⟩ => ⟨r, e, tray_lv t hp kp⟩⟩, h6, h7⟩
end
section
variable {P : Program} {w_ : World} {K : PySem.W.Frag} {mg : Str → Option Value} {base : Heap} {n : Nat} {L D : Addr}
abbrev NEs : List Str := ["self", "operations", "later_trays", "earlier", "trays", "done"]
theorem scEs : FnScope NEs ["self", "operations", "later_trays"] (defScope sLiveTrayExtendState) := ⟨rfl, rfl, rfl, by decide +kernel, rfl, by decide +kernel, by decide +kernel⟩
def spEs (K : PySem.W.Frag) (L D : Addr) : Sp := fun vs H Q _ => ∃ (p o2 t2 d : Nat) (os os2 : List Op) (gs gs2 : List Grid) (xs2 ts2 : List V), vs = [.ref p, .ref o2, .ref t2] ∧ LvAt K L D H p os gs d ∧ SqT K H o2 xs2 ∧ All2 (OpAt K H) xs2 os2 ∧ SqT K H t2 ts2 ∧ All2 (TrV K D H) ts2 gs2 ∧ gs2.length = os2.length ∧ os.length + os2.length ≤ 1000 ∧
  ∀ H', LvAt K L D H' p (os.take d ++ os2) (gs.take (d + 1) ++ gs2) (d + os2.length) → But p H H' → Q .non H'
theorem ok_es {f : Addr} {fd : FuncData} (F : Fun K "_extend_state" "LiveTray._extend_state" sLiveTrayExtendState f fd) (CL : ClsL K mg L) (hlen : mg "len" = none) : FnOk P w_ K mg base CX0 1 f fd ["self", "operations", "later_trays"] (spEs K L D) := by
  refine F.ok scEs (fun vs H Q E h => ?_) (fun cdv A outer s H vs Q E hr h => ?_)
  · obtain ⟨p, o2, t2, d, os, os2, gs, gs2, xs2, ts2, rfl, _⟩ := h
    rfl
  · obtain ⟨p, o2, t2, d, os, os2, gs, gs2, xs2, ts2, rfl, ⟨dx, st, hp, ⟨⟨o, tr, xs, ts, h1, h2, h3, h4, h5⟩, h6, h7⟩⟩, ho2, ao2, ht2, at2, hl2, hz, k⟩ := h
    have nd := scEs.nd
    refine ⟨_, pss_cons (ps_asg (pe_fld (pv 0) rfl) (pg_tup (by rfl) (pgs_cons (pg_name (i := 3) nd rfl (.inl rfl)) (pgs_cons (pg_name (i := 4) nd rfl (.inl rfl)) (pgs_cons (pg_name (i := 5) nd rfl (.inl rfl)) pgs_nil)))))
      (pss_one (ps_fld (pv 0) (pe_tup (pa_cons (pe_op op_catA (pe_slice sl_tupA (pv 3) po_none (po_some (pv 5))) (pv 1)) (pa_cons (pe_op op_catA (pe_slice sl_tupA (pv 4) po_none (po_some (pe_op op_add (pv 5) pe_int))) (pv 2)) (pa_cons (pe_op op_add (pv 5) (pe_callB call_len_seq (by rfl) hlen PySem.boot_len (pa_cons (pv 1) pa_nil))) pa_nil)))) rfl)), ?_⟩
    have lx := h4.1
    have lt_ := h5.1
    have lx2 := ao2.1
    have lt2 := at2.1
    refine ⟨_, rfl, p, L, dx, _, _, rfl, hp, CL.cl, CL.n1, rfl, st, _, rfl, h1, rfl, _, _, rfl, _, _, rfl, _, _, rfl, rfl, ?_⟩
    refine ⟨_, rfl, _, rfl, _, rfl, ?_⟩
    refine sl_of h2 fun H1 r1 s1 q1 => ?_
    rw [cutT_tk] at q1
    refine ⟨_, rfl, cat_of q1 (s1.tup ho2) (by rw [List.length_take]; show _ ≤ 16777216; omega) fun H2 r2 s2 q2 => ?_⟩
    have s12 := s1.trans s2
    refine ⟨_, rfl, _, rfl, _, _, rfl, rfl, _, rfl, ?_⟩
    refine sl_of (s12.tup h3) fun H3 r3 s3 q3 => ?_
    rw [show (d : Int) + 1 = ((d + 1 : Nat) : Int) by omega, cutT_tk] at q3
    have s13 := s12.trans s3
    refine ⟨_, rfl, cat_of q3 (s13.tup ht2) (by rw [List.length_take]; show _ ≤ 16777216; omega) fun H4 r4 s4 q4 => ?_⟩
    have s14 := s13.trans s4
    refine ⟨_, rfl, _, rfl, o2, xs2, rfl, .inr (s14.tup ho2), _, _, rfl, rfl, (by show 3 ≤ sizeLine; decide), fun tp htp => ?_⟩
    have s5 := same_new (o := .tup [V.ref r2, V.ref r4, V.int ((d : Int) + ((xs2.length : Nat) : Int))]) htp
    have e5 : upd H4 tp (.tup [V.ref r2, V.ref r4, V.int ((d : Int) + ((xs2.length : Nat) : Int))]) tp = some (.tup [V.ref r2, V.ref r4, V.int ((d : Int) + ((xs2.length : Nat) : Int))]) := upd_same
    generalize upd H4 tp (.tup [V.ref r2, V.ref r4, V.int ((d : Int) + ((xs2.length : Nat) : Int))]) = H5 at s5 e5
    have s15 := s14.trans s5
    have hp5 := s15 _ _ hp
    have tk1 : (os.take d).length = d := by rw [List.length_take]; omega
    have tk2 : (gs.take (d + 1)).length = d + 1 := by rw [List.length_take]; omega
    have S5 : StAt K D H5 tp (os.take d ++ os2) (gs.take (d + 1) ++ gs2) (d + os2.length) := by
      refine ⟨⟨r2, r4, xs.take d ++ xs2, ts.take (d + 1) ++ ts2, SqT.of (by rw [e5, lx2, show ((d + os2.length : Nat) : Int) = (d : Int) + ((os2.length : Nat) : Int) by omega]), ((s3.trans s4).trans s5).tup q2, s5.tup q4, ?_, ?_⟩, ?_, ?_⟩
      · exact ((h4.take d).app ao2).imp fun x y z => z.same s15
      · exact ((h5.take (d + 1)).app at2).imp fun x y ⟨r, e, t⟩ => ⟨r, e, t.same s15⟩
      · rw [List.length_append, tk1]
        exact Nat.le_refl _
      · rw [List.length_append, List.length_append, tk1, tk2, hl2]
        omega
    have kp5 : ∀ o', But p H5 (upd H5 p o') := fun o' b o e hb => by rw [upd_ne hb]; exact e
    refine ⟨_, rfl, p, L, dx, _, rfl, hp5, CL.cl, CL.n1, (by show 2 < 1000; decide), ?_⟩
    exact k _ ⟨dx, tp, upd_same, st_lv S5 hp5 (kp5 _)⟩ ((But.same s15).trans (kp5 _))
end
end TI
end
section
set_option Elab.async false
set_option maxRecDepth 100000
set_option linter.all false
namespace TI
open PySem PySem.Spec PyProof.Rows L2 TM TK TB TP TH TU TW TR
def stepG (h w : Nat) (g : Grid) : Op → Grid
  | .tl c => TM.tilt h w g c
  | .pt c i j => putc g i j c
  | .tk c => putc g (g.flatten.idxOf c / w) (g.flatten.idxOf c % w) 46
def okOp (h w : Nat) (g : Grid) : Op → Prop
  | .tl c => isT c = true
  | .pt c i j => 97 ≤ c ∧ c < 123 ∧ c ∉ mb g.flatten ∧ i < h ∧ j < w ∧ g.flatten[i * w + j]? = some 46
  | .tk c => c ∈ mb g.flatten
def resV (K : PySem.W.Frag) (H : Hp) (h w : Nat) (g : Grid) : Op → V → Prop
  | .tl c, v => v = .str (S (moves g (TM.tilt h w g c)))
  | .pt _ _ _, v => v = .int (((mb g.flatten).length + 1 : Nat) : Int)
  | .tk c, v => ∃ q, v = .ref q ∧ H q = some (.tup (plV w (g.flatten.idxOf c)))
theorem resV_same {K : PySem.W.Frag} {H H' : Hp} {h w : Nat} {g : Grid} {o : Op} {v : V} (r : resV K H h w g o v) (kp : ∀ b xs, H b = some (.tup xs) → H' b = some (.tup xs)) : resV K H' h w g o v := by
  cases o with
  | tl c => exact r
  | pt c i j => exact r
  | tk c =>
    obtain ⟨q, e, hq⟩ := r
    exact ⟨q, e, kp _ _ hq⟩
theorem tk_place {h w : Nat} {g : Grid} (hV : VG h w g) {c : Nat} (hc : c ∈ mb g.flatten) : c ≠ 46 ∧ g.flatten[g.flatten.idxOf c]? = some c ∧ g.flatten.idxOf c / w < h ∧ g.flatten.idxOf c % w < w ∧ g.flatten.idxOf c / w * w + g.flatten.idxOf c % w = g.flatten.idxOf c := by
  have m := mem_mb.mp hc
  have at_ := (idx_at m.1).2
  have lt := (List.getElem?_eq_some_iff.mp at_).1
  rw [flat_len hV.rc] at lt
  have hw1 := hV.m1
  refine ⟨m.2, at_, (Nat.div_lt_iff_lt_mul hw1).mpr lt, Nat.mod_lt _ hw1, ?_⟩
  rw [Nat.mul_comm]
  exact Nat.div_add_mod _ w
theorem stepG_VG {h w : Nat} {g : Grid} (hV : VG h w g) {o : Op} (ho : okOp h w g o) : VG h w (stepG h w g o) := by
  cases o with
  | tl c => exact VG.tilts [c] hV
  | pt c i j =>
    obtain ⟨c1, c2, hn, hi, hj, hx⟩ := ho
    exact putc_VG hV hi hj hx (by unfold Cell; omega) (.inl ⟨rfl, hn⟩)
  | tk c =>
    obtain ⟨_, e, hi, hj, ek⟩ := tk_place hV ho
    exact putc_VG hV hi hj (by rw [ek]; exact e) (by unfold Cell; omega) (.inr rfl)
/-- the trays behind each operation -/
def runG (h w : Nat) : Grid → List Op → List Grid
  | _, [] => []
  | g, o :: r => stepG h w g o :: runG h w (stepG h w g o) r
def okAll (h w : Nat) : Grid → List Op → Prop
  | _, [] => True
  | g, o :: r => okOp h w g o ∧ okAll h w (stepG h w g o) r
theorem runG_len (h w : Nat) : ∀ (os : List Op) (g : Grid), (runG h w g os).length = os.length
  | [], _ => rfl
  | o :: r, g => by
    show (runG h w (stepG h w g o) r).length + 1 = r.length + 1
    rw [runG_len h w r]
/-- the tray ahead of an operation -/
def atG (h w : Nat) (g : Grid) (os : List Op) (k : Nat) : Grid := (os.take k).foldl (stepG h w) g
theorem atG_ok {h w : Nat} : ∀ {os : List Op} {g : Grid} {k : Nat} {o : Op}, okAll h w g os → os[k]? = some o → okOp h w (atG h w g os k) o
  | o' :: r, g, 0, o, h1, h2 => by
    cases h2
    exact h1.1
  | o' :: r, g, k + 1, o, h1, h2 => by
    show okOp h w (atG h w (stepG h w g o') r k) o
    exact atG_ok h1.2 h2
theorem atG_VG {h w : Nat} : ∀ {os : List Op} {g : Grid} (k : Nat), VG h w g → okAll h w g os → VG h w (atG h w g os k)
  | [], g, k, hV, _ => by
    unfold atG
    rw [List.take_nil]
    exact hV
  | o :: r, g, 0, hV, _ => hV
  | o :: r, g, k + 1, hV, h1 => atG_VG (os := r) k (stepG_VG hV h1.1) h1.2
theorem atG_next {h w : Nat} {os : List Op} {g : Grid} {k : Nat} {o : Op} (e : os[k]? = some o) : atG h w g os (k + 1) = stepG h w (atG h w g os k) o := by
  unfold atG
  rw [List.take_add_one, e, List.foldl_append]
  rfl
theorem runG_at {h w : Nat} : ∀ {os : List Op} {g : Grid} {k : Nat} {o : Op}, os[k]? = some o → (runG h w g os)[k]? = some (atG h w g os (k + 1))
  | o' :: r, g, 0, o, e => rfl
  | o' :: r, g, k + 1, o, e => by
    show (runG h w (stepG h w g o') r)[k]? = some (atG h w (stepG h w g o') r (k + 1))
    exact runG_at (o := o) e
theorem runG_take {h w : Nat} {os : List Op} {g : Grid} {k : Nat} {o : Op} (e : os[k]? = some o) : (runG h w g os).take (k + 1) = (runG h w g os).take k ++ [atG h w g os (k + 1)] := by
  rw [List.take_add_one, runG_at e]
  rfl
section
variable {P : Program} {w_ : World} {K : PySem.W.Frag} {mg : Str → Option Value} {base : Heap} {n : Nat} {L D fTl fPt fTk : Addr} {fdPt fdTk : FuncData}
/-- which action -/
def actOf (fTl fPt fTk : Addr) : Op → Addr
  | .tl _ => fTl
  | .pt _ _ _ => fPt
  | .tk _ => fTk
/-- the three actions -/
def actG (fTl fPt fTk : Addr) (g : Addr) : Prop := g = fTl ∨ g = fPt ∨ g = fTk
def actS (K : PySem.W.Frag) (D fTl fPt fTk : Addr) (g : Addr) : Sp := fun vs H Q E => (g = fTl ∧ spAl_ K D vs H Q E) ∨ (g = fPt ∧ spAp K D vs H Q E) ∨ (g = fTk ∧ spAk K D vs H Q E)
theorem act_ok (GTl : FnRn n P w_ K mg base CX0 6 fTl (spAl_ K D)) (kTl : PySem.W.keepIn K (.ref fTl) = true) (GPt : FnRn n P w_ K mg base CX0 6 fPt (spAp K D)) (kPt : PySem.W.keepIn K (.ref fPt) = true) (GTk : FnRn n P w_ K mg base CX0 6 fTk (spAk K D)) (kTk : PySem.W.keepIn K (.ref fTk) = true) :
    ∀ g, actG fTl fPt fTk g → FnRn n P w_ K mg base CX0 6 g (actS K D fTl fPt fTk g) ∧ PySem.W.keepIn K (.ref g) = true := fun g hg => by
  refine ⟨fun A outer s H us vs Q E hn hr e0 r hsp => ?_, ?_⟩
  · rcases hsp with ⟨rfl, z⟩ | ⟨rfl, z⟩ | ⟨rfl, z⟩
    · exact GTl A outer s H us vs Q E hn hr e0 r z
    · exact GPt A outer s H us vs Q E hn hr e0 r z
    · exact GTk A outer s H us vs Q E hn hr e0 r z
  · rcases hg with rfl | rfl | rfl
    · exact kTl
    · exact kPt
    · exact kTk
/-- an action on a tray: what it gives, in one word -/
theorem act_do {H : Hp} {p h w : Nat} {g : Grid} {o : Op} {xs : List V} {z : Str} {Q : VK} {E : XK} (T0 : TrayAt K D H p g) (hV : VG h w g) (ho : okOp h w g o) (hx : opV H K o (.str z :: xs)) (f : Addr)
    (hf : f = actOf fTl fPt fTk o)
    (k : ∀ H' tp r v, Same H H' → H' tp = some (.tup [.ref r, v]) → TrayAt K D H' r (stepG h w g o) → resV K H' h w g o v → Q (.ref tp) H') : actS K D fTl fPt fTk f (.ref p :: xs) H Q E := by
  cases o with
  | tl c =>
    have e : V.str z :: xs = [.str (Str.ofString "tilt"), sg c] := hx
    injection e with e1 e2
    subst e2
    exact .inl ⟨hf, p, h, w, c, g, rfl, T0, hV, ho, fun H' tp r s e t => k H' tp r _ s e t rfl⟩
  | pt c i j =>
    obtain ⟨q, e, hq⟩ := hx
    injection e with e1 e2
    subst e2
    obtain ⟨c1, c2, hn, hi, hj, hc⟩ := ho
    exact .inr (.inl ⟨hf, p, q, h, w, c, i, j, g, rfl, T0, hV, c1, c2, hn, hq, hi, hj, hc, fun H' tp r s e t _ => k H' tp r _ s e t rfl⟩)
  | tk c =>
    have e : V.str z :: xs = [.str (Str.ofString "take"), sg c] := hx
    injection e with e1 e2
    subst e2
    obtain ⟨c46, e, hi, hj, ek⟩ := tk_place hV ho
    exact .inr (.inr ⟨hf, p, h, w, c, g.flatten.idxOf c, g, rfl, T0, hV, c46, e, fun H' tp r q s e t _ hq => k H' tp r _ s e t ⟨q, rfl, hq⟩⟩)
end
end TI
end
section
set_option Elab.async false
set_option maxRecDepth 100000
set_option linter.all false
namespace TI
open PySem PySem.Spec PyProof.Rows L2 TM TK TB TP TH TU TW TR
theorem tray_but {K : PySem.W.Frag} {D p r : Addr} {H H' : Hp} {g : Grid} {xs : List V} (h : TrayAt K D H p g) (hr : H r = some (.lst xs)) (b : But r H H') : TrayAt K D H' p g := by
  obtain ⟨dx, a, h1, h2⟩ := h
  have ne : p ≠ r := fun e => by
    rw [e, hr] at h1
    cases h1
  refine ⟨dx, a, b _ _ h1 ne, ?_⟩
  rcases h2 with (h2 | ⟨u, h2⟩) | h2
  · exact .inl (.inl (b _ _ h2 fun e => by rw [e, hr] at h2; cases h2))
  · exact .inl (.inr ⟨u, b _ _ h2 fun e => by rw [e, hr] at h2; cases h2⟩)
  · exact .inr h2
theorem seq_lb {K : PySem.W.Frag} {H H' : Hp} {a r : Addr} {xs ys : List V} (h : SqT K H a xs) (hr : H r = some (.lst ys)) (b : But r H H') : SqT K H' a xs := seq_but h hr (fun _ _ => ⟨by simp, by simp⟩) b
theorem op_head {K : PySem.W.Frag} {H : Hp} {o : Op} {xs : List V} (h : opV H K o xs) : ∃ z r, xs = V.str z :: r ∧ r.length ≤ 2 := by
  cases o with
  | tl c => exact ⟨_, _, h, by simp⟩
  | pt c i j =>
    obtain ⟨q, e, _⟩ := h
    exact ⟨_, _, e, by simp⟩
  | tk c => exact ⟨_, _, h, by simp⟩
theorem act_kd {K : PySem.W.Frag} {w_ : World} {H : Hp} {aA fTl fPt fTk : Addr} {op : Op} {z : Str} {xs : List V} (hx : opV H K op (V.str z :: xs)) (dTl : KDct K w_ aA (Str.ofString "tilt") (.ref fTl)) (dPt : KDct K w_ aA (Str.ofString "put") (.ref fPt)) (dTk : KDct K w_ aA (Str.ofString "take") (.ref fTk)) :
    ∃ fa, actG fTl fPt fTk fa ∧ KDct K w_ aA z (.ref fa) ∧ fa = actOf fTl fPt fTk op := by
  cases op with
  | tl c =>
    have e : V.str z :: xs = [.str (Str.ofString "tilt"), sg c] := hx
    injection e with e1 _
    rw [V.str.inj e1]
    exact ⟨fTl, .inl rfl, dTl, rfl⟩
  | pt c i j =>
    obtain ⟨q, e, hq⟩ := hx
    injection e with e1 _
    rw [V.str.inj e1]
    exact ⟨fPt, .inr (.inl rfl), dPt, rfl⟩
  | tk c =>
    have e : V.str z :: xs = [.str (Str.ofString "take"), sg c] := hx
    injection e with e1 _
    rw [V.str.inj e1]
    exact ⟨fTk, .inr (.inr rfl), dTk, rfl⟩
section
variable {X : Cx} {n : Nat}
theorem psn_asg {tg e : Expr} {te : TE} {g : TG} {pos : Pos} (he : PEn n X e te) (hg : PG X tg g) (hs : swapsWithSole [tg] e pos.line X.env = pure false := by rfl) (hw : swappedStores [tg] e X.env = pure none := by rfl)
    (h1 : (assignEach [tg] X.env).map (·.2) = [assign tg X.env] := by rfl) : PSn n X (.Assign [tg] e pos) (tAsg te g) := by
  intro pins s σ H D hn I h
  refine wpAny_Assign_stores (thn (he pins s σ H _ hn I h) fun v s1 ⟨x, H1, I1, r1, q1⟩ => ?_) hs hw
  rw [h1]
  exact thn (hg.run pins s1 σ H1 x v _ I1 r1 q1) fun _ s2 q => q
end
section
variable {P : Program} {w_ : World} {K : PySem.W.Frag} {mg : Str → Option Value} {base : Heap} {n : Nat} {L D fTl fPt fTk fIo fEs aS aA pP gP : Addr} {fdIo fdEs fdP : FuncData}
/-- what apply uses -/
structure ApF (P : Program) (w_ : World) (K : PySem.W.Frag) (mg : Str → Option Value) (base : Heap) (n : Nat) (L D aS : Addr) : Prop where
  cl : ClsL K mg L
  enu : mg "enumerate" = none
  tup : mg "tuple" = none
  fIo : ∃ g fd, FnOk P w_ K mg base CX0 1 g fd ["value"] (spIo K w_ aS) ∧ PySem.W.keepIn K (.ref g) = true ∧ Binds K fd ["value"] [] ∧ mg "_is_operation" = some (.ref g)
  pPr : ∃ p g fd, PropOf K L "present_tray" p g ∧ FnOk P w_ K mg base CX0 1 g fd ["self"] (spPr K L D) ∧ Binds K fd ["self"] []
  mEs : ∃ g fd, Meth K L "_extend_state" g ∧ FnOk P w_ K mg base CX0 1 g fd ["self", "operations", "later_trays"] (spEs K L D) ∧ Binds K fd ["self", "operations", "later_trays"] []
  act : ∃ aA fTl fPt fTk, mg "ACTIONS" = some (.ref aA) ∧ KDct K w_ aA (Str.ofString "tilt") (.ref fTl) ∧ KDct K w_ aA (Str.ofString "put") (.ref fPt) ∧ KDct K w_ aA (Str.ofString "take") (.ref fTk) ∧
    ∀ g, actG fTl fPt fTk g → FnRn n P w_ K mg base CX0 6 g (actS K D fTl fPt fTk g) ∧ PySem.W.keepIn K (.ref g) = true
  siz : KDct K w_ aS (Str.ofString "tilt") (.int 2) ∧ KDct K w_ aS (Str.ofString "put") (.int 3) ∧ KDct K w_ aS (Str.ofString "take") (.int 2)
abbrev NAp : List Str := ["self", "operations", "index", "operation", "present", "later_trays", "results", "name", "details", "action", "result"]
theorem scAp : FnScope NAp ((["self"] : List Str) ++ (["operations"] : List Str)) (defScope sLiveTrayApply) := ⟨rfl, rfl, rfl, by decide +kernel, rfl, by decide +kernel, by decide +kernel⟩
/-- behind apply -/
def spApC (K : PySem.W.Frag) (L D : Addr) : Sp := fun vs H Q _ => ∃ (p o d h w : Nat) (os ops : List Op) (gs : List Grid) (g : Grid) (xs : List V), vs = [.ref p, .ref o] ∧ LvAt K L D H p os gs d ∧ gs[d]? = some g ∧ VG h w g ∧ SqT K H o xs ∧ All2 (OpAt K H) xs ops ∧ okAll h w g ops ∧ os.length + ops.length ≤ 1000 ∧
  ∀ H' l rs, H' l = some (.lst rs) → rs.length = ops.length → (∀ (k : Nat) v op, rs[k]? = some v → ops[k]? = some op → resV K H' h w (atG h w g ops k) op v) →
    (ops = [] → LvAt K L D H' p os gs d) → (ops ≠ [] → LvAt K L D H' p (os.take d ++ ops) (gs.take (d + 1) ++ runG h w g ops) (d + ops.length)) → But p H H' → Q (.ref l) H'
set_option maxHeartbeats 2000000 in
theorem ok_apC {f : Addr} {fd : FuncData} (F : Fun K "apply" "LiveTray.apply" sLiveTrayApply f fd) (A_ : ApF P w_ K mg base n L D aS) (hb : ∀ us rest : List Value, us.length = (["self"] : List Str).length → bindArgs fd ⟨us ++ rest, []⟩ = (newTuple rest >>= fun t => pure ((["self"] : List Str).zip us ++ [(("operations" : Str), t)]))) :
    FnRn n P w_ K mg base CX0 7 f (fun vs H Q E => ∃ ws rest, vs = ws ++ rest ∧ ws.length = (["self"] : List Str).length ∧ rest.length ≤ sizeLine ∧ ∀ p, H p = none → spApC K L D (ws ++ [V.ref p]) (upd H p (.tup rest)) Q E) := by
  obtain ⟨gIo, fdIo, GIo, kIo, bIo, mIo⟩ := A_.fIo
  obtain ⟨pP, gP, fdP, PP, GP_, bP⟩ := A_.pPr
  obtain ⟨gE, fdE, ME, GE, bE⟩ := A_.mEs
  obtain ⟨aA, fTl, fPt, fTk, mA, dTl, dPt, dTk, GA⟩ := A_.act
  obtain ⟨zTl, zPt, zTk⟩ := A_.siz
  have CL := A_.cl
  refine fn_starN F scAp StX.cxUp_none hb fun cdv A outer s H vs Q E hr h => ?_
  obtain ⟨p, o, d, h, w, os, ops, gs, g, xs, rfl, hL, hg, hV, ho, ao, hok, hz, k⟩ := h
  have nd := scAp.nd
  have r1 : Room 1 _ := hr.mono (by decide)
  have r2 : Room 2 _ := hr.mono (by decide)
  refine ⟨_, pssn_cut (PS.up (ps_for PassesOwn.never rfl (pi_enumT (by rfl) A_.enu (pa_cons (pv 1) pa_nil)) (pg_tup rfl (pgs_cons (pg_name (i := 2) nd rfl (.inl rfl)) (pgs_cons (pg_name (i := 3) nd rfl (.inl rfl)) pgs_nil)))
      (pss_one (ps_if (pt_not (pt_val (pe_call GIo r1 rfl mIo kIo bIo .nil pass0 (pa_cons (pv 3) pa_nil)))) pss_never pss_nil))))
    (pssn_cut (PS.up (ps_set (i := 4) nd rfl (.inl rfl) (pe_prop (pv 0) CL.cl PP GP_ r2 bP .nil pass0 rfl)))
    (pssn_cut (PS.up (ps_set (i := 5) nd rfl (.inl rfl) (pe_lst pa_nil)))
    (pssn_cut (PS.up (ps_set (i := 6) nd rfl (.inl rfl) (pe_lst pa_nil)))
    (pssn_cut (psn_for PassesOwn.never rfl (pi_tup (pv 1)) (pg_star rfl (pgs_cons (pg_name (i := 7) nd rfl (.inl rfl)) (pgs_cons (pg_name (i := 8) nd rfl (.inl rfl)) pgs_nil)))
      (pssn_cut (PS.up (ps_set (i := 9) nd rfl (.inl rfl) (pe_ix ix_kdict (pe_glob (v := .ref aA) rfl mA rfl) (pv 7) (fun _ _ => rfl))))
      (pssn_cut (psn_asg (pen_callVS GA hr pass0 (pv 9) (pa_cons (pv 4) (StX.pa_star (pv 8) pa_nil))) (pg_tup (by rfl) (pgs_cons (pg_name (i := 4) nd rfl (.inl rfl)) (pgs_cons (pg_name (i := 10) nd rfl (.inl rfl)) pgs_nil))))
      (pssn_cut (PS.up (ps_expr (pe_bm PySem.F.plainAttrs_list PySem.F.slot_list_append PySem.F.type_list_append mt_append (pv 5) (pa_cons (pv 4) pa_nil))))
      (pssn_one (PS.up (ps_expr (pe_bm PySem.F.plainAttrs_list PySem.F.slot_list_append PySem.F.type_list_append mt_append (pv 6) (pa_cons (pv 10) pa_nil)))))))))
    (pssn_cut (psn_if (PT.up (pt_truth (pv 1) (by intro _; rfl))) (PSs.up (pss_one (ps_expr (pe_meth (pv 0) CL.cl ME GE r1 bE .nil pass0 (pa_cons (pv 1) (pa_cons (pe_callTy call_tuple_of (by rfl) A_.tup (by decide +kernel) (pa_cons (pv 5) pa_nil)) pa_nil)))))) (PSs.up pss_nil))
    (pssn_one (PS.up (ps_ret (pv 6))))))))), ?_⟩
  -- all are operations
  refine ⟨fun σ H1 => ∃ v2 v3, σ = [some (.ref p), some (.ref o), v2, v3, none, none, none, none, none, none, none] ∧ Same H H1, ?_, ?_⟩
  · refine ⟨_, rfl, o, xs, rfl, ho, for_it (walk_enumT (K := K) (a := o) (xs := xs)) (fun i σ H1 => ∃ v2 v3, σ = [some (.ref p), some (.ref o), v2, v3, none, none, none, none, none, none, none] ∧ Same H H1) ⟨none, none, rfl, Same.refl H⟩ (fun i σ H1 _ ⟨_, _, _, s⟩ => s.tup ho) ?_ fun σ H1 z => z⟩
    rintro i x σ H1 H2 hi ⟨v2, v3, rfl, s1⟩ ⟨T_, y, rfl, hT, rfl, hy⟩
    have s2 := same_new (o := .tup [.int (i : Nat), y]) hT
    have hi2 : i < ops.length := by rw [← ao.1]; exact hi
    obtain ⟨a, ys, rfl, hS, hx⟩ := ao.2 i y ops[i] hy (List.getElem?_eq_getElem hi2)
    refine ⟨T_, _, rfl, SqT.of upd_same, rfl, _, _, rfl, _, _, rfl, rfl, ?_⟩
    have s12 := s1.trans s2
    have kd : ∃ z r, ys = V.str z :: r ∧ r.length ≤ 2 ∧ KDct K w_ aS z (.int ((r.length + 1 : Nat) : Int)) := by
      generalize ops[i] = op at hx
      cases op with
      | tl c => exact ⟨_, _, hx, by simp, zTl⟩
      | pt c i j =>
        obtain ⟨q, e, _⟩ := hx
        exact ⟨_, _, e, by simp, zPt⟩
      | tk c => exact ⟨_, _, hx, by simp, zTk⟩
    obtain ⟨z, r, rfl, r2', kd⟩ := kd
    exact ⟨_, rfl, a, z, r, rfl, s12.tup hS, by omega, kd, true, rfl, iteF ⟨_, _, rfl, s12⟩⟩
  rintro σ H1 ⟨v2, v3, rfl, s1⟩
  -- the present tray, two lists
  refine ⟨fun σ H2 => ∃ r, σ = [some (.ref p), some (.ref o), v2, v3, some (.ref r), none, none, none, none, none, none] ∧ Same H H2 ∧ TrayAt K D H2 r g, ?_, ?_⟩
  · have hL1 := hL.same s1
    obtain ⟨dx, st, hp, _⟩ := id hL1
    exact ⟨_, rfl, p, dx, _, rfl, hp, p, d, os, gs, g, rfl, hL1, hg, fun r tr => ⟨r, rfl, s1, tr⟩⟩
  rintro σ H2 ⟨r0, rfl, s2, t2⟩
  clear s1 H1
  refine ⟨fun σ H3 => ∃ lt, σ = [some (.ref p), some (.ref o), v2, v3, some (.ref r0), some (.ref lt), none, none, none, none, none] ∧ Same H H3 ∧ TrayAt K D H3 r0 g ∧ H lt = none ∧ H3 lt = some (.lst []), ?_, ?_⟩
  · refine ⟨(by show 0 ≤ sizeLine; decide), fun l hl => ?_⟩
    have sl := same_new (o := .lst []) hl
    refine ⟨l, rfl, s2.trans sl, t2.same sl, ?_, upd_same⟩
    cases e : H l with
    | none => rfl
    | some x => rw [s2 _ _ e] at hl; cases hl
  rintro σ H3 ⟨lt, rfl, s3, t3, flt, hlt⟩
  clear s2 t2 H2
  refine ⟨fun σ H4 => ∃ lr, σ = [some (.ref p), some (.ref o), v2, v3, some (.ref r0), some (.ref lt), some (.ref lr), none, none, none, none] ∧ Same H H4 ∧ TrayAt K D H4 r0 g ∧ H lr = none ∧ lt ≠ lr ∧ H4 lt = some (.lst []) ∧ H4 lr = some (.lst []), ?_, ?_⟩
  · refine ⟨(by show 0 ≤ sizeLine; decide), fun l hl => ?_⟩
    have sl := same_new (o := .lst []) hl
    refine ⟨l, rfl, s3.trans sl, t3.same sl, ?_, ne_of_none hlt hl, sl _ _ hlt, upd_same⟩
    cases e : H l with
    | none => rfl
    | some x => rw [s3 _ _ e] at hl; cases hl
  rintro σ H4 ⟨lr, rfl, s4, t4, flr, nlr, hlt4, hlr4⟩
  clear s3 t3 hlt H3
  have freshN : ∀ {b : Addr} {H' : Hp} {x : HO}, H b = none → Same H H' → Same H (upd H' b x) := fun {b H' x} hb s c o' e => by
    have ne : c ≠ b := fun z => by rw [z, hb] at e; cases e
    rw [upd_ne ne]
    exact s c o' e
  have a4 := ao.imp fun x y (z : OpAt K H x y) => z
  -- each operation
  refine ⟨fun σ H5 => ∃ r w2 w3 w7 w8 w9 w10 ts rs, σ = [some (.ref p), some (.ref o), w2, w3, some (.ref r), some (.ref lt), some (.ref lr), w7, w8, w9, w10] ∧ Same H H5 ∧ H5 lt = some (.lst ts) ∧ All2 (TrV K D H5) ts (runG h w g ops) ∧ H5 lr = some (.lst rs) ∧ rs.length = ops.length ∧ (∀ (k : Nat) v op, rs[k]? = some v → ops[k]? = some op → resV K H5 h w (atG h w g ops k) op v), ?_, ?_⟩
  · refine ⟨_, rfl, o, rfl, ⟨_, s4.tup ho⟩, for_tup (K := K) (a := o) (xs := xs) (fun i σ H5 => ∃ r w7 w8 w9 w10 ts rs, σ = [some (.ref p), some (.ref o), v2, v3, some (.ref r), some (.ref lt), some (.ref lr), w7, w8, w9, w10] ∧ Same H H5 ∧ TrayAt K D H5 r (atG h w g ops i) ∧ H5 lt = some (.lst ts) ∧ All2 (TrV K D H5) ts ((runG h w g ops).take i) ∧ H5 lr = some (.lst rs) ∧ rs.length = i ∧
        (∀ (k : Nat) v op, rs[k]? = some v → ops[k]? = some op → resV K H5 h w (atG h w g ops k) op v))
      ⟨r0, none, none, none, none, [], [], rfl, s4, t4, hlt4, ⟨rfl, fun k x y z => by simp at z⟩, hlr4, rfl, fun k v op z => by simp at z⟩ (fun i σ H5 _ ⟨_, _, _, _, _, _, _, _, s, _⟩ => s.tup ho) ?_ ?_⟩
    · rintro i x σ H5 hx ⟨r, w7, w8, w9, w10, ts, rs, rfl, s5, t5, hts, ats, hrs, lrs, vrs⟩
      have hi1 := (List.getElem?_eq_some_iff.mp hx).1
      have hi2 : i < ops.length := by rw [← ao.1]; exact hi1
      have hop : ops[i]? = some ops[i] := List.getElem?_eq_getElem hi2
      generalize ops[i] = op at hop
      obtain ⟨a, ys, rfl, hS, hxv⟩ := ao.2 i x op hx hop
      have hok1 := atG_ok hok hop
      have hV1 := atG_VG i hV hok
      obtain ⟨z, ys', rfl, _⟩ := op_head hxv
      have hxv5 : opV H5 K op (V.str z :: ys') := by
        cases op with
        | tl c => exact hxv
        | pt c i j =>
          obtain ⟨q, e, hq⟩ := hxv
          exact ⟨q, e, s5.tup hq⟩
        | tk c => exact hxv
      have kd : ∃ fa, actG fTl fPt fTk fa ∧ KDct K w_ aA z (.ref fa) ∧ fa = actOf fTl fPt fTk op := act_kd hxv dTl dPt dTk
      obtain ⟨fa, hG, hK, hf⟩ := kd
      refine ⟨a, .str z, ys', rfl, s5.tup hS, fun l hl => ⟨_, _, rfl, _, _, rfl, rfl, ?_⟩⟩
      have sl := same_new (o := .lst ys') hl
      have el : upd H5 l (.lst ys') l = some (.lst ys') := upd_same
      generalize upd H5 l (.lst ys') = H6 at sl el
      have s6 := s5.trans sl
      -- the action
      refine ⟨fun σ H7 => σ = [some (.ref p), some (.ref o), v2, v3, some (.ref r), some (.ref lt), some (.ref lr), some (.str z), some (.ref l), some (.ref fa), w10] ∧ H7 = H6, ?_, ?_⟩
      · exact ⟨_, rfl, aA, z, _, rfl, rfl, hK, rfl, rfl⟩
      rintro σ H7 ⟨rfl, rfl⟩
      refine ⟨fun σ H8 => ∃ r2 v, σ = [some (.ref p), some (.ref o), v2, v3, some (.ref r2), some (.ref lt), some (.ref lr), some (.str z), some (.ref l), some (.ref fa), some v] ∧ Same H7 H8 ∧ TrayAt K D H8 r2 (stepG h w (atG h w g ops i) op) ∧ resV K H8 h w (atG h w g ops i) op v, ?_, ?_⟩
      · refine ⟨_, rfl, fa, rfl, hG, _, rfl, _, rfl, l, ys', rfl, .inr (SqL.of el), ?_⟩
        show actS K D fTl fPt fTk fa (V.ref r :: (ys' ++ [])) H7 _ _
        rw [List.append_nil]
        have hxv6 : opV H7 K op (V.str z :: ys') := by
          cases op with
          | tl c => exact hxv5
          | pt c i j =>
            obtain ⟨q, e, hq⟩ := hxv5
            exact ⟨q, e, sl.tup hq⟩
          | tk c => exact hxv5
        exact act_do (t5.same sl) hV1 hok1 hxv6 fa hf fun H8 tp r2 v s8 etp t8 rv => ⟨tp, _, rfl, SqT.of etp, rfl, _, _, rfl, _, _, rfl, rfl, r2, v, rfl, s8, t8, rv⟩
      rintro σ H8 ⟨r2, v, rfl, s8, t8, rv⟩
      have s58 := sl.trans s8
      have hts8 := s58 _ _ hts
      have hrs8 := s58 _ _ hrs
      have tlen : ts.length = i := by
        rw [ats.1, List.length_take, runG_len]
        omega
      have zle : ∀ {n : Nat}, n ≤ 1000 → n < sizeLine := fun {n} hn => by show n < 16777216; omega
      refine ⟨fun σ H9 => σ = [some (.ref p), some (.ref o), v2, v3, some (.ref r2), some (.ref lt), some (.ref lr), some (.str z), some (.ref l), some (.ref fa), some v] ∧ H9 = upd H8 lt (.lst (ts ++ [.ref r2])), ?_, ?_⟩
      · exact ⟨_, rfl, .inl ⟨rfl, _, SqL.of hts8⟩, _, rfl, lt, ts, _, rfl, rfl, hts8, zle (by omega), rfl, rfl⟩
      rintro σ H9 ⟨rfl, rfl⟩
      have b9 : But lt H8 (upd H8 lt (.lst (ts ++ [.ref r2]))) := fun b o' e hb => by rw [upd_ne hb]; exact e
      have hrs9 : upd H8 lt (.lst (ts ++ [.ref r2])) lr = some (.lst rs) := b9 _ _ hrs8 (Ne.symm nlr)
      have e9 : upd H8 lt (.lst (ts ++ [.ref r2])) lt = some (.lst (ts ++ [.ref r2])) := upd_same
      have s9 : Same H (upd H8 lt (.lst (ts ++ [.ref r2]))) := freshN flt (s6.trans s8)
      generalize upd H8 lt (.lst (ts ++ [.ref r2])) = H9 at b9 hrs9 e9 s9
      refine ⟨_, rfl, .inl ⟨rfl, _, SqL.of hrs9⟩, _, rfl, lr, rs, _, rfl, rfl, hrs9, zle (by omega), ?_⟩
      have b10 : But lr H9 (upd H9 lr (.lst (rs ++ [v]))) := fun b o' e hb => by rw [upd_ne hb]; exact e
      have e10 : upd H9 lr (.lst (rs ++ [v])) lr = some (.lst (rs ++ [v])) := upd_same
      have s10 : Same H (upd H9 lr (.lst (rs ++ [v]))) := freshN flr s9
      have e10t : upd H9 lr (.lst (rs ++ [v])) lt = some (.lst (ts ++ [.ref r2])) := b10 _ _ e9 nlr
      generalize upd H9 lr (.lst (rs ++ [v])) = H10 at b10 e10 s10 e10t
      have tr10 : ∀ {q : Addr} {gg : Grid}, TrayAt K D H8 q gg → TrayAt K D H10 q gg := fun tq => tray_but (tray_but tq hts8 b9) hrs9 b10
      have tup10 : ∀ b xs', H8 b = some (.tup xs') → H10 b = some (.tup xs') := fun b xs' e => b10 _ _ (b9 _ _ e fun y => by rw [y, hts8] at e; cases e) fun y => by
        have e2 := b9 _ _ e fun y => by rw [y, hts8] at e; cases e
        rw [y, hrs9] at e2
        cases e2
      refine ⟨r2, _, _, _, _, ts ++ [.ref r2], rs ++ [v], rfl, s10, ?_, e10t, ?_, e10, by rw [List.length_append, lrs]; rfl, fun k v' op' hv hop' => ?_⟩
      · rw [atG_next hop]
        exact tr10 t8
      · rw [runG_take hop, atG_next hop]
        refine All2.app (ats.imp fun x y ⟨q, e, tq⟩ => ⟨q, e, tr10 (tq.same s58)⟩) ⟨rfl, fun k x y hx hy => ?_⟩
        cases k with
        | zero =>
          cases hx
          cases hy
          exact ⟨r2, rfl, tr10 t8⟩
        | succ k => simp at hx
      · rcases Nat.lt_or_ge k rs.length with hk | hk
        · rw [List.getElem?_append_left hk] at hv
          exact resV_same (resV_same (vrs k v' op' hv hop') fun b xs' e => s58 _ _ e) tup10
        · rw [List.getElem?_append_right hk] at hv
          have k0 : k = i := by
            have := (List.getElem?_eq_some_iff.mp hv).1
            simp at this
            omega
          subst k0
          rw [lrs, Nat.sub_self] at hv
          cases hv
          rw [hop] at hop'
          cases hop'
          exact resV_same rv tup10
    · rintro σ H5 ⟨r, w7, w8, w9, w10, ts, rs, rfl, s5, t5, hts, ats, hrs, lrs, vrs⟩
      rw [ao.1, List.take_of_length_le (by rw [runG_len]; exact Nat.le_refl _)] at ats
      exact ⟨r, _, _, _, _, _, _, ts, rs, rfl, s5, hts, ats, hrs, by rw [lrs, ao.1], vrs⟩
  rintro σ H5 ⟨r, w2, w3, w7, w8, w9, w10, ts, rs, rfl, s5, hts, ats, hrs, lrs, vrs⟩
  clear s4 t4 hlt4 hlr4 H4
  obtain ⟨dx, st, hp, hSt⟩ := id hL
  have hp5 := s5 _ _ hp
  have nlp : lr ≠ p := fun z => by rw [z, hp] at flr; cases flr
  -- the state
  refine ⟨fun σ H6 => σ = [some (.ref p), some (.ref o), w2, w3, some (.ref r), some (.ref lt), some (.ref lr), w7, w8, w9, w10] ∧ H6 lr = some (.lst rs) ∧ (∀ (k : Nat) v op, rs[k]? = some v → ops[k]? = some op → resV K H6 h w (atG h w g ops k) op v) ∧
    (ops = [] → LvAt K L D H6 p os gs d) ∧ (ops ≠ [] → LvAt K L D H6 p (os.take d ++ ops) (gs.take (d + 1) ++ runG h w g ops) (d + ops.length)) ∧ But p H H6, ?_, ?_⟩
  · refine ⟨_, rfl, !xs.isEmpty, .inr (.inl ⟨xs, s5.tup ho, rfl⟩), ?_⟩
    by_cases hx : xs = []
    · have ho0 : ops = [] := by
        have := ao.1
        rw [hx] at this
        exact List.eq_nil_of_length_eq_zero this.symm
      rw [show (!xs.isEmpty) = false by rw [hx]; rfl]
      exact iteF ⟨rfl, hrs, vrs, fun _ => hL.same s5, fun z => absurd ho0 z, But.same s5⟩
    · have ho1 : ops ≠ [] := fun z => by
        have := ao.1
        rw [z] at this
        exact hx (List.eq_nil_of_length_eq_zero this)
      rw [show (!xs.isEmpty) = true by
        cases xs with
        | nil => exact absurd rfl hx
        | cons _ _ => rfl]
      refine iteT ⟨_, rfl, p, dx, _, rfl, hp5, rfl, _, rfl, _, rfl, lt, ts, rfl, .inl ⟨SqL.of hts, fun tl htl => ?_⟩⟩
      have sT := same_new (o := .tup ts) htl
      have eT : upd H5 tl (.tup ts) tl = some (.tup ts) := upd_same
      generalize upd H5 tl (.tup ts) = H6 at sT eT
      have s6 := s5.trans sT
      have hp6 := s6 _ _ hp
      refine ⟨p, o, tl, d, os, ops, gs, runG h w g ops, xs, ts, rfl, hL.same s6, s6.tup ho, ao.imp fun x y z => z.same s6, SqT.of eT, ats.imp fun x y ⟨q, e, tq⟩ => ⟨q, e, tq.same sT⟩, runG_len h w ops g, hz, fun H7 hL7 b7 => ?_⟩
      refine ⟨rfl, b7 _ _ (sT _ _ hrs) nlp, fun k v op hv hop => resV_same (vrs k v op hv hop) fun b xs' e => b7 _ _ (sT _ _ e) fun z => ?_, fun z => absurd z ho1, fun _ => hL7, (But.same s6).trans b7⟩
      have e6 := sT _ _ e
      rw [z, hp6] at e6
      cases e6
  rintro σ H6 ⟨rfl, hrs6, vrs6, l1, l2, b6⟩
  exact ⟨_, rfl, k H6 lr rs hrs6 lrs vrs6 l1 l2 b6⟩
end
end TI
end
section
set_option Elab.async false
set_option maxRecDepth 100000
set_option linter.all false
namespace TI
open PySem PySem.Spec PyProof.Rows L2 TM TK TB TP TH TU TW TR
section
variable {X : Cx} {CX : CXT} {n k : Nat}
/-- o.m(e, ..) where tokens are out -/
theorem pen_methR {C f : Addr} {m : Str} {sp : Sp} {E : XK} {o e : Expr} {es : List Expr} {ta : TE} {t : TA} {apos pos : Pos} {pl : Sem Bool} (he : PE X o ta) (c : Cls X.K C) (hm : Meth X.K C m f) (F : FnRn n X.prog X.w X.K X.mg X.base CX k f sp) (hr : Room k X.A) (hx : Passes CX X E) (ha : PA X (e :: es) t)
    (ht : eval (.Call (.Attribute o m apos) (e :: es) [] pos) X.env = (do let ov ← eval o X.env; standAt apos.atName; let (f, first) ← holding [ov] (getMethod ov m pl); callWith pos f first (backTo pos (starEach (e :: es) X.env)) (backToKw pos (keywordEach [] X.env))) := by rfl)
    (hst : starEach (e :: es) X.env = (false, eval e X.env) :: starEach es X.env := by rfl) (hpl : (backTo pos (starEach es X.env)).any (·.1) = false := by rfl) : PEn n X (.Call (.Attribute o m apos) (e :: es) [] pos) (tMethR C m sp E ta t) := by
  intro pins s σ H Q hn I h
  refine PySem.W.methodCall_KW (pl := pl) (thnN hn (he.run pins s σ H _ I h) fun u s1 hn1 ⟨x, H1, I1, rx, a, dx, fs, ex, ea, l, q⟩ => ?_) ht
  subst ex
  obtain rfl : u = Value.ref a := rx
  refine getmeth_ok I1 ea c hm l ?_
  refine PySem.W.callWith_K (first := [.ref a]) (h₀ := X.base) I.ok.mod.kin hm.kp (thnN hn1 (ha.run pos pins s1 σ H1 _ I1 q) fun us s2 hn2 ⟨vs, H2, I2, r, q2⟩ => ⟨I2.kIn, ?_⟩) hst hpl
  exact wpAny_call (run_fnRn (us := .ref a :: us) (vs := .ref a :: vs) hn2 F hr hx I2 (.cons rfl r) q2)
end
/-- the promise of apply, as its callers see it -/
def spAy (K : PySem.W.Frag) (L D : Addr) : Sp := fun vs H Q E => ∃ ws rest, vs = ws ++ rest ∧ ws.length = (["self"] : List Str).length ∧ rest.length ≤ sizeLine ∧ ∀ p, H p = none → spApC K L D (ws ++ [V.ref p]) (upd H p (.tup rest)) Q E
/-- one operation -/
theorem ay_one {K : PySem.W.Frag} {L D p d h w a : Nat} {os : List Op} {gs : List Grid} {g : Grid} {op : Op} {xs : List V} {H : Hp} {Q : VK} {E : XK} (hL : LvAt K L D H p os gs d) (hg : gs[d]? = some g) (hV : VG h w g) (hS : SqT K H a xs) (hx : opV H K op xs) (ho : okOp h w g op) (hz : os.length + 1 ≤ 1000)
    (k : ∀ H' l v, H' l = some (.lst [v]) → resV K H' h w g op v → LvAt K L D H' p (os.take d ++ [op]) (gs.take (d + 1) ++ [stepG h w g op]) (d + 1) → But p H H' → Q (.ref l) H') : spAy K L D [.ref p, .ref a] H Q E := by
  refine ⟨[.ref p], [.ref a], rfl, rfl, (by show 1 ≤ sizeLine; decide), fun o ho' => ?_⟩
  have so := same_new (o := .tup [V.ref a]) ho'
  have eo : upd H o (.tup [V.ref a]) o = some (.tup [V.ref a]) := upd_same
  generalize upd H o (.tup [V.ref a]) = H1 at so eo
  have hx1 : opV H1 K op xs := by
    cases op with
    | tl c => exact hx
    | pt c i j =>
      obtain ⟨q, e, hq⟩ := hx
      exact ⟨q, e, so.tup hq⟩
    | tk c => exact hx
  refine ⟨p, o, d, h, w, os, [op], gs, g, [.ref a], rfl, hL.same so, hg, hV, SqT.of eo, ⟨rfl, fun i x y e1 e2 => ?_⟩, ⟨ho, trivial⟩, hz, fun H' l rs hl lrs vrs _ l2 b => ?_⟩
  · cases i with
    | zero =>
      cases e1
      cases e2
      exact ⟨a, xs, rfl, so.tup hS, hx1⟩
    | succ i => simp at e1
  · have lrs : rs.length = 1 := lrs
    match rs, lrs with
    | [v], _ => exact k H' l v hl (vrs 0 v op rfl rfl) (l2 (by simp)) ((But.same so).trans b)
section
variable {P : Program} {w_ : World} {K : PySem.W.Frag} {mg : Str → Option Value} {base : Heap} {n : Nat} {L D fAy : Addr}
abbrev NTi_ : List Str := ["self", "tilt", "results"]
theorem scMt : FnScope NTi_ ["self", "tilt"] (defScope sLiveTrayTilt) := ⟨rfl, rfl, rfl, by decide +kernel, rfl, by decide +kernel, by decide +kernel⟩
/-- behind one operation -/
def spOne (K : PySem.W.Frag) (L D : Addr) (op : Op) (args : Hp → List V → Prop) : Sp := fun vs H Q _ => ∃ (p d h w : Nat) (as : List V) (os : List Op) (gs : List Grid) (g : Grid), vs = .ref p :: as ∧ args H as ∧ LvAt K L D H p os gs d ∧ gs[d]? = some g ∧ VG h w g ∧ okOp h w g op ∧ os.length + 1 ≤ 1000 ∧
  ∀ H' v, resV K H' h w g op v → LvAt K L D H' p (os.take d ++ [op]) (gs.take (d + 1) ++ [stepG h w g op]) (d + 1) → But p H H' → Q v H'
theorem ok_mt {f : Addr} {fd : FuncData} (F : Fun K "tilt" "LiveTray.tilt" sLiveTrayTilt f fd) (b : Binds K fd ["self", "tilt"] []) (CL : ClsL K mg L) (MA : Meth K L "apply" fAy) (GA : FnRn n P w_ K mg base CX0 7 fAy (spAy K L D)) (c : Nat) : FnRn n P w_ K mg base CX0 8 f (spOne K L D (.tl c) fun _ as => as = [sg c]) := by
  refine fn_n F b scMt (fun vs H Q E h => ?_) fun cdv A outer s H vs Q E hr h => ?_
  · obtain ⟨p, d, h, w, as, os, gs, g, rfl, rfl, _⟩ := h
    rfl
  · obtain ⟨p, d, h, w, as, os, gs, g, rfl, rfl, hL, hg, hV, ho, hz, k⟩ := h
    have nd := scMt.nd
    refine ⟨_, pssn_cut (psn_set (i := 2) nd rfl (.inl rfl) (pen_methR (pv 0) CL.cl MA GA hr pass0 (pa_cons (pe_tup (pa_cons pe_str (pa_cons (pv 1) pa_nil))) pa_nil)))
      (pssn_one (PS.up (ps_ret (pe_ix ix_list (pv 2) pe_int (fun _ _ => rfl))))), ?_⟩
    obtain ⟨dx, st, hp, _⟩ := id hL
    refine ⟨fun σ H1 => ∃ l v, σ = [some (.ref p), some (sg c), some (.ref l)] ∧ H1 l = some (.lst [v]) ∧ Q v H1, ?_, ?_⟩
    · refine ⟨_, rfl, p, dx, _, rfl, hp, rfl, _, rfl, (by show 2 ≤ sizeLine; decide), fun a ha => ?_⟩
      have sa := same_new (o := .tup [V.str (Str.ofString "tilt"), sg c]) ha
      refine ay_one (hL.same sa) hg hV (SqT.of upd_same) (op := .tl c) rfl ho hz fun H' l v hl hv hL' hb => ⟨l, v, rfl, hl, k H' v hv hL' ((But.same sa).trans hb)⟩
    rintro σ H1 ⟨l, v, rfl, hl, q⟩
    exact ⟨_, rfl, l, _, 0, _, rfl, rfl, SqL.of hl, rfl, q⟩
abbrev NMp : List Str := ["self", "marble", "place", "results"]
theorem scMp : FnScope NMp ["self", "marble", "place"] (defScope sLiveTrayPut) := ⟨rfl, rfl, rfl, by decide +kernel, rfl, by decide +kernel, by decide +kernel⟩
theorem ok_mp {f : Addr} {fd : FuncData} (F : Fun K "put" "LiveTray.put" sLiveTrayPut f fd) (b : Binds K fd ["self", "marble", "place"] []) (CL : ClsL K mg L) (MA : Meth K L "apply" fAy) (GA : FnRn n P w_ K mg base CX0 7 fAy (spAy K L D)) (c i j : Nat) :
    FnRn n P w_ K mg base CX0 8 f (spOne K L D (.pt c i j) fun H as => ∃ q, as = [sg c, .ref q] ∧ SqT K H q [.int (i : Nat), .int (j : Nat)]) := by
  refine fn_n F b scMp (fun vs H Q E h => ?_) fun cdv A outer s H vs Q E hr h => ?_
  · obtain ⟨p, d, h, w, as, os, gs, g, rfl, ⟨q, rfl, _⟩, _⟩ := h
    rfl
  · obtain ⟨p, d, h, w, as, os, gs, g, rfl, ⟨q, rfl, hq⟩, hL, hg, hV, ho, hz, k⟩ := h
    have nd := scMp.nd
    refine ⟨_, pssn_cut (psn_set (i := 3) nd rfl (.inl rfl) (pen_methR (pv 0) CL.cl MA GA hr pass0 (pa_cons (pe_tup (pa_cons pe_str (pa_cons (pv 1) (pa_cons (pv 2) pa_nil)))) pa_nil)))
      (pssn_one (PS.up (ps_ret (pe_ix ix_list (pv 3) pe_int (fun _ _ => rfl))))), ?_⟩
    obtain ⟨dx, st, hp, _⟩ := id hL
    refine ⟨fun σ H1 => ∃ l v, σ = [some (.ref p), some (sg c), some (.ref q), some (.ref l)] ∧ H1 l = some (.lst [v]) ∧ Q v H1, ?_, ?_⟩
    · refine ⟨_, rfl, p, dx, _, rfl, hp, rfl, _, rfl, _, rfl, (by show 3 ≤ sizeLine; decide), fun a ha => ?_⟩
      have sa := same_new (o := .tup [V.str (Str.ofString "put"), sg c, V.ref q]) ha
      refine ay_one (hL.same sa) hg hV (SqT.of upd_same) (op := .pt c i j) ⟨q, rfl, sa.tup hq⟩ ho hz fun H' l v hl hv hL' hb => ⟨l, v, rfl, hl, k H' v hv hL' ((But.same sa).trans hb)⟩
    rintro σ H1 ⟨l, v, rfl, hl, q⟩
    exact ⟨_, rfl, l, _, 0, _, rfl, rfl, SqL.of hl, rfl, q⟩
abbrev NMk : List Str := ["self", "marble", "results"]
theorem scMk : FnScope NMk ["self", "marble"] (defScope sLiveTrayTake) := ⟨rfl, rfl, rfl, by decide +kernel, rfl, by decide +kernel, by decide +kernel⟩
theorem ok_mk {f : Addr} {fd : FuncData} (F : Fun K "take" "LiveTray.take" sLiveTrayTake f fd) (b : Binds K fd ["self", "marble"] []) (CL : ClsL K mg L) (MA : Meth K L "apply" fAy) (GA : FnRn n P w_ K mg base CX0 7 fAy (spAy K L D)) (c : Nat) : FnRn n P w_ K mg base CX0 8 f (spOne K L D (.tk c) fun _ as => as = [sg c]) := by
  refine fn_n F b scMk (fun vs H Q E h => ?_) fun cdv A outer s H vs Q E hr h => ?_
  · obtain ⟨p, d, h, w, as, os, gs, g, rfl, rfl, _⟩ := h
    rfl
  · obtain ⟨p, d, h, w, as, os, gs, g, rfl, rfl, hL, hg, hV, ho, hz, k⟩ := h
    have nd := scMk.nd
    refine ⟨_, pssn_cut (psn_set (i := 2) nd rfl (.inl rfl) (pen_methR (pv 0) CL.cl MA GA hr pass0 (pa_cons (pe_tup (pa_cons pe_str (pa_cons (pv 1) pa_nil))) pa_nil)))
      (pssn_one (PS.up (ps_ret (pe_ix ix_list (pv 2) pe_int (fun _ _ => rfl))))), ?_⟩
    obtain ⟨dx, st, hp, _⟩ := id hL
    refine ⟨fun σ H1 => ∃ l v, σ = [some (.ref p), some (sg c), some (.ref l)] ∧ H1 l = some (.lst [v]) ∧ Q v H1, ?_, ?_⟩
    · refine ⟨_, rfl, p, dx, _, rfl, hp, rfl, _, rfl, (by show 2 ≤ sizeLine; decide), fun a ha => ?_⟩
      have sa := same_new (o := .tup [V.str (Str.ofString "take"), sg c]) ha
      refine ay_one (hL.same sa) hg hV (SqT.of upd_same) (op := .tk c) rfl ho hz fun H' l v hl hv hL' hb => ⟨l, v, rfl, hl, k H' v hv hL' ((But.same sa).trans hb)⟩
    rintro σ H1 ⟨l, v, rfl, hl, q⟩
    exact ⟨_, rfl, l, _, 0, _, rfl, rfl, SqL.of hl, rfl, q⟩
abbrev NUn : List Str := ["self", "operations", "trays", "done"]
theorem scUn : FnScope NUn ["self"] (defScope sLiveTrayUndo) := ⟨rfl, rfl, rfl, by decide +kernel, rfl, by decide +kernel, by decide +kernel⟩
def spUn (K : PySem.W.Frag) (L D : Addr) : Sp := fun vs H Q _ => ∃ (p d : Nat) (os : List Op) (gs : List Grid), vs = [.ref p] ∧ LvAt K L D H p os gs d ∧ (d = 0 → Q (.bl false) H) ∧ (1 ≤ d → ∀ H', LvAt K L D H' p os gs (d - 1) → But p H H' → Q (.bl true) H')
theorem st_put {K : PySem.W.Frag} {L D dx st p tp o tr : Addr} {d' : Nat} {u : V} {H H5 : Hp} {os : List Op} {gs : List Grid} {xs ts : List V} (hp : H p = some (LO L dx st u)) (h2 : SqT K H o xs) (h3 : SqT K H tr ts) (h4 : All2 (OpAt K H) xs os) (h5 : All2 (TrV K D H) ts gs) (s5 : Same H H5) (e5 : H5 tp = some (.tup [.ref o, .ref tr, .int (d' : Nat)]))
    (le : d' ≤ os.length) (len : gs.length = os.length + 1) : StAt K D (upd H5 p (LO L dx tp u)) tp os gs d' := by
  have S5 : StAt K D H5 tp os gs d' := ⟨⟨o, tr, xs, ts, SqT.of e5, s5.tup h2, s5.tup h3, h4.imp fun x y z => z.same s5, h5.imp fun x y ⟨r, e, t⟩ => ⟨r, e, t.same s5⟩⟩, le, len⟩
  exact st_lv S5 (s5 _ _ hp) fun b o' e hb => by rw [upd_ne hb]; exact e
theorem ok_un {f : Addr} {fd : FuncData} (F : Fun K "undo" "LiveTray.undo" sLiveTrayUndo f fd) (CL : ClsL K mg L) : FnOk P w_ K mg base CX0 1 f fd ["self"] (spUn K L D) := by
  refine F.ok scUn (fun vs H Q E h => ?_) (fun cdv A outer s H vs Q E hr h => ?_)
  · obtain ⟨p, d, os, gs, rfl, _⟩ := h
    rfl
  · obtain ⟨p, d, os, gs, rfl, ⟨dx, st, hp, ⟨⟨o, tr, xs, ts, h1, h2, h3, h4, h5⟩, h6, h7⟩⟩, k0, k1⟩ := h
    have nd := scUn.nd
    refine ⟨_, pss_cons (ps_asg (pe_fld (pv 0) rfl) (pg_tup (by rfl) (pgs_cons (pg_name (i := 1) nd rfl (.inl rfl)) (pgs_cons (pg_name (i := 2) nd rfl (.inl rfl)) (pgs_cons (pg_name (i := 3) nd rfl (.inl rfl)) pgs_nil)))))
      (pss_cons (ps_if (pt_cmpR op_eq (pv 3) pe_int (nomark _)) (pss_one (ps_ret pe_bl)) pss_nil)
      (pss_cons (ps_fld (pv 0) (pe_tup (pa_cons (pv 1) (pa_cons (pv 2) (pa_cons (pe_op op_sub (pv 3) pe_int) pa_nil)))) rfl)
      (pss_one (ps_ret pe_bl)))), ?_⟩
    refine ⟨_, rfl, p, L, dx, _, _, rfl, hp, CL.cl, CL.n1, rfl, st, _, rfl, h1, rfl, _, _, rfl, _, _, rfl, _, _, rfl, rfl, ?_⟩
    refine ⟨_, rfl, rfl, _, rfl, ?_⟩
    by_cases d0 : d = 0
    · rw [show decide (V.int (d : Nat) = V.int 0) = true from decide_eq_true (by rw [d0]; rfl)]
      exact iteT (k0 d0)
    · rw [show decide (V.int (d : Nat) = V.int 0) = false from decide_eq_false fun z => d0 (by have := V.int.inj z; omega)]
      refine iteF ⟨_, rfl, _, rfl, _, rfl, _, _, rfl, rfl, (by show 3 ≤ sizeLine; decide), fun tp htp => ?_⟩
      have s5 := same_new (o := .tup [V.ref o, V.ref tr, V.int ((d : Int) - 1)]) htp
      have e5 : upd H tp (.tup [V.ref o, V.ref tr, V.int ((d : Int) - 1)]) tp = some (.tup [V.ref o, V.ref tr, V.int ((d : Int) - 1)]) := upd_same
      generalize upd H tp (.tup [V.ref o, V.ref tr, V.int ((d : Int) - 1)]) = H5 at s5 e5
      rw [show (d : Int) - 1 = ((d - 1 : Nat) : Int) by omega] at e5
      refine ⟨_, rfl, p, L, dx, _, rfl, s5 _ _ hp, CL.cl, CL.n1, (by show 2 < 1000; decide), ?_⟩
      exact k1 (by omega) _ ⟨dx, tp, upd_same, st_put hp h2 h3 h4 h5 s5 e5 (by omega) h7⟩ ((But.same s5).trans fun b o' e hb => by rw [upd_ne hb]; exact e)
abbrev NHi : List Str := ["self", "operations", "_", "done"]
theorem scHi : FnScope NHi ["self"] (defScope sLiveTrayHistory) := ⟨rfl, rfl, rfl, by decide +kernel, rfl, by decide +kernel, by decide +kernel⟩
def spHi (K : PySem.W.Frag) (L D : Addr) : Sp := fun vs H Q _ => ∃ (p d : Nat) (os : List Op) (gs : List Grid), vs = [.ref p] ∧ LvAt K L D H p os gs d ∧ ∀ H' l xs, Same H H' → H l = none → H' l = some (.lst xs) → All2 (OpAt K H') xs (os.take d) → Q (.ref l) H'
theorem ok_hi {f : Addr} {fd : FuncData} (F : Fun K "history" "LiveTray.history" sLiveTrayHistory f fd) (CL : ClsL K mg L) (hlst : mg "list" = none) : FnOk P w_ K mg base CX0 1 f fd ["self"] (spHi K L D) := by
  refine F.ok scHi (fun vs H Q E h => ?_) (fun cdv A outer s H vs Q E hr h => ?_)
  · obtain ⟨p, d, os, gs, rfl, _⟩ := h
    rfl
  · obtain ⟨p, d, os, gs, rfl, ⟨dx, st, hp, ⟨⟨o, tr, xs, ts, h1, h2, h3, h4, h5⟩, h6, h7⟩⟩, k⟩ := h
    have nd := scHi.nd
    refine ⟨_, pss_cons (ps_asg (pe_fld (pv 0) rfl) (pg_tup (by rfl) (pgs_cons (pg_name (i := 1) nd rfl (.inl rfl)) (pgs_cons (pg_name (i := 2) nd rfl (.inl rfl)) (pgs_cons (pg_name (i := 3) nd rfl (.inl rfl)) pgs_nil)))))
      (pss_one (ps_ret (pe_callTy call_list_of (by rfl) hlst (by decide +kernel) (pa_cons (pe_slice sl_tupA (pv 1) po_none (po_some (pv 3))) pa_nil)))), ?_⟩
    refine ⟨_, rfl, p, L, dx, _, _, rfl, hp, CL.cl, CL.n1, rfl, st, _, rfl, h1, rfl, _, _, rfl, _, _, rfl, _, _, rfl, rfl, ?_⟩
    refine ⟨_, rfl, _, rfl, _, rfl, ?_⟩
    refine sl_of h2 fun H1 r1 s1 q1 => ?_
    rw [cutT_tk] at q1
    refine ⟨r1, _, rfl, .inr q1, fun l hl => ?_⟩
    have sl := same_new (o := .lst (xs.take d)) hl
    refine k _ l _ (s1.trans sl) ?_ upd_same ((h4.take d).imp fun x y z => z.same (s1.trans sl))
    cases e : H l with
    | none => rfl
    | some x => rw [s1 _ _ e] at hl; cases hl
end
end TI
end
section
set_option Elab.async false
set_option maxRecDepth 100000
set_option linter.all false
namespace TI
open PySem PySem.Spec PyProof.Rows L2 TM TK TB TP TH TU TW TR
def LvU (K : PySem.W.Frag) (L D : Addr) (u : V) (H : Hp) (p : Addr) (os : List Op) (gs : List Grid) (d : Nat) : Prop := ∃ dx st, H p = some (.ins L dx [("_state", .ref st), ("_state_before_block", u)]) ∧ StAt K D H st os gs d
theorem LvU.same {K : PySem.W.Frag} {L D : Addr} {u : V} {H H' : Hp} {p d : Nat} {os : List Op} {gs : List Grid} (h : LvU K L D u H p os gs d) (s : Same H H') : LvU K L D u H' p os gs d := by
  obtain ⟨dx, st, h1, h2⟩ := h
  exact ⟨dx, st, s _ _ h1, h2.same s⟩
section
variable {P : Program} {w_ : World} {K : PySem.W.Frag} {mg : Str → Option Value} {base : Heap} {n : Nat} {L D fTl fPt fTk fIo fEs aS aA pP gP : Addr} {fdIo fdEs fdP : FuncData}
def spPrU (K : PySem.W.Frag) (L D : Addr) : Sp := fun vs H Q _ => ∃ (u : V) (p d : Nat) (os : List Op) (gs : List Grid) (g : Grid), vs = [.ref p] ∧ LvU K L D u H p os gs d ∧ gs[d]? = some g ∧ ∀ r, TrayAt K D H r g → Q (.ref r) H
theorem ok_prU {f : Addr} {fd : FuncData} (F : Fun K "present_tray" "LiveTray.present_tray" sLiveTrayPresentTray f fd) (CL : ClsL K mg L) : FnOk P w_ K mg base CX0 1 f fd ["self"] (spPrU K L D) := by
  refine F.ok scPr (fun vs H Q E h => ?_) (fun cdv A outer s H vs Q E hr h => ?_)
  · obtain ⟨u, p, d, os, gs, g, rfl, _⟩ := h
    rfl
  · obtain ⟨u, p, d, os, gs, g, rfl, hL, hg, k⟩ := h
    have nd := scPr.nd
    obtain ⟨dx, st, hp, ⟨⟨o, tr, xs, ts, h1, h2, h3, h4, h5⟩, h6, h7⟩⟩ := hL
    refine ⟨_, pss_cons (ps_asg (pe_fld (pv 0) rfl) (pg_tup (by rfl) (pgs_cons (pg_name (i := 1) nd rfl (.inl rfl)) (pgs_cons (pg_name (i := 2) nd rfl (.inl rfl)) (pgs_cons (pg_name (i := 3) nd rfl (.inl rfl)) pgs_nil)))))
      (pss_one (ps_ret (pe_ix ix_tup (pv 2) (pv 3) (fun _ _ => rfl)))), ?_⟩
    refine ⟨_, rfl, p, L, dx, _, _, rfl, hp, CL.cl, CL.n1, rfl, st, _, rfl, h1, rfl, _, _, rfl, _, _, rfl, _, _, rfl, rfl, ?_⟩
    have hd : d < gs.length := (List.getElem?_eq_some_iff.mp hg).1
    obtain ⟨x, hx⟩ : ∃ x, ts[d]? = some x := ⟨_, List.getElem?_eq_getElem (by rw [h5.1]; exact hd)⟩
    obtain ⟨r, rfl, tr_⟩ := h5.2 d x g hx hg
    exact ⟨_, rfl, _, rfl, tr, ts, _, _, rfl, rfl, h3, atI_nat hx, k r tr_⟩
def spEsU (K : PySem.W.Frag) (L D : Addr) : Sp := fun vs H Q _ => ∃ (u : V) (p o2 t2 d : Nat) (os os2 : List Op) (gs gs2 : List Grid) (xs2 ts2 : List V), vs = [.ref p, .ref o2, .ref t2] ∧ LvU K L D u H p os gs d ∧ SqT K H o2 xs2 ∧ All2 (OpAt K H) xs2 os2 ∧ SqT K H t2 ts2 ∧ All2 (TrV K D H) ts2 gs2 ∧ gs2.length = os2.length ∧ os.length + os2.length ≤ 1000 ∧
  ∀ H', LvU K L D u H' p (os.take d ++ os2) (gs.take (d + 1) ++ gs2) (d + os2.length) → But p H H' → Q .non H'
theorem ok_esU {f : Addr} {fd : FuncData} (F : Fun K "_extend_state" "LiveTray._extend_state" sLiveTrayExtendState f fd) (CL : ClsL K mg L) (hlen : mg "len" = none) : FnOk P w_ K mg base CX0 1 f fd ["self", "operations", "later_trays"] (spEsU K L D) := by
  refine F.ok scEs (fun vs H Q E h => ?_) (fun cdv A outer s H vs Q E hr h => ?_)
  · obtain ⟨u, p, o2, t2, d, os, os2, gs, gs2, xs2, ts2, rfl, _⟩ := h
    rfl
  · obtain ⟨u, p, o2, t2, d, os, os2, gs, gs2, xs2, ts2, rfl, ⟨dx, st, hp, ⟨⟨o, tr, xs, ts, h1, h2, h3, h4, h5⟩, h6, h7⟩⟩, ho2, ao2, ht2, at2, hl2, hz, k⟩ := h
    have nd := scEs.nd
    refine ⟨_, pss_cons (ps_asg (pe_fld (pv 0) rfl) (pg_tup (by rfl) (pgs_cons (pg_name (i := 3) nd rfl (.inl rfl)) (pgs_cons (pg_name (i := 4) nd rfl (.inl rfl)) (pgs_cons (pg_name (i := 5) nd rfl (.inl rfl)) pgs_nil)))))
      (pss_one (ps_fld (pv 0) (pe_tup (pa_cons (pe_op op_catA (pe_slice sl_tupA (pv 3) po_none (po_some (pv 5))) (pv 1)) (pa_cons (pe_op op_catA (pe_slice sl_tupA (pv 4) po_none (po_some (pe_op op_add (pv 5) pe_int))) (pv 2)) (pa_cons (pe_op op_add (pv 5) (pe_callB call_len_seq (by rfl) hlen PySem.boot_len (pa_cons (pv 1) pa_nil))) pa_nil)))) rfl)), ?_⟩
    have lx := h4.1
    have lt_ := h5.1
    have lx2 := ao2.1
    have lt2 := at2.1
    refine ⟨_, rfl, p, L, dx, _, _, rfl, hp, CL.cl, CL.n1, rfl, st, _, rfl, h1, rfl, _, _, rfl, _, _, rfl, _, _, rfl, rfl, ?_⟩
    refine ⟨_, rfl, _, rfl, _, rfl, ?_⟩
    refine sl_of h2 fun H1 r1 s1 q1 => ?_
    rw [cutT_tk] at q1
    refine ⟨_, rfl, cat_of q1 (s1.tup ho2) (by rw [List.length_take]; show _ ≤ 16777216; omega) fun H2 r2 s2 q2 => ?_⟩
    have s12 := s1.trans s2
    refine ⟨_, rfl, _, rfl, _, _, rfl, rfl, _, rfl, ?_⟩
    refine sl_of (s12.tup h3) fun H3 r3 s3 q3 => ?_
    rw [show (d : Int) + 1 = ((d + 1 : Nat) : Int) by omega, cutT_tk] at q3
    have s13 := s12.trans s3
    refine ⟨_, rfl, cat_of q3 (s13.tup ht2) (by rw [List.length_take]; show _ ≤ 16777216; omega) fun H4 r4 s4 q4 => ?_⟩
    have s14 := s13.trans s4
    refine ⟨_, rfl, _, rfl, o2, xs2, rfl, .inr (s14.tup ho2), _, _, rfl, rfl, (by show 3 ≤ sizeLine; decide), fun tp htp => ?_⟩
    have s5 := same_new (o := .tup [V.ref r2, V.ref r4, V.int ((d : Int) + ((xs2.length : Nat) : Int))]) htp
    have e5 : upd H4 tp (.tup [V.ref r2, V.ref r4, V.int ((d : Int) + ((xs2.length : Nat) : Int))]) tp = some (.tup [V.ref r2, V.ref r4, V.int ((d : Int) + ((xs2.length : Nat) : Int))]) := upd_same
    generalize upd H4 tp (.tup [V.ref r2, V.ref r4, V.int ((d : Int) + ((xs2.length : Nat) : Int))]) = H5 at s5 e5
    have s15 := s14.trans s5
    have hp5 := s15 _ _ hp
    have tk1 : (os.take d).length = d := by rw [List.length_take]; omega
    have tk2 : (gs.take (d + 1)).length = d + 1 := by rw [List.length_take]; omega
    have S5 : StAt K D H5 tp (os.take d ++ os2) (gs.take (d + 1) ++ gs2) (d + os2.length) := by
      refine ⟨⟨r2, r4, xs.take d ++ xs2, ts.take (d + 1) ++ ts2, SqT.of (by rw [e5, lx2, show ((d + os2.length : Nat) : Int) = (d : Int) + ((os2.length : Nat) : Int) by omega]), ((s3.trans s4).trans s5).tup q2, s5.tup q4, ?_, ?_⟩, ?_, ?_⟩
      · exact ((h4.take d).app ao2).imp fun x y z => z.same s15
      · exact ((h5.take (d + 1)).app at2).imp fun x y ⟨r, e, t⟩ => ⟨r, e, t.same s15⟩
      · rw [List.length_append, tk1]
        exact Nat.le_refl _
      · rw [List.length_append, List.length_append, tk1, tk2, hl2]
        omega
    have kp5 : ∀ o', But p H5 (upd H5 p o') := fun o' b o e hb => by rw [upd_ne hb]; exact e
    refine ⟨_, rfl, p, L, dx, _, rfl, hp5, CL.cl, CL.n1, (by show 2 < 1000; decide), ?_⟩
    exact k _ ⟨dx, tp, upd_same, st_lv S5 hp5 (kp5 _)⟩ ((But.same s15).trans (kp5 _))
/-- what apply uses -/
structure ApFU (P : Program) (w_ : World) (K : PySem.W.Frag) (mg : Str → Option Value) (base : Heap) (n : Nat) (L D aS : Addr) : Prop where
  cl : ClsL K mg L
  enu : mg "enumerate" = none
  tup : mg "tuple" = none
  fIo : ∃ g fd, FnOk P w_ K mg base CX0 1 g fd ["value"] (spIo K w_ aS) ∧ PySem.W.keepIn K (.ref g) = true ∧ Binds K fd ["value"] [] ∧ mg "_is_operation" = some (.ref g)
  pPr : ∃ p g fd, PropOf K L "present_tray" p g ∧ FnOk P w_ K mg base CX0 1 g fd ["self"] (spPrU K L D) ∧ Binds K fd ["self"] []
  mEs : ∃ g fd, Meth K L "_extend_state" g ∧ FnOk P w_ K mg base CX0 1 g fd ["self", "operations", "later_trays"] (spEsU K L D) ∧ Binds K fd ["self", "operations", "later_trays"] []
  act : ∃ aA fTl fPt fTk, mg "ACTIONS" = some (.ref aA) ∧ KDct K w_ aA (Str.ofString "tilt") (.ref fTl) ∧ KDct K w_ aA (Str.ofString "put") (.ref fPt) ∧ KDct K w_ aA (Str.ofString "take") (.ref fTk) ∧
    ∀ g, actG fTl fPt fTk g → FnRn n P w_ K mg base CX0 6 g (actS K D fTl fPt fTk g) ∧ PySem.W.keepIn K (.ref g) = true
  siz : KDct K w_ aS (Str.ofString "tilt") (.int 2) ∧ KDct K w_ aS (Str.ofString "put") (.int 3) ∧ KDct K w_ aS (Str.ofString "take") (.int 2)
/-- behind apply -/
def spApCU (K : PySem.W.Frag) (L D : Addr) : Sp := fun vs H Q _ => ∃ (u : V) (p o d h w : Nat) (os ops : List Op) (gs : List Grid) (g : Grid) (xs : List V), vs = [.ref p, .ref o] ∧ LvU K L D u H p os gs d ∧ gs[d]? = some g ∧ VG h w g ∧ SqT K H o xs ∧ All2 (OpAt K H) xs ops ∧ okAll h w g ops ∧ os.length + ops.length ≤ 1000 ∧
  ∀ H' l rs, H' l = some (.lst rs) → rs.length = ops.length → (∀ (k : Nat) v op, rs[k]? = some v → ops[k]? = some op → resV K H' h w (atG h w g ops k) op v) →
    (ops = [] → LvU K L D u H' p os gs d) → (ops ≠ [] → LvU K L D u H' p (os.take d ++ ops) (gs.take (d + 1) ++ runG h w g ops) (d + ops.length)) → But p H H' → Q (.ref l) H'
set_option maxHeartbeats 2000000 in
theorem ok_apCU {f : Addr} {fd : FuncData} (F : Fun K "apply" "LiveTray.apply" sLiveTrayApply f fd) (A_ : ApFU P w_ K mg base n L D aS) (hb : ∀ us rest : List Value, us.length = (["self"] : List Str).length → bindArgs fd ⟨us ++ rest, []⟩ = (newTuple rest >>= fun t => pure ((["self"] : List Str).zip us ++ [(("operations" : Str), t)]))) :
    FnRn n P w_ K mg base CX0 7 f (fun vs H Q E => ∃ ws rest, vs = ws ++ rest ∧ ws.length = (["self"] : List Str).length ∧ rest.length ≤ sizeLine ∧ ∀ p, H p = none → spApCU K L D (ws ++ [V.ref p]) (upd H p (.tup rest)) Q E) := by
  obtain ⟨gIo, fdIo, GIo, kIo, bIo, mIo⟩ := A_.fIo
  obtain ⟨pP, gP, fdP, PP, GP_, bP⟩ := A_.pPr
  obtain ⟨gE, fdE, ME, GE, bE⟩ := A_.mEs
  obtain ⟨aA, fTl, fPt, fTk, mA, dTl, dPt, dTk, GA⟩ := A_.act
  obtain ⟨zTl, zPt, zTk⟩ := A_.siz
  have CL := A_.cl
  refine fn_starN F scAp StX.cxUp_none hb fun cdv A outer s H vs Q E hr h => ?_
  obtain ⟨u, p, o, d, h, w, os, ops, gs, g, xs, rfl, hL, hg, hV, ho, ao, hok, hz, k⟩ := h
  have nd := scAp.nd
  have r1 : Room 1 _ := hr.mono (by decide)
  have r2 : Room 2 _ := hr.mono (by decide)
  refine ⟨_, pssn_cut (PS.up (ps_for PassesOwn.never rfl (pi_enumT (by rfl) A_.enu (pa_cons (pv 1) pa_nil)) (pg_tup rfl (pgs_cons (pg_name (i := 2) nd rfl (.inl rfl)) (pgs_cons (pg_name (i := 3) nd rfl (.inl rfl)) pgs_nil)))
      (pss_one (ps_if (pt_not (pt_val (pe_call GIo r1 rfl mIo kIo bIo .nil pass0 (pa_cons (pv 3) pa_nil)))) pss_never pss_nil))))
    (pssn_cut (PS.up (ps_set (i := 4) nd rfl (.inl rfl) (pe_prop (pv 0) CL.cl PP GP_ r2 bP .nil pass0 rfl)))
    (pssn_cut (PS.up (ps_set (i := 5) nd rfl (.inl rfl) (pe_lst pa_nil)))
    (pssn_cut (PS.up (ps_set (i := 6) nd rfl (.inl rfl) (pe_lst pa_nil)))
    (pssn_cut (psn_for PassesOwn.never rfl (pi_tup (pv 1)) (pg_star rfl (pgs_cons (pg_name (i := 7) nd rfl (.inl rfl)) (pgs_cons (pg_name (i := 8) nd rfl (.inl rfl)) pgs_nil)))
      (pssn_cut (PS.up (ps_set (i := 9) nd rfl (.inl rfl) (pe_ix ix_kdict (pe_glob (v := .ref aA) rfl mA rfl) (pv 7) (fun _ _ => rfl))))
      (pssn_cut (psn_asg (pen_callVS GA hr pass0 (pv 9) (pa_cons (pv 4) (StX.pa_star (pv 8) pa_nil))) (pg_tup (by rfl) (pgs_cons (pg_name (i := 4) nd rfl (.inl rfl)) (pgs_cons (pg_name (i := 10) nd rfl (.inl rfl)) pgs_nil))))
      (pssn_cut (PS.up (ps_expr (pe_bm PySem.F.plainAttrs_list PySem.F.slot_list_append PySem.F.type_list_append mt_append (pv 5) (pa_cons (pv 4) pa_nil))))
      (pssn_one (PS.up (ps_expr (pe_bm PySem.F.plainAttrs_list PySem.F.slot_list_append PySem.F.type_list_append mt_append (pv 6) (pa_cons (pv 10) pa_nil)))))))))
    (pssn_cut (psn_if (PT.up (pt_truth (pv 1) (by intro _; rfl))) (PSs.up (pss_one (ps_expr (pe_meth (pv 0) CL.cl ME GE r1 bE .nil pass0 (pa_cons (pv 1) (pa_cons (pe_callTy call_tuple_of (by rfl) A_.tup (by decide +kernel) (pa_cons (pv 5) pa_nil)) pa_nil)))))) (PSs.up pss_nil))
    (pssn_one (PS.up (ps_ret (pv 6))))))))), ?_⟩
  -- all are operations
  refine ⟨fun σ H1 => ∃ v2 v3, σ = [some (.ref p), some (.ref o), v2, v3, none, none, none, none, none, none, none] ∧ Same H H1, ?_, ?_⟩
  · refine ⟨_, rfl, o, xs, rfl, ho, for_it (walk_enumT (K := K) (a := o) (xs := xs)) (fun i σ H1 => ∃ v2 v3, σ = [some (.ref p), some (.ref o), v2, v3, none, none, none, none, none, none, none] ∧ Same H H1) ⟨none, none, rfl, Same.refl H⟩ (fun i σ H1 _ ⟨_, _, _, s⟩ => s.tup ho) ?_ fun σ H1 z => z⟩
    rintro i x σ H1 H2 hi ⟨v2, v3, rfl, s1⟩ ⟨T_, y, rfl, hT, rfl, hy⟩
    have s2 := same_new (o := .tup [.int (i : Nat), y]) hT
    have hi2 : i < ops.length := by rw [← ao.1]; exact hi
    obtain ⟨a, ys, rfl, hS, hx⟩ := ao.2 i y ops[i] hy (List.getElem?_eq_getElem hi2)
    refine ⟨T_, _, rfl, SqT.of upd_same, rfl, _, _, rfl, _, _, rfl, rfl, ?_⟩
    have s12 := s1.trans s2
    have kd : ∃ z r, ys = V.str z :: r ∧ r.length ≤ 2 ∧ KDct K w_ aS z (.int ((r.length + 1 : Nat) : Int)) := by
      generalize ops[i] = op at hx
      cases op with
      | tl c => exact ⟨_, _, hx, by simp, zTl⟩
      | pt c i j =>
        obtain ⟨q, e, _⟩ := hx
        exact ⟨_, _, e, by simp, zPt⟩
      | tk c => exact ⟨_, _, hx, by simp, zTk⟩
    obtain ⟨z, r, rfl, r2', kd⟩ := kd
    exact ⟨_, rfl, a, z, r, rfl, s12.tup hS, by omega, kd, true, rfl, iteF ⟨_, _, rfl, s12⟩⟩
  rintro σ H1 ⟨v2, v3, rfl, s1⟩
  -- the present tray, two lists
  refine ⟨fun σ H2 => ∃ r, σ = [some (.ref p), some (.ref o), v2, v3, some (.ref r), none, none, none, none, none, none] ∧ Same H H2 ∧ TrayAt K D H2 r g, ?_, ?_⟩
  · have hL1 := hL.same s1
    obtain ⟨dx, st, hp, _⟩ := id hL1
    exact ⟨_, rfl, p, dx, _, rfl, hp, u, p, d, os, gs, g, rfl, hL1, hg, fun r tr => ⟨r, rfl, s1, tr⟩⟩
  rintro σ H2 ⟨r0, rfl, s2, t2⟩
  clear s1 H1
  refine ⟨fun σ H3 => ∃ lt, σ = [some (.ref p), some (.ref o), v2, v3, some (.ref r0), some (.ref lt), none, none, none, none, none] ∧ Same H H3 ∧ TrayAt K D H3 r0 g ∧ H lt = none ∧ H3 lt = some (.lst []), ?_, ?_⟩
  · refine ⟨(by show 0 ≤ sizeLine; decide), fun l hl => ?_⟩
    have sl := same_new (o := .lst []) hl
    refine ⟨l, rfl, s2.trans sl, t2.same sl, ?_, upd_same⟩
    cases e : H l with
    | none => rfl
    | some x => rw [s2 _ _ e] at hl; cases hl
  rintro σ H3 ⟨lt, rfl, s3, t3, flt, hlt⟩
  clear s2 t2 H2
  refine ⟨fun σ H4 => ∃ lr, σ = [some (.ref p), some (.ref o), v2, v3, some (.ref r0), some (.ref lt), some (.ref lr), none, none, none, none] ∧ Same H H4 ∧ TrayAt K D H4 r0 g ∧ H lr = none ∧ lt ≠ lr ∧ H4 lt = some (.lst []) ∧ H4 lr = some (.lst []), ?_, ?_⟩
  · refine ⟨(by show 0 ≤ sizeLine; decide), fun l hl => ?_⟩
    have sl := same_new (o := .lst []) hl
    refine ⟨l, rfl, s3.trans sl, t3.same sl, ?_, ne_of_none hlt hl, sl _ _ hlt, upd_same⟩
    cases e : H l with
    | none => rfl
    | some x => rw [s3 _ _ e] at hl; cases hl
  rintro σ H4 ⟨lr, rfl, s4, t4, flr, nlr, hlt4, hlr4⟩
  clear s3 t3 hlt H3
  have freshN : ∀ {b : Addr} {H' : Hp} {x : HO}, H b = none → Same H H' → Same H (upd H' b x) := fun {b H' x} hb s c o' e => by
    have ne : c ≠ b := fun z => by rw [z, hb] at e; cases e
    rw [upd_ne ne]
    exact s c o' e
  have a4 := ao.imp fun x y (z : OpAt K H x y) => z
  -- each operation
  refine ⟨fun σ H5 => ∃ r w2 w3 w7 w8 w9 w10 ts rs, σ = [some (.ref p), some (.ref o), w2, w3, some (.ref r), some (.ref lt), some (.ref lr), w7, w8, w9, w10] ∧ Same H H5 ∧ H5 lt = some (.lst ts) ∧ All2 (TrV K D H5) ts (runG h w g ops) ∧ H5 lr = some (.lst rs) ∧ rs.length = ops.length ∧ (∀ (k : Nat) v op, rs[k]? = some v → ops[k]? = some op → resV K H5 h w (atG h w g ops k) op v), ?_, ?_⟩
  · refine ⟨_, rfl, o, rfl, ⟨_, s4.tup ho⟩, for_tup (K := K) (a := o) (xs := xs) (fun i σ H5 => ∃ r w7 w8 w9 w10 ts rs, σ = [some (.ref p), some (.ref o), v2, v3, some (.ref r), some (.ref lt), some (.ref lr), w7, w8, w9, w10] ∧ Same H H5 ∧ TrayAt K D H5 r (atG h w g ops i) ∧ H5 lt = some (.lst ts) ∧ All2 (TrV K D H5) ts ((runG h w g ops).take i) ∧ H5 lr = some (.lst rs) ∧ rs.length = i ∧
        (∀ (k : Nat) v op, rs[k]? = some v → ops[k]? = some op → resV K H5 h w (atG h w g ops k) op v))
      ⟨r0, none, none, none, none, [], [], rfl, s4, t4, hlt4, ⟨rfl, fun k x y z => by simp at z⟩, hlr4, rfl, fun k v op z => by simp at z⟩ (fun i σ H5 _ ⟨_, _, _, _, _, _, _, _, s, _⟩ => s.tup ho) ?_ ?_⟩
    · rintro i x σ H5 hx ⟨r, w7, w8, w9, w10, ts, rs, rfl, s5, t5, hts, ats, hrs, lrs, vrs⟩
      have hi1 := (List.getElem?_eq_some_iff.mp hx).1
      have hi2 : i < ops.length := by rw [← ao.1]; exact hi1
      have hop : ops[i]? = some ops[i] := List.getElem?_eq_getElem hi2
      generalize ops[i] = op at hop
      obtain ⟨a, ys, rfl, hS, hxv⟩ := ao.2 i x op hx hop
      have hok1 := atG_ok hok hop
      have hV1 := atG_VG i hV hok
      obtain ⟨z, ys', rfl, _⟩ := op_head hxv
      have hxv5 : opV H5 K op (V.str z :: ys') := by
        cases op with
        | tl c => exact hxv
        | pt c i j =>
          obtain ⟨q, e, hq⟩ := hxv
          exact ⟨q, e, s5.tup hq⟩
        | tk c => exact hxv
      have kd : ∃ fa, actG fTl fPt fTk fa ∧ KDct K w_ aA z (.ref fa) ∧ fa = actOf fTl fPt fTk op := act_kd hxv dTl dPt dTk
      obtain ⟨fa, hG, hK, hf⟩ := kd
      refine ⟨a, .str z, ys', rfl, s5.tup hS, fun l hl => ⟨_, _, rfl, _, _, rfl, rfl, ?_⟩⟩
      have sl := same_new (o := .lst ys') hl
      have el : upd H5 l (.lst ys') l = some (.lst ys') := upd_same
      generalize upd H5 l (.lst ys') = H6 at sl el
      have s6 := s5.trans sl
      -- the action
      refine ⟨fun σ H7 => σ = [some (.ref p), some (.ref o), v2, v3, some (.ref r), some (.ref lt), some (.ref lr), some (.str z), some (.ref l), some (.ref fa), w10] ∧ H7 = H6, ?_, ?_⟩
      · exact ⟨_, rfl, aA, z, _, rfl, rfl, hK, rfl, rfl⟩
      rintro σ H7 ⟨rfl, rfl⟩
      refine ⟨fun σ H8 => ∃ r2 v, σ = [some (.ref p), some (.ref o), v2, v3, some (.ref r2), some (.ref lt), some (.ref lr), some (.str z), some (.ref l), some (.ref fa), some v] ∧ Same H7 H8 ∧ TrayAt K D H8 r2 (stepG h w (atG h w g ops i) op) ∧ resV K H8 h w (atG h w g ops i) op v, ?_, ?_⟩
      · refine ⟨_, rfl, fa, rfl, hG, _, rfl, _, rfl, l, ys', rfl, .inr (SqL.of el), ?_⟩
        show actS K D fTl fPt fTk fa (V.ref r :: (ys' ++ [])) H7 _ _
        rw [List.append_nil]
        have hxv6 : opV H7 K op (V.str z :: ys') := by
          cases op with
          | tl c => exact hxv5
          | pt c i j =>
            obtain ⟨q, e, hq⟩ := hxv5
            exact ⟨q, e, sl.tup hq⟩
          | tk c => exact hxv5
        exact act_do (t5.same sl) hV1 hok1 hxv6 fa hf fun H8 tp r2 v s8 etp t8 rv => ⟨tp, _, rfl, SqT.of etp, rfl, _, _, rfl, _, _, rfl, rfl, r2, v, rfl, s8, t8, rv⟩
      rintro σ H8 ⟨r2, v, rfl, s8, t8, rv⟩
      have s58 := sl.trans s8
      have hts8 := s58 _ _ hts
      have hrs8 := s58 _ _ hrs
      have tlen : ts.length = i := by
        rw [ats.1, List.length_take, runG_len]
        omega
      have zle : ∀ {n : Nat}, n ≤ 1000 → n < sizeLine := fun {n} hn => by show n < 16777216; omega
      refine ⟨fun σ H9 => σ = [some (.ref p), some (.ref o), v2, v3, some (.ref r2), some (.ref lt), some (.ref lr), some (.str z), some (.ref l), some (.ref fa), some v] ∧ H9 = upd H8 lt (.lst (ts ++ [.ref r2])), ?_, ?_⟩
      · exact ⟨_, rfl, .inl ⟨rfl, _, SqL.of hts8⟩, _, rfl, lt, ts, _, rfl, rfl, hts8, zle (by omega), rfl, rfl⟩
      rintro σ H9 ⟨rfl, rfl⟩
      have b9 : But lt H8 (upd H8 lt (.lst (ts ++ [.ref r2]))) := fun b o' e hb => by rw [upd_ne hb]; exact e
      have hrs9 : upd H8 lt (.lst (ts ++ [.ref r2])) lr = some (.lst rs) := b9 _ _ hrs8 (Ne.symm nlr)
      have e9 : upd H8 lt (.lst (ts ++ [.ref r2])) lt = some (.lst (ts ++ [.ref r2])) := upd_same
      have s9 : Same H (upd H8 lt (.lst (ts ++ [.ref r2]))) := freshN flt (s6.trans s8)
      generalize upd H8 lt (.lst (ts ++ [.ref r2])) = H9 at b9 hrs9 e9 s9
      refine ⟨_, rfl, .inl ⟨rfl, _, SqL.of hrs9⟩, _, rfl, lr, rs, _, rfl, rfl, hrs9, zle (by omega), ?_⟩
      have b10 : But lr H9 (upd H9 lr (.lst (rs ++ [v]))) := fun b o' e hb => by rw [upd_ne hb]; exact e
      have e10 : upd H9 lr (.lst (rs ++ [v])) lr = some (.lst (rs ++ [v])) := upd_same
      have s10 : Same H (upd H9 lr (.lst (rs ++ [v]))) := freshN flr s9
      have e10t : upd H9 lr (.lst (rs ++ [v])) lt = some (.lst (ts ++ [.ref r2])) := b10 _ _ e9 nlr
      generalize upd H9 lr (.lst (rs ++ [v])) = H10 at b10 e10 s10 e10t
      have tr10 : ∀ {q : Addr} {gg : Grid}, TrayAt K D H8 q gg → TrayAt K D H10 q gg := fun tq => tray_but (tray_but tq hts8 b9) hrs9 b10
      have tup10 : ∀ b xs', H8 b = some (.tup xs') → H10 b = some (.tup xs') := fun b xs' e => b10 _ _ (b9 _ _ e fun y => by rw [y, hts8] at e; cases e) fun y => by
        have e2 := b9 _ _ e fun y => by rw [y, hts8] at e; cases e
        rw [y, hrs9] at e2
        cases e2
      refine ⟨r2, _, _, _, _, ts ++ [.ref r2], rs ++ [v], rfl, s10, ?_, e10t, ?_, e10, by rw [List.length_append, lrs]; rfl, fun k v' op' hv hop' => ?_⟩
      · rw [atG_next hop]
        exact tr10 t8
      · rw [runG_take hop, atG_next hop]
        refine All2.app (ats.imp fun x y ⟨q, e, tq⟩ => ⟨q, e, tr10 (tq.same s58)⟩) ⟨rfl, fun k x y hx hy => ?_⟩
        cases k with
        | zero =>
          cases hx
          cases hy
          exact ⟨r2, rfl, tr10 t8⟩
        | succ k => simp at hx
      · rcases Nat.lt_or_ge k rs.length with hk | hk
        · rw [List.getElem?_append_left hk] at hv
          exact resV_same (resV_same (vrs k v' op' hv hop') fun b xs' e => s58 _ _ e) tup10
        · rw [List.getElem?_append_right hk] at hv
          have k0 : k = i := by
            have := (List.getElem?_eq_some_iff.mp hv).1
            simp at this
            omega
          subst k0
          rw [lrs, Nat.sub_self] at hv
          cases hv
          rw [hop] at hop'
          cases hop'
          exact resV_same rv tup10
    · rintro σ H5 ⟨r, w7, w8, w9, w10, ts, rs, rfl, s5, t5, hts, ats, hrs, lrs, vrs⟩
      rw [ao.1, List.take_of_length_le (by rw [runG_len]; exact Nat.le_refl _)] at ats
      exact ⟨r, _, _, _, _, _, _, ts, rs, rfl, s5, hts, ats, hrs, by rw [lrs, ao.1], vrs⟩
  rintro σ H5 ⟨r, w2, w3, w7, w8, w9, w10, ts, rs, rfl, s5, hts, ats, hrs, lrs, vrs⟩
  clear s4 t4 hlt4 hlr4 H4
  obtain ⟨dx, st, hp, hSt⟩ := id hL
  have hp5 := s5 _ _ hp
  have nlp : lr ≠ p := fun z => by rw [z, hp] at flr; cases flr
  -- the state
  refine ⟨fun σ H6 => σ = [some (.ref p), some (.ref o), w2, w3, some (.ref r), some (.ref lt), some (.ref lr), w7, w8, w9, w10] ∧ H6 lr = some (.lst rs) ∧ (∀ (k : Nat) v op, rs[k]? = some v → ops[k]? = some op → resV K H6 h w (atG h w g ops k) op v) ∧
    (ops = [] → LvU K L D u H6 p os gs d) ∧ (ops ≠ [] → LvU K L D u H6 p (os.take d ++ ops) (gs.take (d + 1) ++ runG h w g ops) (d + ops.length)) ∧ But p H H6, ?_, ?_⟩
  · refine ⟨_, rfl, !xs.isEmpty, .inr (.inl ⟨xs, s5.tup ho, rfl⟩), ?_⟩
    by_cases hx : xs = []
    · have ho0 : ops = [] := by
        have := ao.1
        rw [hx] at this
        exact List.eq_nil_of_length_eq_zero this.symm
      rw [show (!xs.isEmpty) = false by rw [hx]; rfl]
      exact iteF ⟨rfl, hrs, vrs, fun _ => hL.same s5, fun z => absurd ho0 z, But.same s5⟩
    · have ho1 : ops ≠ [] := fun z => by
        have := ao.1
        rw [z] at this
        exact hx (List.eq_nil_of_length_eq_zero this)
      rw [show (!xs.isEmpty) = true by
        cases xs with
        | nil => exact absurd rfl hx
        | cons _ _ => rfl]
      refine iteT ⟨_, rfl, p, dx, _, rfl, hp5, rfl, _, rfl, _, rfl, lt, ts, rfl, .inl ⟨SqL.of hts, fun tl htl => ?_⟩⟩
      have sT := same_new (o := .tup ts) htl
      have eT : upd H5 tl (.tup ts) tl = some (.tup ts) := upd_same
      generalize upd H5 tl (.tup ts) = H6 at sT eT
      have s6 := s5.trans sT
      have hp6 := s6 _ _ hp
      refine ⟨u, p, o, tl, d, os, ops, gs, runG h w g ops, xs, ts, rfl, hL.same s6, s6.tup ho, ao.imp fun x y z => z.same s6, SqT.of eT, ats.imp fun x y ⟨q, e, tq⟩ => ⟨q, e, tq.same sT⟩, runG_len h w ops g, hz, fun H7 hL7 b7 => ?_⟩
      refine ⟨rfl, b7 _ _ (sT _ _ hrs) nlp, fun k v op hv hop => resV_same (vrs k v op hv hop) fun b xs' e => b7 _ _ (sT _ _ e) fun z => ?_, fun z => absurd z ho1, fun _ => hL7, (But.same s6).trans b7⟩
      have e6 := sT _ _ e
      rw [z, hp6] at e6
      cases e6
  rintro σ H6 ⟨rfl, hrs6, vrs6, l1, l2, b6⟩
  exact ⟨_, rfl, k H6 lr rs hrs6 lrs vrs6 l1 l2 b6⟩
end
section
variable {X : Cx} {CX : CXT} {n k : Nat}
def sWith (C : Addr) (spE spX : Sp) (E : XK) (te : TE) (tb : TS) : TS := fun D σ H => te σ H fun x H1 => ∃ a dx fs, x = .ref a ∧ H1 a = some (.ins C dx fs) ∧ spE [.ref a] H1 (fun _ H2 => tb
  { nx := fun σ' H' => spX [.ref a, .non, .non, .non] H' (fun _ H5 => D.nx σ' H5) E, rt := fun v H' => spX [.ref a, .non, .non, .non] H' (fun _ H5 => D.rt v H5) E,
    bk := fun σ' H' => spX [.ref a, .non, .non, .non] H' (fun _ H5 => D.bk σ' H5) E, ct := fun σ' H' => spX [.ref a, .non, .non, .non] H' (fun _ H5 => D.ct σ' H5) E } σ H2) E
theorem psn_with {C fe fx : Addr} {spE spX : Sp} {E : XK} {ctx : Expr} {te : TE} {body : List Stmt} {tb : TS} {pos : Pos} (he : PE X ctx te) (hE : PySem.W.findIn X.K (.ref C) "__enter__" = some (some (.ref fe))) (iE : PySem.W.isFn X.K (.ref fe) = true)
    (FE : FnRn n X.prog X.w X.K X.mg X.base CX k fe spE) (hX : PySem.W.findIn X.K (.ref C) "__exit__" = some (some (.ref fx))) (iX : PySem.W.isFn X.K (.ref fx) = true) (FX : FnRn n X.prog X.w X.K X.mg X.base CX k fx spX) (hr : Room k X.A) (hx : Passes CX X E)
    (hb : PSsn n X.nox body tb) : PSn n X (.With [⟨ctx, none⟩] body pos) (sWith C spE spX E te tb) := by
  intro pins s σ H D hn I h
  refine PySem.W.kw_exec0 (thnN hn (he.run pins s σ H _ I h) fun u s1 hn1 ⟨x, H1, I1, rx, a, dx, fs, ex, ea, q⟩ => ?_)
  subst ex
  obtain rfl : u = Value.ref a := rx
  obtain ⟨mA, O, r, _⟩ := ins_get I1.hok ea
  obtain ⟨od, J, hl⟩ := O.look
  have non : ∀ {σ' : L2.St} {H' : Hp} {s4 : Shared} {Q : VK}, n ≤ s4.toks → Inv X pins σ' H' s4 → spX [.ref a, .non, .non, .non] H' Q E → wpAny (model X.prog X.w) X.A (call (.ref fx) [.ref a, .none, .none, .none]) (EP X pins σ' Q) X.xe s4 := fun hn4 I4 q4 =>
    wpAny_call (run_fnRn (us := [.ref a, .none, .none, .none]) (vs := [.ref a, .non, .non, .non]) hn4 FX hr hx I4 (.cons rfl (.cons rfl (.cons rfl (.cons rfl .nil)))) q4)
  refine PySem.W.kw_core0 I1.kIn J hE iE hX iX (thnN hn1 (wpAny_call (run_fnRn (us := [.ref a]) (vs := [.ref a]) hn1 FE hr hx I1 (.cons rfl .nil) q)) fun v s2 hn2 ⟨y, H2, I2, ry, q2⟩ => ?_)
  refine thnN hn2 (hb pins s2 σ H2 _ hn2 (I2.wish _) q2) fun f s4 hn4 z => ?_
  have z := z.unwish
  cases f with
  | next =>
    obtain ⟨σ', H', I4, q4⟩ := z
    exact thn (non hn4 I4 q4) fun _ s5 ⟨_, H5, I5, _, q5⟩ => ⟨σ', H5, I5, q5⟩
  | brk =>
    obtain ⟨σ', H', I4, q4⟩ := z
    exact thn (non hn4 I4 q4) fun _ s5 ⟨_, H5, I5, _, q5⟩ => ⟨σ', H5, I5, q5⟩
  | cont =>
    obtain ⟨σ', H', I4, q4⟩ := z
    exact thn (non hn4 I4 q4) fun _ s5 ⟨_, H5, I5, _, q5⟩ => ⟨σ', H5, I5, q5⟩
  | ret u =>
    obtain ⟨x, σ', H', I4, rv, q4⟩ := z
    exact thn (non hn4 I4 q4) fun _ s5 ⟨_, H5, I5, _, q5⟩ => ⟨x, σ', H5, I5, rv, q5⟩
end
end TI
end
section
set_option Elab.async false
set_option maxRecDepth 100000
set_option linter.all false
namespace ClX
open PySem PySem.Spec PyProof.Rows L2 TM TK TB TP TH TU TW TR
section
variable {X : Cx} {CX : CXT} {n k : Nat}
/-- C.m(e, ..), m a class method, where tokens are out -/
theorem pen_cmeth {C p g : Addr} {mc : Value} {sp : Sp} {E : XK} {o e : Expr} {es : List Expr} {m : Str} {pos apos : Pos} {ta : TE} {t : TA} {pl : Sem Bool} (he : PE X o ta) (r : CRead X.K C mc) (c : CMet X.K C mc m p g) (F : FnRn n X.prog X.w X.K X.mg X.base CX k g sp) (hr : Room k X.A) (hx : Passes CX X E) (ha : PA X (e :: es) t)
    (hst : starEach (e :: es) X.env = (false, eval e X.env) :: starEach es X.env := by rfl) (hpl : (backTo pos (starEach es X.env)).any (·.1) = false := by rfl)
    (ht : eval (.Call (.Attribute o m apos) (e :: es) [] pos) X.env = (do
      let ov ← eval o X.env
      standAt apos.atName
      let (f, first) ← holding [ov] (getMethod ov m pl)
      callWith pos f first (backTo pos (starEach (e :: es) X.env)) (backToKw pos (keywordEach [] X.env))) := by rfl) :
    PEn n X (.Call (.Attribute o m apos) (e :: es) [] pos) (tCMeth C sp E ta t) := by
  intro pins s σ H Q hn I h
  refine PySem.W.methodCall_KW (pl := pl) (thnN hn (he.run pins s σ H _ I h) fun u s1 hn1 ⟨x, H1, I1, rx, ex, q⟩ => ?_) ht
  subst ex
  obtain rfl : u = Value.ref C := rx
  have got : wpAny (model X.prog X.w) X.A (getMethod (.ref C) m pl) (fun fs s2 => fs = (Value.ref s1.heap.objs.size, []) ∧ L2.Inv X ((s1.heap.objs.size, PySem.W.methodObj (.ref g) (.ref C)) :: pins) σ H1 s2) (fun _ _ => False) s1 := getmethcm_ok I1 r c fun s2 I2 => ⟨rfl, I2⟩
  refine thnFN hn1 got fun fs s2 hn2 ⟨ef, I2⟩ => ?_
  subst ef
  refine callwith_cm I2 (base_none I1 (Nat.le_refl _)) c.fi (thnN hn2 (ha.run pos _ s2 σ H1 _ I2 q) fun us s3 hn3 ⟨vs, H2, I3, rv, q2⟩ => ⟨⟨pin_at I3, I3.kIn⟩, ?_⟩) hst hpl
  have z : wpAny (model X.prog X.w) X.A (call (.ref s1.heap.objs.size) us) (EP X ((s1.heap.objs.size, PySem.W.methodObj (.ref g) (.ref C)) :: pins) σ Q) X.xe s3 :=
    wpAny_call (PySem.W.method_call (pin_at I3) (run_fnRn (us := .ref C :: us) (vs := .ref C :: vs) hn3 F hr hx I3 (.cons rfl rv) q2))
  exact thn z fun _ _ y => unpinE y
end
end ClX
namespace TI
open PySem PySem.Spec PyProof.Rows L2 TM TK TB TP TH TU TW TR
section
variable {X : Cx}
/-- a list != [] -/
def rNeE (K : PySem.W.Frag) : R2 := fun x y H Q => ∃ a b xs, x = .ref a ∧ y = .ref b ∧ SqL K H a xs ∧ SqL K H b [] ∧ Q (.bl (!xs.isEmpty)) H
theorem op_neE {K : PySem.W.Frag} (hK : X.K = K) (hu : X.A.units + 64 < cLine) : OpR X (compareOp .NotEq) (rNeE K) := by
  subst hK
  intro pins s σ H x y v u Q I rx ry h
  obtain ⟨a, b, xs, rfl, rfl, ha, hb, q⟩ := h
  cases xs with
  | nil => exact op_neD hu pins s σ H _ _ v u Q I rx ry ⟨.list [], .list [], .lst ha .nil, .lst hb .nil, rfl, rfl, q⟩
  | cons z zs =>
    obtain rfl : v = Value.ref a := rx
    obtain rfl : u = Value.ref b := ry
    obtain ⟨ia, ra, pa, _⟩ := I.list ha
    obtain ⟨ib, rb, pb, _⟩ := I.list hb
    have l1 := ra.length
    have l2 := rb.length
    refine PySem.SeqAt.RcNeAt.lists_lengths pa.isList pb.isList ?_ (by omega) _ _ _ _ ⟨.bl true, H, I, rfl, q⟩
    rw [List.size_toArray, List.size_toArray, ← l1, ← l2]
    rfl
end
theorem t4 {c : Nat} (h : isT c = true) : c = 100 ∨ c = 108 ∨ c = 114 ∨ c = 117 := by
  unfold isT at h
  simp only [decide_eq_true_eq, List.mem_cons, List.not_mem_nil, or_false] at h
  omega
end TI
end
section
set_option Elab.async false
set_option maxRecDepth 100000
set_option linter.all false
namespace TI
open PySem PySem.Spec PyProof.Rows L2 TM TK TB TP TH TU TW TR
section
variable {P : Program} {w_ : World} {K : PySem.W.Frag} {mg : Str → Option Value} {base : Heap} {n : Nat} {L D : Addr}
theorem scRe : FnScope NUn ["self"] (defScope sLiveTrayRedo) := ⟨rfl, rfl, rfl, by decide +kernel, rfl, by decide +kernel, by decide +kernel⟩
def spRe (K : PySem.W.Frag) (L D : Addr) : Sp := fun vs H Q _ => ∃ (p d : Nat) (os : List Op) (gs : List Grid), vs = [.ref p] ∧ LvAt K L D H p os gs d ∧ (d = os.length → Q (.bl false) H) ∧ (d < os.length → ∀ H', LvAt K L D H' p os gs (d + 1) → But p H H' → Q (.bl true) H')
theorem ok_re {f : Addr} {fd : FuncData} (F : Fun K "redo" "LiveTray.redo" sLiveTrayRedo f fd) (CL : ClsL K mg L) (hlen : mg "len" = none) : FnOk P w_ K mg base CX0 1 f fd ["self"] (spRe K L D) := by
  refine F.ok scRe (fun vs H Q E h => ?_) (fun cdv A outer s H vs Q E hr h => ?_)
  · obtain ⟨p, d, os, gs, rfl, _⟩ := h
    rfl
  · obtain ⟨p, d, os, gs, rfl, ⟨dx, st, hp, ⟨⟨o, tr, xs, ts, h1, h2, h3, h4, h5⟩, h6, h7⟩⟩, k0, k1⟩ := h
    have nd := scRe.nd
    refine ⟨_, pss_cons (ps_asg (pe_fld (pv 0) rfl) (pg_tup (by rfl) (pgs_cons (pg_name (i := 1) nd rfl (.inl rfl)) (pgs_cons (pg_name (i := 2) nd rfl (.inl rfl)) (pgs_cons (pg_name (i := 3) nd rfl (.inl rfl)) pgs_nil)))))
      (pss_cons (ps_if (pt_cmpR op_eq (pv 3) (pe_callB call_len_seq (by rfl) hlen PySem.boot_len (pa_cons (pv 1) pa_nil)) (by rfl)) (pss_one (ps_ret pe_bl)) pss_nil)
      (pss_cons (ps_fld (pv 0) (pe_tup (pa_cons (pv 1) (pa_cons (pv 2) (pa_cons (pe_op op_add (pv 3) pe_int) pa_nil)))) rfl)
      (pss_one (ps_ret pe_bl)))), ?_⟩
    refine ⟨_, rfl, p, L, dx, _, _, rfl, hp, CL.cl, CL.n1, rfl, st, _, rfl, h1, rfl, _, _, rfl, _, _, rfl, _, _, rfl, rfl, ?_⟩
    refine ⟨_, rfl, _, rfl, o, xs, rfl, .inr h2, rfl, _, rfl, ?_⟩
    have lx := h4.1
    by_cases d0 : d = os.length
    · rw [show decide (V.int (d : Nat) = V.int ((xs.length : Nat) : Int)) = true from decide_eq_true (by rw [d0, lx])]
      exact iteT (k0 d0)
    · rw [show decide (V.int (d : Nat) = V.int ((xs.length : Nat) : Int)) = false from decide_eq_false fun z => d0 (by have := V.int.inj z; omega)]
      refine iteF ⟨_, rfl, _, rfl, _, rfl, _, _, rfl, rfl, (by show 3 ≤ sizeLine; decide), fun tp htp => ?_⟩
      have s5 := same_new (o := .tup [V.ref o, V.ref tr, V.int ((d : Int) + 1)]) htp
      have e5 : upd H tp (.tup [V.ref o, V.ref tr, V.int ((d : Int) + 1)]) tp = some (.tup [V.ref o, V.ref tr, V.int ((d : Int) + 1)]) := upd_same
      generalize upd H tp (.tup [V.ref o, V.ref tr, V.int ((d : Int) + 1)]) = H5 at s5 e5
      rw [show (d : Int) + 1 = ((d + 1 : Nat) : Int) by omega] at e5
      refine ⟨_, rfl, p, L, dx, _, rfl, s5 _ _ hp, CL.cl, CL.n1, (by show 2 < 1000; decide), ?_⟩
      exact k1 (by omega) _ ⟨dx, tp, upd_same, st_put hp h2 h3 h4 h5 s5 e5 (by omega) h7⟩ ((But.same s5).trans fun b o' e hb => by rw [upd_ne hb]; exact e)
end
end TI
end
section
set_option Elab.async false
set_option maxRecDepth 100000
set_option linter.all false
namespace TI
open PySem PySem.Spec PyProof.Rows L2 TM TK TB TP TH TU TW TR
section
variable {X : Cx} {CX : CXT} {n k : Nat}
/-- C(e, ..), C the value of a local name -/
theorem pe_makeV {C f : Addr} {fd : FuncData} {ps : List Str} {sp : Sp} {E : XK} {x : Str} {e : Expr} {es : List Expr} {tf : TE} {t : TA} {p pos : Pos} (M : Mk X.K C f) (F : FnOk X.prog X.w X.K X.mg X.base CX k f fd ps sp) (hr : Room (k + 1) X.A) (hf : PE X (.Name x p) tf) (hb : Binds X.K fd ps []) (hx : Passes CX X E) (ha : PA X (e :: es) t)
    (he : starEach (e :: es) X.env = (false, eval e X.env) :: starEach es X.env := by rfl) (hpl : (backTo pos (starEach es X.env)).any (·.1) = false := by rfl) : PE X (.Call (.Name x p) (e :: es) [] pos) (fun σ H Q => tf σ H fun c H1 => c = .ref C ∧ tMake C sp [] E t σ H1 Q) := by
  refine ⟨fun pins s σ H Q I h => ?_⟩
  refine wpAny_Call_Name_kw (thn (hf.run pins s σ H _ I h) fun u s0 ⟨c, H0, I0, rc, ec, h⟩ => ?_)
  subst ec
  obtain rfl : u = Value.ref C := rc
  exact PySem.W.callWith_K (h₀ := X.base) I0.ok.mod.kin M.kp (thn (ha.run pos pins s0 σ H0 _ I0 h) fun us s1 ⟨vs, H1, I1, r, q⟩ => ⟨I1.kIn, run_make M F hr hb .nil hx I1 r q⟩) he hpl
theorem psn_expr {e : Expr} {te : TE} {pos : Pos} (he : PEn n X e te) (hs : swapsWith e none pos.line X.env = pure false := by rfl) : PSn n X (.Expr e pos) (tDrop te) := fun pins s σ H D hn I h =>
  wpAny_Expr_any (thn (he pins s σ H _ hn I h) fun v s1 ⟨x, H1, I1, r1, q1⟩ => ⟨σ, H1, I1, q1⟩) I.quiet hs
/-- o.m(*e), e a list or a tuple, where tokens are out -/
def tMethSn (K : PySem.W.Frag) (C : Addr) (m : Str) (g : Addr) (sp : Sp) (E : XK) (ta te : TE) : TE := fun σ H Q => ta σ H fun x H1 => ∃ a dx fs, x = .ref a ∧ H1 a = some (.ins C dx fs) ∧ fs.lookup m = none ∧
  ∀ q, H1 q = none → te σ (upd H1 q (.met g a)) fun y H2 => ∃ b vs, y = .ref b ∧ (SqT K H2 b vs ∨ SqL K H2 b vs) ∧ H2 q = some (.met g a) ∧ sp (.ref a :: vs) H2 Q E
theorem pen_methS {C g : Addr} {m : Str} {sp : Sp} {E : XK} {o e : Expr} {ta te : TE} {p apos pos : Pos} (he : PE X o ta) (c : Cls X.K C) (b : BMeth X.K C m g) (F : FnRn n X.prog X.w X.K X.mg X.base CX k g sp) (hr : Room k X.A) (hx : Passes CX X E) (ha : PE X e te)
    (hbase : attributeBase o m X.env (eval o X.env) = eval o X.env := by rfl) : PEn n X (.Call (.Attribute o m apos) [.Starred e p] [] pos) (tMethSn X.K C m g sp E ta te) := by
  intro pins s σ H Q hn I h
  refine starcall_of hbase (thnN hn (he.run pins s σ H _ I h) fun u s1 hn1 ⟨x, H1, I1, rx, a, dx, fs, ex, ea, l, q⟩ => ?_)
  subst ex
  obtain rfl : u = Value.ref a := rx
  have got : wpAny (model X.prog X.w) X.A (getAttr (.ref a) m true) (fun f s2 => ∃ q1 : Addr, f = .ref q1 ∧ H1 q1 = none ∧ Inv X pins σ (upd H1 q1 (.met g a)) s2) (fun _ _ => False) s1 := getbound_ok I1 ea c b l fun q1 s2 hq1 I2 => ⟨q1, rfl, hq1, I2⟩
  refine thnFN hn1 got fun f s2 hn2 ⟨q1, ef, hq1, I2⟩ => ?_
  subst ef
  refine PySem.W.ks_call (P := PySem.W.MethP X.K q1 g (.ref a)) rfl (PySem.W.keeps_M b.fi) (PySem.W.ks_lone ?_)
  refine thnN hn2 (ha.run pins s2 σ _ _ I2 (q q1 hq1)) fun v s3 hn3 ⟨y, H2, I3, ry, t, vs, ey, ht, hm, hsp⟩ => ?_
  subst ey
  obtain rfl : v = Value.ref t := ry
  have st := StX.star_any (E := X.xe) (Q := fun us s4 => Inv X pins σ H2 s4 ∧ Vals vs us) I3 ht fun us s4 I4 rv => ⟨I4, rv⟩
  unfold PySem.W.StarOf at st ⊢
  refine thnN hn3 st fun b0 s4 hn4 ⟨hb0, z⟩ => ⟨hb0, thnN hn4 z fun us s5 hn5 ⟨I5, rv⟩ => ?_⟩
  exact ⟨met_P I5 hm, wpAny_call (PySem.W.method_call (met_P I5 hm).1 (run_fnRn (us := Value.ref a :: us) (vs := V.ref a :: vs) hn5 F hr hx I5 (.cons rfl rv) hsp))⟩
end
section
variable {P : Program} {w_ : World} {K : PySem.W.Frag} {mg : Str → Option Value} {base : Heap} {n : Nat} {L D fAy fLi pP gP : Addr} {fdLi fdP : FuncData}
theorem scLi : FnScope ["self", "tray"] ["self", "tray"] (defScope sLiveTrayInit) := ⟨rfl, rfl, rfl, by decide +kernel, rfl, by decide +kernel, by decide +kernel⟩
def spLi (K : PySem.W.Frag) (L D : Addr) : Sp := fun vs H Q _ => ∃ (p dx r : Addr) (g : Grid), vs = [.ref p, .ref r] ∧ H p = some (.ins L dx []) ∧ TrayAt K D H r g ∧ r ≠ p ∧ ∀ H', LvAt K L D H' p [] [g] 0 → But p H H' → Q .non H'
theorem ok_li {f : Addr} {fd : FuncData} (F : Fun K "__init__" "LiveTray.__init__" sLiveTrayInit f fd) (CL : ClsL K mg L) : FnOk P w_ K mg base CX0 1 f fd ["self", "tray"] (spLi K L D) := by
  refine F.ok scLi (fun vs H Q E h => ?_) (fun cdv A outer s H vs Q E hr h => ?_)
  · obtain ⟨p, dx, r, g, rfl, _⟩ := h
    rfl
  · obtain ⟨p, dx, r, g, rfl, hp, tr, ne, k⟩ := h
    refine ⟨_, pss_cons (ps_fld (pv 0) (pe_tup (pa_cons (pe_tup pa_nil) (pa_cons (pe_tup (pa_cons (pv 1) pa_nil)) (pa_cons pe_int pa_nil)))) rfl)
      (pss_one (ps_fld (pv 0) pe_non rfl)), ?_⟩
    refine ⟨(by show 0 ≤ sizeLine; decide), fun o ho => ?_⟩
    have s1 := same_new (o := .tup []) ho
    have e1 : upd H o (.tup []) o = some (.tup []) := upd_same
    generalize upd H o (.tup []) = H1 at s1 e1
    refine ⟨_, rfl, (by show 1 ≤ sizeLine; decide), fun t ht => ?_⟩
    have s2 := same_new (o := .tup [V.ref r]) ht
    have e2 : upd H1 t (.tup [V.ref r]) t = some (.tup [V.ref r]) := upd_same
    generalize upd H1 t (.tup [V.ref r]) = H2 at s2 e2
    refine ⟨(by show 3 ≤ sizeLine; decide), fun st hst => ?_⟩
    have s3 := same_new (o := .tup [V.ref o, V.ref t, V.int 0]) hst
    have e3 : upd H2 st (.tup [V.ref o, V.ref t, V.int 0]) st = some (.tup [V.ref o, V.ref t, V.int 0]) := upd_same
    generalize upd H2 st (.tup [V.ref o, V.ref t, V.int 0]) = H3 at s3 e3
    have s13 := (s1.trans s2).trans s3
    have hp3 := s13 _ _ hp
    refine ⟨_, rfl, p, L, dx, _, rfl, hp3, CL.cl, CL.n1, (by show 0 < 1000; decide), ?_⟩
    have e4 : upd H3 p (.ins L dx (putF "_state" (V.ref st) [])) p = some (.ins L dx (putF "_state" (V.ref st) [])) := upd_same
    refine ⟨_, rfl, p, L, dx, _, rfl, e4, CL.cl, CL.n2, (by show 1 < 1000; decide), ?_⟩
    have b : But p H3 (upd (upd H3 p (.ins L dx (putF "_state" (V.ref st) []))) p (.ins L dx (putF "_state_before_block" V.non (putF "_state" (V.ref st) [])))) := fun b o' e hb => by
      rw [upd_ne hb, upd_ne hb]
      exact e
    have sq : ∀ {a : Addr} {xs : List V}, SqT K H3 a xs → SqT K (upd (upd H3 p (.ins L dx (putF "_state" (V.ref st) []))) p (.ins L dx (putF "_state_before_block" V.non (putF "_state" (V.ref st) [])))) a xs := fun q => seq_but q hp3 (fun _ _ => ⟨by simp, by simp⟩) b
    refine k _ ⟨dx, st, upd_same, ⟨⟨o, t, [], [.ref r], sq (SqT.of e3), sq (SqT.of (s3 _ _ (s2 _ _ e1))), sq (SqT.of (s3 _ _ e2)), ⟨rfl, fun k x y z => by simp at z⟩, ⟨rfl, fun k x y z1 z2 => ?_⟩⟩, Nat.le_refl _, rfl⟩⟩ ((But.same s13).trans b)
    cases k with
    | zero =>
      cases z1
      cases z2
      obtain ⟨d, a, hd, hq⟩ := tr.same s13
      exact ⟨r, rfl, d, a, b _ _ hd ne, sq hq⟩
    | succ k => simp at z1
abbrev NRp : List Str := ["cls", "tray", "operations", "live"]
theorem scRp : FnScope NRp ["cls", "tray", "operations"] (defScope sLiveTrayReplay) := ⟨rfl, rfl, rfl, by decide +kernel, rfl, by decide +kernel, by decide +kernel⟩
def spRp (K : PySem.W.Frag) (L D : Addr) : Sp := fun vs H Q _ => ∃ (p l h w : Nat) (g : Grid) (ops : List Op) (xs : List V), vs = [.ref L, .ref p, .ref l] ∧ TrayAt K D H p g ∧ VG h w g ∧ SqL K H l xs ∧ All2 (OpAt K H) xs ops ∧ okAll h w g ops ∧ ops.length ≤ 1000 ∧
  ∀ H' q, LvAt K L D H' q ops (g :: runG h w g ops) ops.length → Same H H' → Q (.ref q) H'
theorem ok_rp {f : Addr} {fd : FuncData} (F : Fun K "replay" "LiveTray.replay" sLiveTrayReplay f fd) (b : Binds K fd ["cls", "tray", "operations"] []) (T : TxtW K mg) (hlst : mg "list" = none) (CL : ClsL K mg L) (ML : Mk K L fLi) (GL : FnOk P w_ K mg base CX0 1 fLi fdLi ["self", "tray"] (spLi K L D)) (bL : Binds K fdLi ["self", "tray"] [])
    (MA : BMeth K L "apply" fAy) (GA : FnRn n P w_ K mg base CX0 7 fAy (spAy K L D)) : FnRn n P w_ K mg base CX0 8 f (spRp K L D) := by
  refine fn_n F b scRp (fun vs H Q E h => ?_) fun cdv A outer s H vs Q E hr h => ?_
  · obtain ⟨p, l, h, w, g, ops, xs, rfl, _⟩ := h
    rfl
  · obtain ⟨p, l, h, w, g, ops, xs, rfl, T0, hV, hl, ao, hok, hz, k⟩ := h
    have nd := scRp.nd
    refine ⟨_, pssn_cons (PS.up (ps_if (pt_not (pt_val (pe_callB call_isi (by rfl) T.isi (by decide +kernel) (pa_cons (pv 2) (pa_cons (pe_bltn (v := .ty "list") (by rfl) hlst (by decide +kernel) rfl) pa_nil))))) pss_never pss_nil))
      (pssn_cut (PS.up (ps_set (i := 3) nd rfl (.inl rfl) (pe_makeV ML GL (hr.mono (by decide)) (pv 0) bL pass0 (pa_cons (pv 1) pa_nil))))
      (pssn_cut (psn_expr (pen_methS (pv 3) CL.cl MA GA hr pass0 (pv 2)))
      (pssn_one (PS.up (ps_ret (pv 3)))))), ?_⟩
    have lx := ao.1
    refine ⟨_, rfl, _, _, _, _, true, rfl, .ty _, TA.sq_ty (.lst hl), kit_ty (by decide +kernel), true, rfl, iteF ?_⟩
    -- a new one
    refine ⟨fun σ H1 => ∃ q, σ = [some (.ref L), some (.ref p), some (.ref l), some (.ref q)] ∧ LvAt K L D H1 q [] [g] 0 ∧ Same H H1 ∧ H q = none, ?_, ?_⟩
    · refine ⟨_, rfl, rfl, _, rfl, ?_⟩
      intro x dx nx ndx nex
      have hx1 : upd (upd H dx (.own x)) x (.ins L dx []) x = some (.ins L dx []) := upd_same
      have s1 : Same H (upd (upd H dx (.own x)) x (.ins L dx [])) := fun c o e => by
        rw [upd_ne (ne_of_none e nx), upd_ne (ne_of_none e ndx)]
        exact e
      have px : p ≠ x := by
        obtain ⟨d, a, e, _⟩ := id T0
        exact ne_of_none e nx
      refine ⟨x, dx, p, g, rfl, hx1, T0.same s1, px, fun H2 hL hb => ⟨rfl, x, rfl, hL, fun c o e => hb _ _ (s1 _ _ e) (ne_of_none e nx), nx⟩⟩
    rintro σ H1 ⟨q, rfl, hL, s1, fq⟩
    -- the operations
    refine ⟨fun σ H2 => σ = [some (.ref L), some (.ref p), some (.ref l), some (.ref q)] ∧ LvAt K L D H2 q ops (g :: runG h w g ops) ops.length ∧ Same H H2, ?_, ?_⟩
    · obtain ⟨dx, st, hq, _⟩ := id hL
      refine ⟨_, rfl, q, dx, _, rfl, hq, rfl, fun m hm => ?_⟩
      have sm := same_new (o := .met fAy q) hm
      refine ⟨_, rfl, l, xs, rfl, .inr ((s1.trans sm).seq hl), upd_same, [.ref q], xs, rfl, rfl, (by show _ ≤ 16777216; omega), fun o ho => ?_⟩
      have so := same_new (o := .tup xs) ho
      have eo : upd (upd H1 m (.met fAy q)) o (.tup xs) o = some (.tup xs) := upd_same
      generalize upd (upd H1 m (.met fAy q)) o (.tup xs) = H2 at so eo
      have s2 := sm.trans so
      refine ⟨q, o, 0, h, w, [], ops, [g], g, xs, rfl, hL.same s2, rfl, hV, SqT.of eo, ao.imp fun x y z => z.same (s1.trans s2), hok, by simpa using hz, fun H3 lr rs hr' lr' vr l1 l2 b3 => ?_⟩
      have sf : Same H H3 := fun c o' e => b3 _ _ ((s1.trans s2) _ _ e) fun z => by rw [z, fq] at e; cases e
      refine ⟨rfl, ?_, sf⟩
      by_cases h0 : ops = []
      · have := l1 h0
        rw [h0]
        exact this
      · have := l2 h0
        rw [show 0 + ops.length = ops.length from Nat.zero_add _] at this
        exact this
    rintro σ H2 ⟨rfl, hL2, s2⟩
    exact ⟨_, rfl, k H2 q hL2 s2⟩
theorem scLvC : FnScope ["self", "x"] ["self", "x"] (defScope sLiveTrayContains) := ⟨rfl, rfl, rfl, by decide +kernel, rfl, by decide +kernel, by decide +kernel⟩
def spLx (K : PySem.W.Frag) (L D : Addr) : Sp := fun vs H Q _ => ∃ (p d c h w : Nat) (os : List Op) (gs : List Grid) (g : Grid), vs = [.ref p, sg c] ∧ LvAt K L D H p os gs d ∧ gs[d]? = some g ∧ VG h w g ∧ ∀ H', Same H H' → Q (.bl (decide (c ∈ mb g.flatten))) H'
theorem ok_lx {f fTc : Addr} {fd : FuncData} (F : Fun K "__contains__" "LiveTray.__contains__" sLiveTrayContains f fd) (CL : ClsL K mg L) (PP : PropOf K L "present_tray" pP gP) (GP_ : FnOk P w_ K mg base CX0 1 gP fdP ["self"] (spPr K L D)) (bP : Binds K fdP ["self"] [])
    (hTc : PySem.W.findIn K (.ref D) "__contains__" = some (some (.ref fTc))) (iTc : PySem.W.isFn K (.ref fTc) = true) (GTc : FnR P w_ K mg base CX0 3 fTc (spTc K D)) : FnOk P w_ K mg base CX0 4 f fd ["self", "x"] (spLx K L D) := by
  refine F.ok scLvC (fun vs H Q E h => ?_) (fun cdv A outer s H vs Q E hr h => ?_)
  · obtain ⟨p, d, c, h, w, os, gs, g, rfl, _⟩ := h
    rfl
  · obtain ⟨p, d, c, h, w, os, gs, g, rfl, hL, hg, hV, k⟩ := h
    refine ⟨_, pss_one (ps_ret (pe_cmpR (op_inOwn hTc iTc GTc hr pass0) (pv 1) (pe_prop (pv 0) CL.cl PP GP_ (hr.mono (by decide)) bP .nil pass0 rfl) (by rfl))), ?_⟩
    obtain ⟨dx, st, hp, _⟩ := id hL
    refine ⟨_, rfl, _, rfl, p, dx, _, rfl, hp, p, d, os, gs, g, rfl, hL, hg, fun r tr => ?_⟩
    obtain ⟨d1, a1, h1, _⟩ := id tr
    have hh : has g [c] = decide (c ∈ mb g.flatten) := by
      show (true && decide (c ∈ mb g.flatten)) = _
      rw [Bool.true_and]
    refine ⟨r, d1, _, rfl, h1, r, _, h, w, g, rfl, tr, hV, .inl ⟨[c], rfl, by simp, fun H1 s1 => ?_⟩⟩
    rw [hh]
    exact ⟨_, rfl, k H1 s1⟩
end
end TI
end
section
set_option Elab.async false
set_option maxRecDepth 100000
set_option linter.all false
namespace TI
open PySem PySem.Spec PyProof.Rows L2 TM TK TB TP TH TU TW TR
section
variable {P : Program} {w_ : World} {K : PySem.W.Frag} {mg : Str → Option Value} {base : Heap} {n : Nat} {L D pP gP pM gM fEn fEx fAy aS : Addr} {fdP fdM : FuncData}
theorem scEn : FnScope ["self"] ["self"] (defScope sLiveTrayEnter) := ⟨rfl, rfl, rfl, by decide +kernel, rfl, by decide +kernel, by decide +kernel⟩
def spEn (K : PySem.W.Frag) (L : Addr) : Sp := fun vs H Q _ => ∃ p dx st, vs = [.ref p] ∧ H p = some (LO L dx st .non) ∧ ∀ H', H' p = some (LO L dx st (.ref st)) → But p H H' → Q (.ref p) H'
theorem ok_en {f : Addr} {fd : FuncData} (F : Fun K "__enter__" "LiveTray.__enter__" sLiveTrayEnter f fd) (CL : ClsL K mg L) : FnOk P w_ K mg base CX0 1 f fd ["self"] (spEn K L) := by
  refine F.ok scEn (fun vs H Q E h => ?_) (fun cdv A outer s H vs Q E hr h => ?_)
  · obtain ⟨p, dx, st, rfl, _⟩ := h
    rfl
  · obtain ⟨p, dx, st, rfl, hp, k⟩ := h
    refine ⟨_, pss_cons (ps_if (pt_cmpR op_notN (pe_fld (pv 0) rfl) pe_non (nomark _)) pss_never pss_nil)
      (pss_cons (ps_fld (pv 0) (pe_fld (pv 0) rfl) rfl)
      (pss_one (ps_ret (pv 0)))), ?_⟩
    refine ⟨_, rfl, p, L, dx, _, _, rfl, hp, CL.cl, CL.n2, rfl, rfl, _, rfl, ?_⟩
    rw [show (!decide ((V.non : V) = V.non)) = false by rw [decide_eq_true rfl]; rfl]
    refine iteF ?_
    refine ⟨_, rfl, p, L, dx, _, _, rfl, hp, CL.cl, CL.n1, rfl, _, rfl, p, L, dx, _, rfl, hp, CL.cl, CL.n2, (by show 2 < 1000; decide), ?_⟩
    exact ⟨_, rfl, k _ upd_same fun b o e hb => by rw [upd_ne hb]; exact e⟩
theorem scEx : FnScope ["self", "kind", "value", "trace"] ["self", "kind", "value", "trace"] (defScope sLiveTrayExit) := ⟨rfl, rfl, rfl, by decide +kernel, rfl, by decide +kernel, by decide +kernel⟩
def spEx_ (K : PySem.W.Frag) (L : Addr) : Sp := fun vs H Q _ => ∃ p dx st s0, vs = [.ref p, .non, .non, .non] ∧ H p = some (LO L dx st (.ref s0)) ∧ ∀ H', H' p = some (LO L dx s0 .non) → But p H H' → Q .non H'
theorem ok_ex_ {f : Addr} {fd : FuncData} (F : Fun K "__exit__" "LiveTray.__exit__" sLiveTrayExit f fd) (CL : ClsL K mg L) : FnOk P w_ K mg base CX0 1 f fd ["self", "kind", "value", "trace"] (spEx_ K L) := by
  refine F.ok scEx (fun vs H Q E h => ?_) (fun cdv A outer s H vs Q E hr h => ?_)
  · obtain ⟨p, dx, st, s0, rfl, _⟩ := h
    rfl
  · obtain ⟨p, dx, st, s0, rfl, hp, k⟩ := h
    refine ⟨_, pss_cons (ps_fld (pv 0) (pe_fld (pv 0) rfl) rfl)
      (pss_one (ps_fld (pv 0) pe_non rfl)), ?_⟩
    refine ⟨_, rfl, p, L, dx, _, _, rfl, hp, CL.cl, CL.n2, rfl, _, rfl, p, L, dx, _, rfl, hp, CL.cl, CL.n1, (by show 2 < 1000; decide), ?_⟩
    refine ⟨_, rfl, p, L, dx, _, rfl, upd_same, CL.cl, CL.n2, (by show 2 < 1000; decide), ?_⟩
    exact k _ upd_same fun b o e hb => by rw [upd_ne hb, upd_ne hb]; exact e
/-- apply, whatever stands in the block's field -/
def spAyU (K : PySem.W.Frag) (L D : Addr) : Sp := fun vs H Q E => ∃ ws rest, vs = ws ++ rest ∧ ws.length = (["self"] : List Str).length ∧ rest.length ≤ sizeLine ∧ ∀ p, H p = none → spApCU K L D (ws ++ [V.ref p]) (upd H p (.tup rest)) Q E
theorem runG_ix {h w : Nat} : ∀ (ops : List Op) (g : Grid) (k : Nat), k < ops.length → (runG h w g ops)[k]? = some (atG h w g ops (k + 1))
  | [], _, _, hk => absurd hk (Nat.not_lt_zero _)
  | o :: r, g, 0, _ => rfl
  | o :: r, g, k + 1, hk => runG_ix r (stepG h w g o) k (Nat.lt_of_succ_lt_succ hk)
abbrev NTa : List Str := ["self", "operations", "after"]
theorem scTa : FnScope NTa ((["self"] : List Str) ++ (["operations"] : List Str)) (defScope sLiveTrayTrayAfter) := ⟨rfl, rfl, rfl, by decide +kernel, rfl, by decide +kernel, by decide +kernel⟩
/-- behind tray_after -/
def spTaC (K : PySem.W.Frag) (L D : Addr) : Sp := fun vs H Q _ => ∃ (p o d h w : Nat) (os ops : List Op) (gs : List Grid) (g : Grid) (xs : List V), vs = [.ref p, .ref o] ∧ LvAt K L D H p os gs d ∧ gs[d]? = some g ∧ VG h w g ∧ SqT K H o xs ∧ All2 (OpAt K H) xs ops ∧ okAll h w g ops ∧ os.length + ops.length ≤ 1000 ∧
  ∀ H' r, LvAt K L D H' p os gs d → But p H H' → TrayAt K D H' r (atG h w g ops ops.length) → Q (.ref r) H'
theorem ok_ta {f : Addr} {fd : FuncData} (F : Fun K "tray_after" "LiveTray.tray_after" sLiveTrayTrayAfter f fd) (hb : ∀ us rest : List Value, us.length = (["self"] : List Str).length → bindArgs fd ⟨us ++ rest, []⟩ = (newTuple rest >>= fun t => pure ((["self"] : List Str).zip us ++ [(("operations" : Str), t)]))) (CL : ClsL K mg L)
    (hE : PySem.W.findIn K (.ref L) "__enter__" = some (some (.ref fEn))) (iE : PySem.W.isFn K (.ref fEn) = true) (FE : FnR P w_ K mg base CX0 1 fEn (spEn K L)) (hX : PySem.W.findIn K (.ref L) "__exit__" = some (some (.ref fEx))) (iX : PySem.W.isFn K (.ref fEx) = true) (FX : FnR P w_ K mg base CX0 1 fEx (spEx_ K L))
    (MA : BMeth K L "apply" fAy) (GA : FnRn n P w_ K mg base CX0 7 fAy (spAyU K L D)) (PP : PropOf K L "present_tray" pP gP) (GP_ : FnOk P w_ K mg base CX0 1 gP fdP ["self"] (spPrU K L D)) (bP : Binds K fdP ["self"] []) :
    FnRn n P w_ K mg base CX0 8 f (fun vs H Q E => ∃ ws rest, vs = ws ++ rest ∧ ws.length = (["self"] : List Str).length ∧ rest.length ≤ sizeLine ∧ ∀ p, H p = none → spTaC K L D (ws ++ [V.ref p]) (upd H p (.tup rest)) Q E) := by
  refine fn_starN F scTa StX.cxUp_none hb fun cdv A outer s H vs Q E hr h => ?_
  obtain ⟨p, o, d, h, w, os, ops, gs, g, xs, rfl, hL, hg, hV, ho, ao, hok, hz, k⟩ := h
  have nd := scTa.nd
  have r1 : Room 1 _ := hr.mono (by decide)
  have r2 : Room 2 _ := hr.mono (by decide)
  refine ⟨_, pssn_cut (psn_with (k := 1) (pv 0) hE iE (fun A outer s H us vs Q E _ => FE A outer s H us vs Q E) hX iX (fun A outer s H us vs Q E _ => FX A outer s H us vs Q E) r1 pass0
      (pssn_cut (psn_expr (pen_methS (pv 0) CL.cl MA GA hr pass0 (pv 1)))
      (pssn_one (PS.up (ps_set (i := 2) nd rfl (.inl rfl) (pe_prop (pv 0) CL.cl PP GP_ r2 bP .nil pass0 rfl))))))
    (pssn_one (PS.up (ps_ret (pv 2)))), ?_⟩
  obtain ⟨dx, st, hp, hSt⟩ := id hL
  have lx := ao.1
  refine ⟨fun σ H1 => ∃ r, σ = [some (.ref p), some (.ref o), some (.ref r)] ∧ LvAt K L D H1 p os gs d ∧ But p H H1 ∧ TrayAt K D H1 r (atG h w g ops ops.length), ?_, ?_⟩
  · refine ⟨_, rfl, p, dx, _, rfl, hp, p, dx, st, rfl, hp, fun H1 hp1 b1 => ?_⟩
    have hL1 : LvU K L D (.ref st) H1 p os gs d := ⟨dx, st, hp1, st_lv hSt hp b1⟩
    refine ⟨fun σ H2 => σ = [some (.ref p), some (.ref o), none] ∧ (∃ os' gs' d', LvU K L D (.ref st) H2 p os' gs' d' ∧ gs'[d']? = some (atG h w g ops ops.length)) ∧ But p H1 H2, ?_, ?_⟩
    · refine ⟨_, rfl, p, dx, _, rfl, hp1, rfl, fun m hm => ?_⟩
      have sm := same_new (o := .met fAy p) hm
      refine ⟨_, rfl, o, xs, rfl, .inl (sm.tup (seq_lv ho hp b1)), upd_same, [.ref p], xs, rfl, rfl, (by show _ ≤ 16777216; omega), fun q hq => ?_⟩
      have so := same_new (o := .tup xs) hq
      have eo : upd (upd H1 m (.met fAy p)) q (.tup xs) q = some (.tup xs) := upd_same
      generalize upd (upd H1 m (.met fAy p)) q (.tup xs) = H2 at so eo
      have s2 := sm.trans so
      refine ⟨.ref st, p, q, d, h, w, os, ops, gs, g, xs, rfl, hL1.same s2, hg, hV, SqT.of eo, ao.imp fun x y z => (op_lv z hp b1).same s2, hok, hz, fun H3 lr rs hr' lr' vr l1 l2 b3 => ⟨rfl, ?_, (But.same s2).trans b3⟩⟩
      by_cases h0 : ops = []
      · refine ⟨os, gs, d, l1 h0, ?_⟩
        rw [hg, h0]
        rfl
      · have hd : d < gs.length := (List.getElem?_eq_some_iff.mp hg).1
        have pos : 1 ≤ ops.length := by
          cases ops with
          | nil => exact absurd rfl h0
          | cons _ _ => simp
        refine ⟨_, _, _, l2 h0, ?_⟩
        have tl : (gs.take (d + 1)).length = d + 1 := by rw [List.length_take]; omega
        rw [List.getElem?_append_right (by rw [tl]; omega), tl, show d + ops.length - (d + 1) = ops.length - 1 by omega, runG_ix ops g (ops.length - 1) (by omega), show ops.length - 1 + 1 = ops.length by omega]
    rintro σ H2 ⟨rfl, ⟨os', gs', d', hL2, hg2⟩, b2⟩
    obtain ⟨dx2, st2, hp2, hSt2⟩ := id hL2
    refine ⟨_, rfl, p, dx2, _, rfl, hp2, .ref st, p, d', os', gs', _, rfl, hL2, hg2, fun r tr => ?_⟩
    refine ⟨p, dx2, st2, st, rfl, hp2, fun H3 hp3 b3 => ⟨r, rfl, ⟨dx2, st, hp3, st_lv hSt hp ((b1.trans b2).trans b3)⟩, (b1.trans b2).trans b3, tray_lv tr hp2 b3⟩⟩
  rintro σ H1 ⟨r, rfl, hL1, b1, t1⟩
  exact ⟨_, rfl, k H1 r hL1 b1 t1⟩
theorem srt_lenF (l : List Nat) : (srt l).length = l.length := (srt_perm l).length_eq
theorem scLn : FnScope ["self"] ["self"] (defScope sLiveTrayLen) := ⟨rfl, rfl, rfl, by decide +kernel, rfl, by decide +kernel, by decide +kernel⟩
def spLn (K : PySem.W.Frag) (L D : Addr) : Sp := fun vs H Q _ => ∃ (p d h w : Nat) (os : List Op) (gs : List Grid) (g : Grid), vs = [.ref p] ∧ LvAt K L D H p os gs d ∧ gs[d]? = some g ∧ VG h w g ∧ ∀ H', Same H H' → Q (.int ((mb g.flatten).length : Nat)) H'
theorem ok_ln {f : Addr} {fd : FuncData} (F : Fun K "__len__" "LiveTray.__len__" sLiveTrayLen f fd) (CL : ClsL K mg L) (CT : ClsT K mg D) (hlen : mg "len" = none) (PP : PropOf K L "present_tray" pP gP) (GP_ : FnOk P w_ K mg base CX0 1 gP fdP ["self"] (spPr K L D)) (bP : Binds K fdP ["self"] [])
    (PM : PropOf K D "marbles" pM gM) (GM : FnOk P w_ K mg base CX0 1 gM fdM ["self"] (spMb K D)) (bM : Binds K fdM ["self"] []) : FnOk P w_ K mg base CX0 3 f fd ["self"] (spLn K L D) := by
  refine F.ok scLn (fun vs H Q E h => ?_) (fun cdv A outer s H vs Q E hr h => ?_)
  · obtain ⟨p, d, h, w, os, gs, g, rfl, _⟩ := h
    rfl
  · obtain ⟨p, d, h, w, os, gs, g, rfl, hL, hg, hV, k⟩ := h
    refine ⟨_, pss_one (ps_ret (pe_callB call_len_str (by rfl) hlen PySem.boot_len (pa_cons (pe_prop (pe_prop (pv 0) CL.cl PP GP_ (hr.mono (by decide)) bP .nil pass0 rfl) CT.cl PM GM (hr.mono (by decide)) bM .nil pass0 rfl) pa_nil))), ?_⟩
    obtain ⟨dx, st, hp, _⟩ := id hL
    refine ⟨_, rfl, p, dx, _, rfl, hp, p, d, os, gs, g, rfl, hL, hg, fun r tr => ?_⟩
    obtain ⟨d1, a1, h1, _⟩ := id tr
    refine ⟨r, d1, _, rfl, h1, r, h, w, g, rfl, tr, hV, fun H1 s1 => ⟨_, rfl, ?_⟩⟩
    have e : ((S (srt (mb g.flatten))).length : Int) = ((mb g.flatten).length : Nat) := by
      rw [S_len, srt_lenF]
    rw [e]
    refine ⟨?_, k H1 s1⟩
    have m26 := mb_26 hV
    rw [S_len, srt_lenF]
    show _ ≤ 16777216
    omega
end
end TI
end
section
set_option Elab.async false
set_option maxRecDepth 100000
set_option linter.all false
namespace TI
open PySem PySem.Spec PyProof.Rows L2 TM TK TB TP TH TU TW TR
theorem putc_back {h w : Nat} {g : Grid} (hV : VG h w g) {c : Nat} (hc : c ∈ mb g.flatten) : putc (putc g (g.flatten.idxOf c / w) (g.flatten.idxOf c % w) 46) (g.flatten.idxOf c / w) (g.flatten.idxOf c % w) c = g := by
  obtain ⟨_, e, hi, hj, ek⟩ := tk_place hV hc
  have R1 := putc_rect hV.rc hi (j := g.flatten.idxOf c % w) (c := 46)
  have R2 := putc_rect R1 hi (j := g.flatten.idxOf c % w) (c := c)
  refine same_flat R2 hV.rc ?_
  have lg : g.flatten.idxOf c / w < g.length := by rw [hV.rc.1]; exact hi
  have l1 : g.flatten.idxOf c / w < (putc g (g.flatten.idxOf c / w) (g.flatten.idxOf c % w) 46).length := by rw [R1.1]; exact hi
  rw [putc_flat R1.2 l1 hj, putc_flat hV.rc.2 lg hj, ek, List.set_set]
  refine List.ext_getElem? fun n => ?_
  rw [List.getElem?_set]
  by_cases z : g.flatten.idxOf c = n
  · rw [if_pos z, if_pos (by exact (List.getElem?_eq_some_iff.mp e).1), ← z]
    exact e.symm
  · rw [if_neg z]
/-- the tray without it -/
theorem taken_out {h w : Nat} {g : Grid} (hV : VG h w g) {c : Nat} (hc : c ∈ mb g.flatten) : okOp h w (stepG h w g (.tk c)) (.pt c (g.flatten.idxOf c / w) (g.flatten.idxOf c % w)) ∧ stepG h w (stepG h w g (.tk c)) (.pt c (g.flatten.idxOf c / w) (g.flatten.idxOf c % w)) = g ∧ VG h w (stepG h w g (.tk c)) ∧ c ∉ mb (stepG h w g (.tk c)).flatten ∧ (mb (stepG h w g (.tk c)).flatten).length + 1 = (mb g.flatten).length := by
  have V0 : VG h w (stepG h w g (.tk c)) := stepG_VG hV hc
  have bk : putc (stepG h w g (.tk c)) (g.flatten.idxOf c / w) (g.flatten.idxOf c % w) c = g := putc_back hV hc
  obtain ⟨ne, e, hi, hj, ek⟩ := tk_place hV hc
  have lg : g.flatten.idxOf c / w < g.length := by rw [hV.rc.1]; exact hi
  have lt := (List.getElem?_eq_some_iff.mp e).1
  have at_ : (stepG h w g (.tk c)).flatten[g.flatten.idxOf c / w * w + g.flatten.idxOf c % w]? = some 46 := by
    show (putc g (g.flatten.idxOf c / w) (g.flatten.idxOf c % w) 46).flatten[g.flatten.idxOf c / w * w + g.flatten.idxOf c % w]? = some 46
    rw [putc_flat hV.rc.2 lg hj, ek, List.getElem?_set_self lt]
  have pm := putc_more V0 hi hj at_ ne
  rw [bk] at pm
  have nd : (c :: mb (stepG h w g (.tk c)).flatten).Nodup := pm.nodup_iff.mp hV.nd
  have no : c ∉ mb (stepG h w g (.tk c)).flatten := (List.nodup_cons.mp nd).1
  have lt2 := mb_let hV c hc
  exact ⟨⟨by omega, by omega, no, hi, hj, at_⟩, bk, V0, no, pm.length_eq.symm⟩
/-- what lies where a marble lies -/
theorem at_marble {h w : Nat} {g : Grid} (hV : VG h w g) {c : Nat} (hc : c ∈ mb g.flatten) : atV g (g.flatten.idxOf c / w) (g.flatten.idxOf c % w) = sg c := by
  obtain ⟨ne, e, hi, hj, ek⟩ := tk_place hV hc
  have f := flat_at hV.rc hi hj
  rw [ek, e] at f
  have hrow := getD_at (show g.flatten.idxOf c / w < g.length by rw [hV.rc.1]; exact hi)
  have hlw : (g.getD (g.flatten.idxOf c / w) []).length = w := getD_len hV.rc hi
  have e0 : (g.getD (g.flatten.idxOf c / w) []).getD (g.flatten.idxOf c % w) 0 = c := (Option.some.inj f).symm
  have e1 : (g.getD (g.flatten.idxOf c / w) []).getD (g.flatten.idxOf c % w) 46 = c := by
    have lj : g.flatten.idxOf c % w < (g.getD (g.flatten.idxOf c / w) []).length := by rw [hlw]; exact hj
    rw [List.getD_eq_getElem?_getD, List.getElem?_eq_getElem lj] at e0 ⊢
    exact e0
  unfold atV
  rw [e1, if_neg ne]
end TI
end
section
set_option Elab.async false
set_option maxRecDepth 100000
set_option linter.all false
namespace TI
open PySem PySem.Spec PyProof.Rows L2 TM TK TB TP TH TU TW TR
def opD : Op → PyData
  | .tl c => .tuple [.str (Str.ofString "tilt"), .str (S [c])]
  | .pt c i j => .tuple [.str (Str.ofString "put"), .str (S [c]), .tuple [.int (i : Nat), .int (j : Nat)]]
  | .tk c => .tuple [.str (Str.ofString "take"), .str (S [c])]
theorem dp_op {K : PySem.W.Frag} {H : Hp} : ∀ (u : List Op) (xs : List V), All2 (OpAt K H) xs u → DpAll K H xs (u.map opD)
  | [], xs, h => by
    have := h.1
    rw [List.eq_nil_of_length_eq_zero (this.trans rfl)]
    exact .nil
  | o :: u, [], h => by
    have := h.1
    simp at this
  | o :: u, x :: xs, h => by
    have rest := dp_op u xs ⟨by have := h.1; simpa using this, fun k x' y' h1 h2 => h.2 (k + 1) x' y' h1 h2⟩
    obtain ⟨a, zs, rfl, hS, hz⟩ := h.2 0 x o rfl rfl
    cases o with
    | tl c =>
      have hz : zs = [.str (Str.ofString "tilt"), sg c] := hz
      subst hz
      exact .cons (.tup hS (.cons (.str _) (.cons (.str _) .nil))) rest
    | pt c i j =>
      obtain ⟨q, rfl, hq⟩ := hz
      exact .cons (.tup hS (.cons (.str _) (.cons (.str _) (.cons (.tup hq (.cons (.int _) (.cons (.int _) .nil))) .nil)))) rest
    | tk c =>
      have hz : zs = [.str (Str.ofString "take"), sg c] := hz
      subst hz
      exact .cons (.tup hS (.cons (.str _) (.cons (.str _) .nil))) rest
theorem op_eqv (u : List Op) : PyData.eqv (.list (u.map opD)) (.list (u.map opD)) = true := by
  rw [PyData.eqv]
  induction u with
  | nil => rfl
  | cons c u ih =>
    rw [List.map_cons, PyData.eqvAll, ih]
    cases c <;> simp [opD, PyData.eqv, PyData.eqvAll]
theorem op_depth (u : List Op) : PyData.depthAll (u.map opD) ≤ 3 := by
  induction u with
  | nil => simp [PyData.depthAll]
  | cons c u ih =>
    rw [List.map_cons, PyData.depthAll]
    cases c <;> (simp only [opD, PyData.depth, PyData.depthAll]; omega)
/-- letters and small places alone -/
def opFit : Op → Prop
  | .tl c => isT c = true
  | .pt c i j => c < 123 ∧ i < 8 ∧ j < 8
  | .tk c => c < 123
theorem op_lay {u : List Op} (hu : ∀ o ∈ u, opFit o) : PyData.canLayAll0 (u.map opD) = true := by
  induction u with
  | nil => rfl
  | cons o u ih =>
    rw [List.map_cons, PyData.canLayAll0, ih fun d hd => hu d (List.mem_cons_of_mem _ hd)]
    have one : (opD o).canLay0 = true := by
      have hf := hu o List.mem_cons_self
      cases o with
      | tl c =>
        rcases t4 hf with rfl | rfl | rfl | rfl
        all_goals decide +kernel
      | pt c i j =>
        obtain ⟨h1, h2, h3⟩ := hf
        have : ∀ c < 123, ∀ i < 8, ∀ j < 8, (opD (.pt c i j)).canLay0 = true := by decide +kernel
        exact this c h1 i h2 j h3
      | tk c =>
        have : ∀ c < 123, (opD (.tk c)).canLay0 = true := by decide +kernel
        exact this c hf
    rw [one]
    rfl
theorem op_shaped {u : List Op} (hu : ∀ o ∈ u, opFit o) : SeqAt.shaped (.list (u.map opD)) = true := by
  refine Bool.and_eq_true_iff.mpr ⟨?_, decide_eq_true ?_⟩
  · rw [PyData.canLay0]
    exact op_lay hu
  · rw [PyData.depth]
    have := op_depth u
    omega
theorem okOp_fit {h w : Nat} {g : Grid} {o : Op} (hV : VG h w g) (ho : okOp h w g o) : opFit o := by
  cases o with
  | tl c => exact ho
  | pt c i j =>
    obtain ⟨_, h2, _, h3, h4, _⟩ := ho
    exact ⟨h2, Nat.lt_of_lt_of_le h3 hV.n8, Nat.lt_of_lt_of_le h4 hV.m8⟩
  | tk c => exact (TR.mb_let hV _ ho).2
section
variable {P : Program} {w_ : World} {K : PySem.W.Frag} {mg : Str → Option Value} {base : Heap} {n : Nat} {L D CU fAt gH gW pH pW : Addr} {fdAt fdH fdW : FuncData}
abbrev NFr : List Str := ["_law_tray_here", "_law_found", "_law_line", "_law_column"]
theorem scFr : FnScope NFr ["_law_tray_here"] (defScope sLawFree) := ⟨rfl, rfl, rfl, by decide +kernel, rfl, by decide +kernel, by decide +kernel⟩
/-- a free place -/
def FreeAt (H : Hp) (h w : Nat) (g : Grid) (x : V) : Prop := ∃ q i j, x = .ref q ∧ H q = some (.tup [.int (i : Nat), .int (j : Nat)]) ∧ i < h ∧ j < w ∧ g.flatten[i * w + j]? = some 46
theorem FreeAt.same {H H' : Hp} {h w : Nat} {g : Grid} {x : V} (z : FreeAt H h w g x) (s : Same H H') : FreeAt H' h w g x := by
  obtain ⟨q, i, j, e, h1, h2⟩ := z
  exact ⟨q, i, j, e, s _ _ h1, h2⟩
theorem FreeAt.but {H H' : Hp} {h w : Nat} {g : Grid} {x : V} {r : Addr} {ys : List V} (z : FreeAt H h w g x) (hr : H r = some (.lst ys)) (b : But r H H') : FreeAt H' h w g x := by
  obtain ⟨q, i, j, e, h1, h2⟩ := z
  exact ⟨q, i, j, e, b _ _ h1 fun y => (by rw [y, hr] at h1; cases h1), h2⟩
theorem at_free {h w i j : Nat} {g : Grid} (hV : VG h w g) (hi : i < h) (hj : j < w) (e : atV g i j = .non) : g.flatten[i * w + j]? = some 46 := by
  have f := flat_at hV.rc hi hj
  rw [f]
  have hlw : (g.getD i []).length = w := getD_len hV.rc hi
  have lj : j < (g.getD i []).length := by rw [hlw]; exact hj
  unfold atV at e
  have c46 : (g.getD i []).getD j 46 = 46 := by
    by_cases c : (g.getD i []).getD j 46 = 46
    · exact c
    · rw [if_neg c] at e
      cases e
  rw [List.getD_eq_getElem?_getD, List.getElem?_eq_getElem lj] at c46
  show some ((g.getD i []).getD j 0) = some 46
  rw [List.getD_eq_getElem?_getD, List.getElem?_eq_getElem lj]
  exact congrArg some c46
def spFr (K : PySem.W.Frag) (D : Addr) : Sp := fun vs H Q _ => ∃ (p h w : Nat) (g : Grid), vs = [.ref p] ∧ TrayAt K D H p g ∧ VG h w g ∧ ∀ H' l xs, Same H H' → H' l = some (.lst xs) → xs.length ≤ 64 → (∀ x ∈ xs, FreeAt H' h w g x) → Q (.ref l) H'
theorem ok_fr {f : Addr} {fd : FuncData} (F : Fun K "_law_free" "_law_free" sLawFree f fd) (T : TxtW K mg) (hrng : mg "range" = none) (CT : ClsT K mg D) (MA : Meth K D "at" fAt) (GA : FnOk P w_ K mg base (L2.CX P w_) 4 fAt fdAt ["self", "place"] (spAt K D CU)) (bA : Binds K fdAt ["self", "place"] [])
    (PH : PropOf K D "height" pH gH) (GH : FnOk P w_ K mg base CX0 1 gH fdH ["self"] (spHt K D)) (bH : Binds K fdH ["self"] []) (PW_ : PropOf K D "width" pW gW) (GW : FnOk P w_ K mg base CX0 1 gW fdW ["self"] (spWd K D)) (bW : Binds K fdW ["self"] []) :
    FnOk P w_ K mg base CX0 5 f fd ["_law_tray_here"] (spFr K D) := by
  refine F.ok scFr (fun vs H Q E h => ?_) (fun cdv A outer s H vs Q E hr h => ?_)
  · obtain ⟨p, h, w, g, rfl, _⟩ := h
    rfl
  · obtain ⟨p, h, w, g, rfl, T0, hV, k⟩ := h
    have nd := scFr.nd
    have r2 : Room 2 _ := hr.mono (by decide)
    refine ⟨_, C8.pss_cut (ps_set (i := 1) nd rfl (.inl rfl) (pe_lst pa_nil))
      (C8.pss_cut (ps_for PassesOwn.never rfl (pi_range1 (by rfl) hrng (pa_cons (pe_prop (pv 0) CT.cl PH GH r2 bH .nil pass0 rfl) pa_nil)) (pg_name (i := 2) nd rfl (.inr rfl))
        (pss_one (ps_set (i := 1) nd rfl (.inl rfl) (pe_op op_cat (pv 1) (pe_lc (own := [("_law_column", 3)]) (g := gName 3) rfl nd (pi_range1 (by rfl) hrng (pa_cons (pe_prop (pv 0) CT.cl PW_ GW r2 bW .nil pass0 rfl) pa_nil)) (blkOk_by (N := NFr) (sc := defScope sLawFree) (by decide +kernel)) (fun _ _ _ _ _ => pg_name (i := 3) nd rfl (.inl rfl))
          (fun _ _ _ _ _ => pts_one (pt_cmpR op_isN (pe_meth (pv 0) CT.cl MA GA (hr.mono (by decide)) bA .nil passL (pa_cons (pe_tup (pa_cons (pv 2) (pa_cons (pv 3) pa_nil))) pa_nil)) pe_non (nomark _))) (fun _ _ _ _ _ => pe_tup (pa_cons (pv 2) (pa_cons (pv 3) pa_nil))))))))
      (pss_one (ps_ret (pv 1)))), ?_⟩
    refine ⟨fun σ H1 => ∃ l, σ = [some (.ref p), some (.ref l), none, none] ∧ Same H H1 ∧ H1 l = some (.lst []), ?_, ?_⟩
    · exact ⟨(by show 0 ≤ sizeLine; decide), fun l hl => ⟨l, rfl, same_new hl, upd_same⟩⟩
    rintro σ H1 ⟨l, rfl, s1, hl⟩
    refine ⟨fun σ H2 => ∃ l xs v2 v3, σ = [some (V.ref p), some (.ref l), v2, v3] ∧ Same H1 H2 ∧ H2 l = some (.lst xs) ∧ xs.length ≤ h * w ∧ ∀ x ∈ xs, FreeAt H2 h w g x, ?_, ?_⟩
    · have T1 := T0.same s1
      obtain ⟨d1, a1, h1, _⟩ := id T1
      have h8 := hV.n8
      have w8 := hV.m8
      refine ⟨_, rfl, p, d1, _, rfl, h1, p, h, w, g, rfl, T1, hV, (h : Int), rfl, by omega, by omega, for_range (lo := 0) (n := ((h : Nat) : Int).toNat) (fun i σ H2 => ∃ l xs v2 v3, σ = [some (V.ref p), some (.ref l), v2, v3] ∧ Same H1 H2 ∧ H2 l = some (.lst xs) ∧ xs.length ≤ i * w ∧ ∀ x ∈ xs, FreeAt H2 h w g x)
        ⟨l, [], none, none, rfl, Same.refl H1, hl, by simp, fun x hx => absurd hx List.not_mem_nil⟩ ?_ ?_⟩
      · rintro i σ H2 hi ⟨l2, xs, v2, v3, rfl, s2, hl2, lx, fx⟩
        rw [Int.toNat_natCast] at hi
        rw [Int.zero_add]
        have T2 := T1.same s2
        obtain ⟨d2, a2, h2, _⟩ := id T2
        refine ⟨_, rfl, _, rfl, p, d2, _, rfl, h2, p, h, w, g, rfl, T2, hV, (w : Int), rfl, by omega, by omega, fun D hD => lc_range (lo := 0) (n := ((w : Nat) : Int).toNat) (fun j H3 => Same H2 H3 ∧ ∃ ys, H3 D = some (.lst ys) ∧ ys.length ≤ j ∧ ∀ x ∈ ys, FreeAt H3 h w g x)
          ⟨same_new hD, [], upd_same, by simp, fun x hx => absurd hx List.not_mem_nil⟩ ?_ ?_⟩
        · rintro j H3 hj ⟨s3, ys, hD3, ly, fy⟩
          rw [Int.toNat_natCast] at hj
          rw [Int.zero_add]
          have T3 := T2.same s3
          obtain ⟨d3, a3, h3, _⟩ := id T3
          refine ⟨rfl, _, rfl, p, d3, _, rfl, h3, rfl, _, rfl, _, rfl, (by show 2 ≤ sizeLine; decide), fun q hq => ?_⟩
          have s4 := same_new (o := .tup [V.int (i : Nat), V.int (j : Nat)]) hq
          have e4 : upd H3 q (.tup [V.int (i : Nat), V.int (j : Nat)]) q = some (.tup [V.int (i : Nat), V.int (j : Nat)]) := upd_same
          generalize upd H3 q (.tup [V.int (i : Nat), V.int (j : Nat)]) = H4 at s4 e4
          refine ⟨p, _, h, w, g, rfl, T3.same s4, hV, .inl ⟨q, i, j, rfl, SqT.of e4, hi, hj, ?_⟩⟩
          refine ⟨rfl, _, rfl, ?_⟩
          by_cases e : atV g i j = .non
          · rw [decide_eq_true e]
            refine iteT ⟨_, rfl, _, rfl, (by show 2 ≤ sizeLine; decide), fun q2 hq2 => ?_⟩
            have s5 := same_new (o := .tup [V.int (i : Nat), V.int (j : Nat)]) hq2
            have e5 : upd H4 q2 (.tup [V.int (i : Nat), V.int (j : Nat)]) q2 = some (.tup [V.int (i : Nat), V.int (j : Nat)]) := upd_same
            generalize upd H4 q2 (.tup [V.int (i : Nat), V.int (j : Nat)]) = H5 at s5 e5
            have hD5 := (s4.trans s5) _ _ hD3
            have b5 : ∀ o, But D H5 (upd H5 D o) := fun o b o' e hb => by rw [upd_ne hb]; exact e
            refine ⟨ys, hD5, (by show _ < 16777216; omega), same_put ((s3.trans s4).trans s5) hD, _, upd_same, by rw [List.length_append]; exact Nat.succ_le_succ ly, fun x hx => ?_⟩
            rcases List.mem_append.mp hx with hx | hx
            · exact ((fy x hx).same (s4.trans s5)).but hD5 (b5 _)
            · rw [List.mem_singleton.mp hx]
              exact FreeAt.but ⟨q2, i, j, rfl, e5, hi, hj, at_free hV hi hj e⟩ hD5 (b5 _)
          · rw [decide_eq_false e]
            exact iteF ⟨s3.trans s4, ys, s4 _ _ hD3, by omega, fun x hx => (fy x hx).same s4⟩
        · rintro H3 ⟨s3, ys, hD3, ly, fy⟩
          rw [Int.toNat_natCast] at ly
          have iw : i * w ≤ 8 * 8 := Nat.mul_le_mul (by omega) w8
          refine ⟨l2, D, xs, ys, rfl, rfl, s3 _ _ hl2, hD3, (by show _ ≤ 16777216; omega), fun l3 hl3 => ?_⟩
          have s4 := same_new (o := .lst (xs ++ ys)) hl3
          refine ⟨l3, xs ++ ys, _, _, rfl, (s2.trans s3).trans s4, upd_same, ?_, fun x hx => ?_⟩
          · rw [List.length_append, Nat.succ_mul]
            omega
          · rcases List.mem_append.mp hx with hx | hx
            · exact (fx x hx).same (s3.trans s4)
            · exact (fy x hx).same s4
      · rintro σ H2 ⟨l2, xs, v2, v3, rfl, s2, hl2, lx, fx⟩
        rw [Int.toNat_natCast] at lx
        exact ⟨l2, xs, v2, v3, rfl, s2, hl2, lx, fx⟩
    rintro σ H2 ⟨l2, xs, v2, v3, rfl, s2, hl2, lx, fx⟩
    have hw : h * w ≤ 64 := Nat.mul_le_mul hV.n8 hV.m8
    exact ⟨_, rfl, k H2 l2 xs (s1.trans s2) hl2 (by omega) fx⟩
end
end TI
end
section
set_option Elab.async false
set_option maxRecDepth 100000
set_option linter.all false
namespace TI
open PySem PySem.Spec PyProof.Rows L2 TM TK TB TP TH TU TW TR
section
variable {P : Program} {w_ : World} {K : PySem.W.Frag} {mg : Str → Option Value} {base : Heap} {n : Nat} {L D CU fTk fTc fFr gM pM : Addr} {fdTk fdFr fdM : FuncData}
def spare : List Nat := [97, 98, 99, 100, 101, 102, 103, 104, 105, 106, 107, 108]
abbrev NDe : List Str := ["_law_row", "_law_tray_here", "_law_word", "_law_spare", "_law_name", "_law_free_here"]
theorem scDe : FnScope NDe ["_law_row", "_law_tray_here"] (defScope sLawDeed) := ⟨rfl, rfl, rfl, by decide +kernel, rfl, by decide +kernel, by decide +kernel⟩
def spDe (K : PySem.W.Frag) (D a : Addr) (ns : List Int) : Sp := fun vs H Q _ => ∃ (r p h w : Nat) (g : Grid), vs = [.ref r, .ref p] ∧ RowAt K a ns H r ∧ TrayAt K D H p g ∧ VG h w g ∧ ∀ H' x o, RowAt K a ns H' r → But r H H' → H' x ≠ none → OpAt K H' (.ref x) o → okOp h w g o → Q (.ref x) H'
theorem tray_row {K : PySem.W.Frag} {D a r p : Addr} {ns : List Int} {H H' : Hp} {g : Grid} (T : TrayAt K D H p g) (R : RowAt K a ns H r) (b : But r H H') : TrayAt K D H' p g := by
  obtain ⟨_, _, _, h1, _⟩ := R
  exact tray_but T h1 b
theorem ok_de {f : Addr} {fd : FuncData} (F : Fun K "_law_deed" "_law_deed" sLawDeed f fd) (T : TxtW K mg) (CT : ClsT K mg D) (a : Addr) (ns : List Int)
    (GTk : FnOk P w_ K mg base CX0 1 fTk fdTk ["_law_row", "_law_many"] (spTk K a ns)) (kTk : PySem.W.keepIn K (.ref fTk) = true) (bTk : Binds K fdTk ["_law_row", "_law_many"] []) (mTk : mg "_law_taken" = some (.ref fTk))
    (hTc : PySem.W.findIn K (.ref D) "__contains__" = some (some (.ref fTc))) (iTc : PySem.W.isFn K (.ref fTc) = true) (GTc : FnR P w_ K mg base CX0 3 fTc (spTc K D))
    (GFr : FnOk P w_ K mg base CX0 5 fFr fdFr ["_law_tray_here"] (spFr K D)) (kFr : PySem.W.keepIn K (.ref fFr) = true) (bFr : Binds K fdFr ["_law_tray_here"] []) (mFr : mg "_law_free" = some (.ref fFr))
    (PM : PropOf K D "marbles" pM gM) (GM : FnOk P w_ K mg base CX0 1 gM fdM ["self"] (spMb K D)) (bM : Binds K fdM ["self"] []) : FnOk P w_ K mg base CX0 6 f fd ["_law_row", "_law_tray_here"] (spDe K D a ns) := by
  refine F.ok scDe (fun vs H Q E h => ?_) (fun cdv A outer s H vs Q E hr h => ?_)
  · obtain ⟨r, p, h, w, g, rfl, _⟩ := h
    rfl
  · obtain ⟨r, p, h, w, g, rfl, R0, T0, hV, k⟩ := h
    have nd := scDe.nd
    have r1 : Room 1 _ := hr.mono (by decide)
    have r2 : Room 2 _ := hr.mono (by decide)
    have r3 : Room 3 _ := hr.mono (by decide)
    have r5 : Room 5 _ := hr.mono (by decide)
    refine ⟨_, C8.pss_cut (ps_par (i := 2) (j := 3) rfl nd rfl rfl (by decide) rfl rfl (pa_cons (pe_call GTk r1 rfl mTk kTk bTk .nil pass0 (pa_cons (pv 0) (pa_cons pe_int pa_nil)))
        (pa_cons (pe_lc (own := [("_law_name", 4)]) (g := gName 4) rfl nd (pi_str pe_str) (blkOk_by (N := NDe) (sc := defScope sLawDeed) (by decide +kernel)) (fun _ _ _ _ _ => pg_name (i := 4) nd rfl (.inl rfl))
          (fun _ _ _ _ _ => pts_one (pt_cmpR (op_notOwn hTc iTc GTc r3 pass0) (pv 4) (pv 1) (by rfl))) (fun _ _ _ _ _ => pv 4)) pa_nil)) (by rfl))
      (C8.pss_cut (ps_set (i := 5) nd rfl (.inl rfl) (pe_call GFr r5 rfl mFr kFr bFr .nil pass0 (pa_cons (pv 1) pa_nil)))
      (C8.pss_cut (ps_if (PW.pt (pw_and (pt_cmpR op_eq (pv 2) pe_int (nomark _)) (pw_and1 (pt_cmpR op_ne (pe_prop (pv 1) CT.cl PM GM r2 bM .nil pass0 rfl) pe_str (nomark _)))))
          (pss_one (ps_ret (pe_tup (pa_cons pe_str (pa_cons (pe_ix ix_str (pe_prop (pv 1) CT.cl PM GM r2 bM .nil pass0 rfl) (pe_call GTk r1 rfl mTk kTk bTk .nil pass0 (pa_cons (pv 0) (pa_cons (pe_callB call_len_str (by rfl) T.len PySem.boot_len (pa_cons (pe_prop (pv 1) CT.cl PM GM r2 bM .nil pass0 rfl) pa_nil)) pa_nil))) (fun _ _ => rfl)) pa_nil))))) pss_nil)
      (C8.pss_cut (ps_if (PW.pt (pw_and (pt_cmpR op_eq (pv 2) pe_int (nomark _)) (pw_and (pt_cmpR (op_neE (K := K) rfl hr.units) (pv 5) (pe_lst pa_nil) (nomark _)) (pw_and1 (pt_cmpR (op_neE (K := K) rfl hr.units) (pv 3) (pe_lst pa_nil) (nomark _))))))
          (pss_one (ps_ret (pe_tup (pa_cons pe_str (pa_cons (pe_ix ix_list (pv 3) (pe_call GTk r1 rfl mTk kTk bTk .nil pass0 (pa_cons (pv 0) (pa_cons (pe_callB call_len_seq (by rfl) T.len PySem.boot_len (pa_cons (pv 3) pa_nil)) pa_nil))) (fun _ _ => rfl))
            (pa_cons (pe_ix ix_list (pv 5) (pe_call GTk r1 rfl mTk kTk bTk .nil pass0 (pa_cons (pv 0) (pa_cons (pe_callB call_len_seq (by rfl) T.len PySem.boot_len (pa_cons (pv 5) pa_nil)) pa_nil))) (fun _ _ => rfl)) pa_nil)))))) pss_nil)
      (pss_one (ps_ret (pe_tup (pa_cons pe_str (pa_cons (pe_ix ix_str pe_str (pe_call GTk r1 rfl mTk kTk bTk .nil pass0 (pa_cons (pv 0) (pa_cons pe_int pa_nil))) (fun _ _ => rfl)) pa_nil)))))))), ?_⟩
    refine ⟨fun σ H1 => ∃ (kk : Nat) (l : Addr) (ys : List Nat), σ = [some (.ref r), some (.ref p), some (.int kk), some (.ref l), none, none] ∧ H1 l = some (.lst (ys.map sg)) ∧ l ≠ r ∧ (∀ c ∈ ys, 97 ≤ c ∧ c < 123 ∧ c ∉ mb g.flatten) ∧ ys.length ≤ 12 ∧ RowAt K a ns H1 r ∧ But r H H1, ?_, ?_⟩
    · refine ⟨_, rfl, r, 4, rfl, R0, by decide, by decide, fun H1 kk hk R1 b1 => ?_⟩
      refine ⟨_, rfl, fun l hl => ?_⟩
      have T1 := tray_row T0 R0 b1
      refine lc_it (walk_str (z := S spare)) (fun i H2 => Same H1 H2 ∧ H2 l = some (.lst (((spare.take i).filter fun m => !decide (m ∈ mb g.flatten)).map sg)))
        ⟨same_new hl, upd_same⟩ (fun _ _ _ _ => True.intro) ?_ ?_
      · rintro i v H2 H2' hi ⟨s2, l2⟩ ⟨rfl, m, hm, rfl⟩
        rw [S_at] at hm
        have T2 := T1.same s2
        obtain ⟨d2, a2, h2, _⟩ := id T2
        refine ⟨rfl, _, rfl, _, rfl, p, d2, _, rfl, h2, p, _, h, w, g, rfl, T2, hV, .inl ⟨[m], rfl, by show 1 ≤ 1000; decide, fun H3 s3 => ?_⟩⟩
        have hh : has g [m] = decide (m ∈ mb g.flatten) := by
          show (true && decide (m ∈ mb g.flatten)) = _
          rw [Bool.true_and]
        rw [hh]
        have tk : spare.take (i + 1) = spare.take i ++ [m] := by rw [List.take_add_one, hm]; rfl
        have l3 := s3 _ _ l2
        refine ⟨_, rfl, _, rfl, ?_⟩
        by_cases e : m ∈ mb g.flatten
        · rw [decide_eq_true e]
          refine iteF ⟨s2.trans s3, ?_⟩
          rw [l3, tk, List.filter_append]
          simp [e]
        · rw [decide_eq_false e]
          refine iteT ⟨_, rfl, _, l3, ?_, same_put (s2.trans s3) hl, ?_⟩
          · have := List.length_filter_le (fun m => !decide (m ∈ mb g.flatten)) (spare.take i)
            rw [List.length_take] at this
            rw [List.length_map]
            have : spare.length = 12 := rfl
            show _ < 16777216
            omega
          · rw [upd_same, tk, List.filter_append]
            simp [e]
      · rintro H2 ⟨s2, l2⟩
        rw [S_size, List.take_length] at l2
        refine ⟨_, _, rfl, ?_⟩
        refine ⟨kk, l, _, rfl, l2, fun z => ?_, fun c hc => ?_, ?_, R1.same s2, b1.trans (.same s2)⟩
        · obtain ⟨_, _, _, hR, _⟩ := R1
          rw [z, hR] at hl
          cases hl
        · have h1 := List.mem_filter.mp hc
          have h2 : ∀ c ∈ spare, 97 ≤ c ∧ c < 123 := by decide
          exact ⟨(h2 c h1.1).1, (h2 c h1.1).2, by simpa using h1.2⟩
        · exact List.length_filter_le _ _
    rintro σ H1 ⟨kk, l, ys, rfl, hl, nl, hys, ly, R1, b1⟩
    have T1 := tray_row T0 R0 b1
    refine ⟨fun σ H2 => ∃ (f : Addr) (xs : List V), σ = [some (.ref r), some (.ref p), some (.int kk), some (.ref l), none, some (.ref f)] ∧ H2 f = some (.lst xs) ∧ f ≠ r ∧ xs.length ≤ 64 ∧ (∀ x ∈ xs, FreeAt H2 h w g x) ∧ Same H1 H2, ?_, ?_⟩
    · refine ⟨_, rfl, p, h, w, g, rfl, T1, hV, fun H2 f xs s2 hf lx fx => ⟨f, xs, rfl, hf, fun z => ?_, lx, fx, s2⟩⟩
      obtain ⟨i, se, re, hR, _⟩ := R1.same s2
      rw [z, hR] at hf
      cases hf
      obtain ⟨_, _, _, e, _⟩ := fx (.int i) (by simp)
      cases e
    rintro σ H2 ⟨f, xs, rfl, hf, nf, lx, fx, s2⟩
    have T2 := T1.same s2
    have R2 := R1.same s2
    have b2 := b1.trans (.same s2)
    have hl2 := s2 _ _ hl
    have m26 := mb_26 hV
    have lS : (srt (mb g.flatten)).length = (mb g.flatten).length := (srt_perm _).length_eq
    -- a marble taken
    refine ⟨fun σ H3 => σ = [some (.ref r), some (.ref p), some (.int kk), some (.ref l), none, some (.ref f)] ∧ Same H2 H3, ?_, ?_⟩
    · refine ⟨_, rfl, rfl, _, rfl, ?_⟩
      by_cases k0 : kk = 0
      · rw [show decide (V.int (kk : Nat) = V.int 0) = true from decide_eq_true (by rw [k0]; rfl)]
        obtain ⟨d2, a2, h2, _⟩ := id T2
        refine ⟨_, rfl, p, d2, _, rfl, h2, p, h, w, g, rfl, T2, hV, fun H3 s3 => ?_⟩
        refine ⟨rfl, _, rfl, ?_⟩
        by_cases e0 : mb g.flatten = []
        · rw [show (!decide (V.str (S (srt (mb g.flatten))) = V.str (Str.ofString ""))) = false by
            rw [e0, show srt [] = [] by unfold srt; exact List.mergeSort_nil, decide_eq_true (show V.str (S []) = V.str (Str.ofString "") from rfl)]
            rfl]
          exact iteF ⟨rfl, s3⟩
        · have pos : 1 ≤ (mb g.flatten).length := by
            cases e : mb g.flatten with
            | nil => exact absurd e e0
            | cons _ _ => simp
          rw [show (!decide (V.str (S (srt (mb g.flatten))) = V.str (Str.ofString ""))) = true by
            rw [decide_eq_false fun z => ?_]
            · rfl
            · have z := congrArg Array.size (congrArg Str.cps (V.str.inj z))
              have : (S (srt (mb g.flatten))).length = 0 := z
              rw [S_len, lS] at this
              omega]
          have T3 := T2.same s3
          obtain ⟨d3, a3, h3, _⟩ := id T3
          refine iteT ⟨_, rfl, p, d3, _, rfl, h3, p, h, w, g, rfl, T3, hV, fun H4 s4 => ?_⟩
          have T4 := T3.same s4
          obtain ⟨d4, a4, h4, _⟩ := id T4
          refine ⟨_, rfl, _, rfl, p, d4, _, rfl, h4, p, h, w, g, rfl, T4, hV, fun H5 s5 => ?_⟩
          have zl : (S (srt (mb g.flatten))).length ≤ sizeLine := by
            rw [S_len, lS]
            show _ ≤ 16777216
            omega
          have R5 := ((R2.same s3).same s4).same s5
          refine ⟨_, rfl, zl, r, _, rfl, R5, by rw [S_len, lS]; omega, by rw [S_len, lS]; omega, fun H6 j hj R6 b6 => ?_⟩
          rw [S_len, lS] at hj
          obtain ⟨c, hc⟩ : ∃ c, (srt (mb g.flatten))[j]? = some c := ⟨_, List.getElem?_eq_getElem (by omega)⟩
          have cm := mem_srt.mp (List.mem_of_getElem? hc)
          refine ⟨S (srt (mb g.flatten)), (j : Int), c, rfl, rfl, zl, ?_, ?_⟩
          · rw [S_list]
            exact atI_nat hc
          · refine ⟨(by show 2 ≤ sizeLine; decide), fun x hx => ?_⟩
            have s7 := same_new (o := .tup [V.str (Str.ofString "take"), sg c]) hx
            have b6' : But r H2 H6 := (But.same ((s3.trans s4).trans s5)).trans b6
            exact k _ x (.tk c) (R6.same s7) ((b2.trans b6').trans (.same s7)) (by rw [upd_same]; simp) ⟨x, _, rfl, SqT.of upd_same, rfl⟩ cm
      · rw [show decide (V.int (kk : Nat) = V.int 0) = false from decide_eq_false fun z => k0 (by have := V.int.inj z; omega)]
        exact iteF ⟨rfl, Same.refl H2⟩
    rintro σ H3 ⟨rfl, s3⟩
    have R3 := R2.same s3
    have b3 := b2.trans (.same s3)
    have hl3 := s3 _ _ hl2
    have hf3 := s3 _ _ hf
    have fx3 : ∀ x ∈ xs, FreeAt H3 h w g x := fun x hx => (fx x hx).same s3
    clear fx hl2 hf s2 T2 R2 b2
    clear s3 H2
    -- a marble put
    refine ⟨fun σ H4 => σ = [some (.ref r), some (.ref p), some (.int kk), some (.ref l), none, some (.ref f)] ∧ Same H3 H4, ?_, ?_⟩
    · refine ⟨_, rfl, rfl, _, rfl, ?_⟩
      by_cases k0 : ¬ kk = 1
      · rw [show decide (V.int (kk : Nat) = V.int 1) = false from decide_eq_false fun z => k0 (by have := V.int.inj z; omega)]
        exact iteF ⟨rfl, Same.refl H3⟩
      replace k0 := Decidable.not_not.mp k0
      rw [show decide (V.int (kk : Nat) = V.int 1) = true from decide_eq_true (by rw [k0]; rfl)]
      refine ⟨_, rfl, (by show 0 ≤ sizeLine; decide), fun b hb => ⟨f, b, xs, rfl, rfl, ?_⟩⟩
      have s4 := same_new (o := .lst []) hb
      have e4 : upd H3 b (.lst []) b = some (.lst []) := upd_same
      generalize upd H3 b (.lst []) = H4 at s4 e4
      refine ⟨SqL.of (s4 _ _ hf3), SqL.of e4, _, rfl, ?_⟩
      cases xs with
      | nil => exact iteF ⟨rfl, s4⟩
      | cons x0 xs0 =>
      refine ⟨_, rfl, (by show 0 ≤ sizeLine; decide), fun b5 hb5 => ⟨l, b5, ys.map sg, rfl, rfl, ?_⟩⟩
      have s5 := same_new (o := .lst []) hb5
      have e5 : upd H4 b5 (.lst []) b5 = some (.lst []) := upd_same
      generalize upd H4 b5 (.lst []) = H5 at s5 e5
      have s35 := s4.trans s5
      refine ⟨SqL.of (s35 _ _ hl3), SqL.of e5, _, rfl, ?_⟩
      cases ys with
      | nil => exact iteF ⟨rfl, s35⟩
      | cons y0 ys0 =>
      have hl5 := s35 _ _ hl3
      have R5 := R3.same s35
      refine iteT ⟨_, rfl, _, rfl, _, rfl, l, _, rfl, .inl (SqL.of hl5), r, _, rfl, R5, by rw [List.length_map, List.length_cons]; omega, by rw [List.length_map]; omega, fun H6 j hj R6 b6 => ?_⟩
      rw [List.length_map] at hj
      obtain ⟨c, hc⟩ : ∃ c, (y0 :: ys0)[j]? = some c := ⟨_, List.getElem?_eq_getElem (by omega)⟩
      have hl6 := b6 _ _ hl5 nl
      refine ⟨l, _, (j : Int), sg c, rfl, rfl, SqL.of hl6, atI_nat (by rw [List.getElem?_map, hc]; rfl), ?_⟩
      have hf6 := b6 _ _ (s35 _ _ hf3) nf
      refine ⟨_, rfl, _, rfl, _, rfl, f, _, rfl, .inl (SqL.of hf6), r, _, rfl, R6, by rw [List.length_cons]; omega, by omega, fun H7 j2 hj2 R7 b7 => ?_⟩
      obtain ⟨x, hx⟩ : ∃ x, (x0 :: xs0)[j2]? = some x := ⟨_, List.getElem?_eq_getElem (by omega)⟩
      have hf7 := b7 _ _ hf6 nf
      refine ⟨f, _, (j2 : Int), x, rfl, rfl, SqL.of hf7, atI_nat hx, ?_⟩
      obtain ⟨q, i', j', rfl, hq, hi', hj', h46⟩ := fx3 x (List.mem_of_getElem? hx)
      obtain ⟨c1, c2, c3⟩ := hys c (List.mem_of_getElem? hc)
      have hq7 : H7 q = some (.tup [.int (i' : Nat), .int (j' : Nat)]) := by
        obtain ⟨_, _, _, hR, _⟩ := R3
        have qr : q ≠ r := fun z => by rw [z, hR] at hq; cases hq
        exact b7 _ _ (b6 _ _ (s35 _ _ hq) qr) qr
      refine ⟨(by show 3 ≤ sizeLine; decide), fun x8 hx8 => ?_⟩
      have s8 := same_new (o := .tup [V.str (Str.ofString "put"), sg c, .ref q]) hx8
      exact k _ x8 (.pt c i' j') (R7.same s8) ((((b3.trans (.same s35)).trans b6).trans b7).trans (.same s8)) (by rw [upd_same]; simp) ⟨x8, _, rfl, SqT.of upd_same, q, rfl, SqT.of (s8 _ _ hq7)⟩ ⟨c1, c2, c3, hi', hj', h46⟩
    rintro σ H4 ⟨rfl, s4⟩
    have R4 := R3.same s4
    refine ⟨_, rfl, r, 4, rfl, R4, by decide, by decide, fun H5 j hj R5 b5 => ?_⟩
    have hj4 : j < 4 := by omega
    obtain ⟨c, hc, hT⟩ : ∃ c, ([108, 114, 117, 100] : List Nat)[j]? = some c ∧ isT c = true := by
      have : ∀ j < 4, ∃ c, ([108, 114, 117, 100] : List Nat)[j]? = some c ∧ isT c = true := by
        intro j hj
        match j, hj with
        | 0, _ => exact ⟨_, rfl, by decide⟩
        | 1, _ => exact ⟨_, rfl, by decide⟩
        | 2, _ => exact ⟨_, rfl, by decide⟩
        | 3, _ => exact ⟨_, rfl, by decide⟩
      exact this j hj4
    refine ⟨S [108, 114, 117, 100], (j : Int), c, rfl, rfl, (by show 4 ≤ sizeLine; decide), ?_, ?_⟩
    · rw [S_list]
      exact atI_nat hc
    · refine ⟨(by show 2 ≤ sizeLine; decide), fun x hx => ?_⟩
      have s7 := same_new (o := .tup [V.str (Str.ofString "tilt"), sg c]) hx
      exact k _ x (.tl c) (R5.same s7) (((b3.trans (.same s4)).trans b5).trans (.same s7)) (by rw [upd_same]; simp) ⟨x, _, rfl, SqT.of upd_same, rfl⟩ hT
end
end TI
end
section
set_option Elab.async false
set_option maxRecDepth 100000
set_option linter.all false
namespace TI
open PySem PySem.Spec PyProof.Rows L2 TM TK TB TP TH TU TW TR
section
variable {X : Cx} {n : Nat}
theorem pen_tupF {es : List Expr} {t : TA} {x1 : Nat} {pos : Pos} (h : PAn n X es t) : PEn n X (.Tuple es x1 pos) (tTup t) := by
  intro pins s σ H Q hn I hq
  refine wpAny_Tuple_spliced (thn (h pos pins s σ H _ hn I hq) fun us s1 ⟨xs, H1, I1, r, z, q⟩ => ⟨by rw [← r.length]; exact z, ?_⟩)
  have hf : H1 s1.heap.objs.size = none := I1.hok.fresh (Nat.le_refl _)
  refine ⟨.ref s1.heap.objs.size, upd H1 s1.heap.objs.size (.tup xs), I1.laid (t' := s1.toks) (fun b u e => Heap.get?_push_of_some _ e) (Nat.le_refl _) ?_, rfl, q _ hf⟩
  exact ⟨z, us, r, ⟨_, Heap.get?_push_size _ rfl, rfl, _, rfl⟩⟩
theorem pen_cmpF {op : CmpOp} {r : R2} {a b : Expr} {ta tb : TE} {pos : Pos} (ho : OpR X (compareOp op) r) (ha : PEn n X a ta) (hb : PEn n X b tb) (hm : behindInMarks op b = false) : PEn n X (.Compare a [op] [b] pos) (tOp r ta tb) := fun pins s σ H Q hn I h =>
  wpAny_Compare1 (thnN hn (ha pins s σ H _ hn I h) fun v s1 hn1 ⟨x, H1, I1, r1, q1⟩ => thn (hb pins s1 σ H1 _ hn1 I1 q1) fun u s2 ⟨y, H2, I2, r2, q2⟩ => ho pins s2 σ H2 x y v u Q I2 r1 r2 q2) hm
theorem pen_andF {a b : Expr} {rest : List Expr} {ta tb : TE} {pos : Pos} (ha : PEn n X a ta) (hb : PEn n X (.BoolOp .And (b :: rest) pos) tb) : PEn n X (.BoolOp .And (a :: b :: rest) pos) (tAndV ta tb) := by
  intro pins s σ H Q hn I h
  refine BoolOp_and (thnN hn (ha pins s σ H _ hn I h) fun v s1 hn1 ⟨x, H1, I1, r1, q1⟩ => ?_)
  obtain ⟨c, rfl, q1⟩ := q1
  cases r1
  refine wpAny_truthy_bool ?_
  cases c with
  | true => exact hb pins s1 σ H1 Q hn1 I1 q1
  | false => exact ⟨.bl false, H1, I1, rfl, q1⟩
end
section
variable {P : Program} {w_ : World} {K : PySem.W.Frag} {mg : Str → Option Value} {base : Heap} {n : Nat} {L D C CU CP fMt fMp fMk fLx fLn fAt fCl fTe fRs fWi gM pM gP pP : Addr} {fdAt fdM fdP fdWi fdLx fdLn : FuncData}
theorem plV_ij {w i j : Nat} (hj : j < w) : plV w (i * w + j) = [.int (i : Nat), .int (j : Nat)] := by
  have e1 : (i * w + j) / w = i := by
    rw [Nat.mul_comm, Nat.mul_add_div (by omega), Nat.div_eq_of_lt hj, Nat.add_zero]
  have e2 : (i * w + j) % w = j := by
    rw [Nat.mul_comm, Nat.mul_add_mod, Nat.mod_eq_of_lt hj]
  show [V.int (((i * w + j : Nat) : Int) / (w : Int)), V.int (((i * w + j : Nat) : Int) % (w : Int))] = _
  rw [← Int.natCast_ediv, ← Int.natCast_emod, e1, e2]
/-- a marble put: where it is -/
theorem put_idx {h w : Nat} {g : Grid} (hV : VG h w g) {c i j : Nat} (ho : okOp h w g (.pt c i j)) : c ∈ mb (putc g i j c).flatten ∧ (putc g i j c).flatten.idxOf c = i * w + j ∧ (mb (putc g i j c).flatten).length = (mb g.flatten).length + 1 := by
  obtain ⟨h1, h2, h3, hi, hj, hx⟩ := ho
  have ne : c ≠ 46 := by omega
  have V1 : VG h w (putc g i j c) := stepG_VG hV (o := .pt c i j) ⟨h1, h2, h3, hi, hj, hx⟩
  have pm := putc_more hV hi hj hx ne
  have m : c ∈ mb (putc g i j c).flatten := pm.mem_iff.mpr List.mem_cons_self
  have at_ : (putc g i j c).flatten[i * w + j]? = some c := by
    rw [putc_flat hV.rc.2 (by rw [hV.rc.1]; exact hi) hj, List.getElem?_set_self (List.getElem?_eq_some_iff.mp hx).1]
  refine ⟨m, mb_uniq V1.nd ne (idx_at (mem_mb.mp m).1).2 at_, pm.length_eq⟩
abbrev NDn : List Str := ["_law_live", "_law_deed_here", "_law_before", "_law_after", "_law_moved", "_law_due", "_law_one"]
theorem scDn : FnScope NDn ["_law_live", "_law_deed_here"] (defScope sLawIsDone) := ⟨rfl, rfl, rfl, by decide +kernel, rfl, by decide +kernel, by decide +kernel⟩
def spDn (K : PySem.W.Frag) (L D : Addr) : Sp := fun vs H Q _ => ∃ (q x d h w : Nat) (os : List Op) (gs : List Grid) (g : Grid) (o : Op), vs = [.ref q, .ref x] ∧ LvAt K L D H q os gs d ∧ gs[d]? = some g ∧ VG h w g ∧ OpAt K H (.ref x) o ∧ okOp h w g o ∧ os.length + 1 ≤ 1000 ∧
  ∀ H', LvAt K L D H' q (os.take d ++ [o]) (gs.take (d + 1) ++ [stepG h w g o]) (d + 1) → But q H H' → Q (.bl true) H'
def spTkF (K : PySem.W.Frag) (L D : Addr) : Sp := fun vs H Q E => ∃ c, spOne K L D (.tk c) (fun _ as => as = [sg c]) vs H Q E
def spMtF (K : PySem.W.Frag) (L D : Addr) : Sp := fun vs H Q E => ∃ c, spOne K L D (.tl c) (fun _ as => as = [sg c]) vs H Q E
def spPtF (K : PySem.W.Frag) (L D : Addr) : Sp := fun vs H Q E => ∃ c i j, spOne K L D (.pt c i j) (fun H as => ∃ q, as = [sg c, .ref q] ∧ SqT K H q [.int (i : Nat), .int (j : Nat)]) vs H Q E
theorem ok_dn {f : Addr} {fd : FuncData} (F : Fun K "_law_is_done" "_law_is_done" sLawIsDone f fd) (b : Binds K fd ["_law_live", "_law_deed_here"] []) (T : TxtW K mg) (CW : ClsW K mg C) (CT : ClsT K mg D) (CL : ClsL K mg L) (hDC : D ≠ C)
    (MMt : Meth K L "tilt" fMt) (GMt : FnRn n P w_ K mg base CX0 8 fMt (spMtF K L D)) (MMp : Meth K L "put" fMp) (GMp : FnRn n P w_ K mg base CX0 8 fMp (spPtF K L D)) (MMk : Meth K L "take" fMk) (GMk : FnRn n P w_ K mg base CX0 8 fMk (spTkF K L D))
    (hLx : PySem.W.findIn K (.ref L) "__contains__" = some (some (.ref fLx))) (iLx : PySem.W.isFn K (.ref fLx) = true) (GLx : FnR P w_ K mg base CX0 4 fLx (spLx K L D)) (hLn : PySem.W.findIn K (.ref L) "__len__" = some (some (.ref fLn))) (iLn : PySem.W.isFn K (.ref fLn) = true) (GLn : FnR P w_ K mg base CX0 3 fLn (spLn K L D))
    (PP : PropOf K L "present_tray" pP gP) (GP_ : FnOk P w_ K mg base CX0 1 gP fdP ["self"] (spPr K L D)) (bP : Binds K fdP ["self"] []) (PM : PropOf K D "marbles" pM gM) (GM : FnOk P w_ K mg base CX0 1 gM fdM ["self"] (spMb K D)) (bM : Binds K fdM ["self"] [])
    (MA : Meth K D "at" fAt) (GA : FnOk P w_ K mg base (L2.CX P w_) 4 fAt fdAt ["self", "place"] (spAt K D CP)) (bA : Binds K fdAt ["self", "place"] []) (CO : StX.CallO K D fCl) (GC : FnR P w_ K mg base (L2.CX P w_) 4 fCl (spCl K D CU))
    (hE : PySem.W.findIn K (.ref D) "__eq__" = some (some (.ref fTe))) (iE : PySem.W.isFn K (.ref fTe) = true) (GTe : FnR P w_ K mg base CX0 1 fTe (spTe K D))
    (sf : PySem.W.selfFirst K D = true) (NO : NoOp K C Operator.RShift.info.2) (hs : PySem.W.findIn K (.ref D) (PySem.dunder Operator.RShift.info.2) = some (some (.ref fRs))) (hf : PySem.W.isFn K (.ref fRs) = true) (GRs : FnRn n P w_ K mg base CX0 5 fRs (spRs K C D))
    (MW : Mk K C fWi) (GWi : FnOk P w_ K mg base CX0 3 fWi fdWi ["self", "text"] (spWi C)) (bWi : Binds K fdWi ["self", "text"] []) : FnRn n P w_ K mg base CX0 9 f (spDn K L D) := by
  refine fn_n F b scDn (fun vs H Q E h => ?_) fun cdv A outer s H vs Q E hr h => ?_
  · obtain ⟨q, x, d, h, w, os, gs, g, o, rfl, _⟩ := h
    rfl
  · obtain ⟨q, x, d, h, w, os, gs, g, o, rfl, hL, hg, hV, ho, hok, hz, k⟩ := h
    have nd := scDn.nd
    have r1 : Room 1 _ := hr.mono (by decide)
    have r2 : Room 2 _ := hr.mono (by decide)
    have r3 : Room 3 _ := hr.mono (by decide)
    have r4 : Room 4 _ := hr.mono (by decide)
    have r5 : Room 5 _ := hr.mono (by decide)
    refine ⟨_, pssn_cut (PS.up (ps_set (i := 2) nd rfl (.inr rfl) (pe_prop (pv 0) CL.cl PP GP_ r2 bP .nil pass0 rfl)))
      (pssn_cut (psn_if (PT.up (pt_cmpR op_eq (pe_ix ix_tup (pv 1) pe_int (fun _ _ => rfl)) pe_str (nomark _)))
          (pssn_one (psn_ret (pen_andF (pen_cmpF (op_eqD hr.units) (pen_methR (pv 0) CL.cl MMk GMk hr pass0 (pa_cons (pe_ix ix_tup (pv 1) pe_int (fun _ _ => rfl)) pa_nil)) (PE.up (pe_callO (pv 2) CO GC r4 passL (pa_cons (pe_ix ix_tup (pv 1) pe_int (fun _ _ => rfl)) pa_nil))) (nomark _))
            (PE.up (pe_and (pe_cmpR (op_notOwn hLx iLx GLx r4 pass0) (pe_ix ix_tup (pv 1) pe_int (fun _ _ => rfl)) (pv 0) (by rfl))
              (pe_one (pe_cmpR op_eq (pe_callB (call_lenOwn hLn iLn GLn r4 pass0) (by rfl) T.len PySem.boot_len (pa_cons (pv 0) pa_nil)) (pe_op op_sub (pe_callB call_len_str (by rfl) T.len PySem.boot_len (pa_cons (pe_prop (pv 2) CT.cl PM GM r2 bM .nil pass0 rfl) pa_nil)) pe_int) (nomark _)))))))) (PSs.up pss_nil))
      (pssn_cut (psn_if (PT.up (pt_cmpR op_eq (pe_ix ix_tup (pv 1) pe_int (fun _ _ => rfl)) pe_str (nomark _)))
          (pssn_cut (psn_if (ptn_cmpR op_ne (pen_methR (pv 0) CL.cl MMp GMp hr pass0 (pa_cons (pe_ix ix_tup (pv 1) pe_int (fun _ _ => rfl)) (pa_cons (pe_ix ix_tup (pv 1) pe_int (fun _ _ => rfl)) pa_nil))) (PE.up (pe_op op_add (pe_callB call_len_str (by rfl) T.len PySem.boot_len (pa_cons (pe_prop (pv 2) CT.cl PM GM r2 bM .nil pass0 rfl) pa_nil)) pe_int)) (nomark _)) (PSs.up pss_never) (PSs.up pss_nil))
          (pssn_cut (PS.up (ps_set (i := 3) nd rfl (.inr rfl) (pe_prop (pv 0) CL.cl PP GP_ r2 bP .nil pass0 rfl)))
          (pssn_one (PS.up (ps_ret (pe_and (pe_cmpR op_eq (pe_meth (pv 3) CT.cl MA GA r4 bA .nil passL (pa_cons (pe_ix ix_tup (pv 1) pe_int (fun _ _ => rfl)) pa_nil)) (pe_ix ix_tup (pv 1) pe_int (fun _ _ => rfl)) (nomark _))
            (pe_one (pe_cmpR (op_eqD hr.units) (pe_callO (pv 3) CO GC r4 passL (pa_cons (pe_ix ix_tup (pv 1) pe_int (fun _ _ => rfl)) pa_nil)) (pe_ix ix_tup (pv 1) pe_int (fun _ _ => rfl)) (nomark _))))))))) (PSs.up pss_nil))
      (pssn_cut (psn_asg (pen_tupF (pan_cons (pen_methR (pv 0) CL.cl MMt GMt hr pass0 (pa_cons (pe_ix ix_tup (pv 1) pe_int (fun _ _ => rfl)) pa_nil)) (pan_cons (PE.up (pe_prop (pv 0) CL.cl PP GP_ r2 bP .nil pass0 rfl)) pan_nil))) (pg_tup (by rfl) (pgs_cons (pg_name (i := 4) nd rfl (.inl rfl)) (pgs_cons (pg_name (i := 3) nd rfl (.inr rfl)) pgs_nil))))
      (pssn_cut (PS.up (ps_setLc (i := 5) (own := [("_law_one", 6)]) (g := gName 6) rfl nd rfl rfl (sw_true rfl rfl rfl (by decide +kernel)) (pi_str (pe_prop (pv 2) CT.cl PM GM r2 bM .nil pass0 rfl)) (blkOk_by (N := NDn) (sc := defScope sLawIsDone) (by decide +kernel)) (fun _ _ _ _ _ => pg_name (i := 6) nd rfl (.inl rfl))
          (fun _ _ _ _ _ => pts_one (pt_cmpR (op_neDK (K := K) rfl hr.units) (pe_callO (pv 3) CO GC r4 passL (pa_cons (pv 6) pa_nil)) (pe_callO (pv 2) CO GC r4 passL (pa_cons (pv 6) pa_nil)) (nomark _))) (fun _ _ _ _ _ => pv 6)))
      (pssn_one (psn_ret (pen_andF (pen_cmpF (op_cmpOwn (op := .Eq) (fun _ _ => rfl) hE iE GTe r1 pass0) (PE.up (pv 3)) (pen_op (op_twoN hDC sf NO hs hf GRs r5 pass0) (PE.up (pv 2)) (PE.up (pe_make MW GWi (hr.mono (by decide)) rfl CW.mgC bWi .nil pass0 (pa_cons (pe_ix ix_tup (pv 1) pe_int (fun _ _ => rfl)) pa_nil)))) (nomark _))
          (PE.up (pe_one (pe_cmpR op_eq (pv 4) (pe_join pe_str (pv 5)) (nomark _))))))))))), ?_⟩
    obtain ⟨dx, st, hq, hSt⟩ := id hL
    obtain ⟨a, xs, ea, hS, hx⟩ := ho
    obtain rfl : x = a := V.ref.inj ea
    have V1 := stepG_VG hV hok
    have hd : d < gs.length := (List.getElem?_eq_some_iff.mp hg).1
    have g1 : (gs.take (d + 1) ++ [stepG h w g o])[d + 1]? = some (stepG h w g o) := by
      have tl : (gs.take (d + 1)).length = d + 1 := by rw [List.length_take]; omega
      rw [List.getElem?_append_right (by omega), tl, Nat.sub_self]
      rfl
    have m26 := mb_26 hV
    have lS : (srt (mb g.flatten)).length = (mb g.flatten).length := (srt_perm _).length_eq
    have zl : (S (srt (mb g.flatten))).length ≤ sizeLine := by
      rw [S_len, lS]
      show _ ≤ 16777216
      omega
    refine ⟨fun σ H1 => ∃ b, σ = [some (.ref q), some (.ref x), some (.ref b), none, none, none, none] ∧ TrayAt K D H b g ∧ H = H1, ⟨_, rfl, q, dx, _, rfl, hq, q, d, os, gs, g, rfl, hL, hg, fun b tb => ⟨b, rfl, tb, rfl⟩⟩, ?_⟩
    rintro σ _ ⟨b, rfl, tb, rfl⟩
    cases o with
    | tk c =>
      have hx : xs = [.str (Str.ofString "take"), sg c] := hx
      subst hx
      have hc : c ∈ mb g.flatten := hok
      refine ⟨fun _ _ => False, ?_, fun _ _ z => z.elim⟩
      refine ⟨_, rfl, x, _, _, _, rfl, rfl, hS, rfl, rfl, _, rfl, ?_⟩
      rw [decide_eq_true (p := V.str (Str.ofString "take") = V.str (Str.ofString "take")) rfl]
      refine iteT ⟨_, rfl, q, dx, _, rfl, hq, rfl, _, rfl, x, _, _, _, rfl, rfl, hS, rfl, c, q, d, h, w, [sg c], os, gs, g, rfl, rfl, hL, hg, hV, hok, hz, fun H2 v hv hL2 hb => ?_⟩
      obtain ⟨z, rfl, hz2⟩ := hv
      have S2 := seq_lv hS hq hb
      have T2 := tray_lv tb hq hb
      obtain ⟨d2, a2, h2, _⟩ := id T2
      refine ⟨_, rfl, b, rfl, _, rfl, x, _, _, _, rfl, rfl, S2, rfl, ⟨d2, _, h2⟩, call_ok T2 hV hc fun H3 q3 s3 hq3 hp3 => ?_⟩
      unfold PlcAt at hp3
      refine ⟨_, _, pl_dp (s3 _ _ hz2), pl_dp hp3, pl_shaped _ _, pl_shaped _ _, _, rfl, ?_⟩
      rw [pl_eqv, decide_eq_true rfl]
      obtain ⟨ok2, bk, V0, no, len⟩ := taken_out hV hc
      have L3 := hL2.same s3
      obtain ⟨dx3, st3, hq3', _⟩ := id L3
      refine iteT ⟨_, rfl, x, _, _, _, rfl, rfl, s3.tup S2, rfl, _, rfl, q, dx3, _, rfl, hq3', q, _, c, h, w, _, _, _, rfl, L3, g1, V0, fun H4 s4 => ⟨_, rfl, _, rfl, ?_⟩⟩
      rw [decide_eq_false no]
      have L4 := L3.same s4
      obtain ⟨dx4, st4, hq4, _⟩ := id L4
      have T4 := (T2.same s3).same s4
      refine iteT ⟨_, rfl, q, dx4, _, rfl, hq4, q, _, h, w, _, _, _, rfl, L4, g1, V0, fun H5 s5 => ⟨_, rfl, by omega, ?_⟩⟩
      have T5 := T4.same s5
      obtain ⟨d5, a5, h5, _⟩ := id T5
      refine ⟨_, rfl, b, d5, _, rfl, h5, b, h, w, g, rfl, T5, hV, fun H6 s6 => ⟨_, rfl, zl, _, _, rfl, rfl, rfl, ?_⟩⟩
      rw [S_len, lS, decide_eq_true (show V.int ((mb (stepG h w g (.tk c)).flatten).length : Nat) = V.int (((mb g.flatten).length : Nat) - 1) from congrArg V.int (by omega))]
      exact k H6 ((L4.same s5).same s6) (hb.trans (.same ((s3.trans s4).trans (s5.trans s6))))
    | pt c i j =>
      obtain ⟨qq, rfl, hqq⟩ := hx
      obtain ⟨pm, pidx, plen⟩ := put_idx hV hok
      obtain ⟨c1, c2, _, hi, hj, _⟩ := id hok
      refine ⟨fun σ H1 => σ = [some (.ref q), some (.ref x), some (.ref b), none, none, none, none] ∧ H = H1, ?_, ?_⟩
      · refine ⟨_, rfl, x, _, _, _, rfl, rfl, hS, rfl, rfl, _, rfl, ?_⟩
        rw [decide_eq_false (p := V.str (Str.ofString "put") = V.str (Str.ofString "take")) (by decide)]
        exact iteF ⟨rfl, rfl⟩
      rintro σ _ ⟨rfl, rfl⟩
      refine ⟨fun _ _ => False, ?_, fun _ _ z => z.elim⟩
      refine ⟨_, rfl, x, _, _, _, rfl, rfl, hS, rfl, rfl, _, rfl, ?_⟩
      rw [decide_eq_true (p := V.str (Str.ofString "put") = V.str (Str.ofString "put")) rfl]
      refine iteT ⟨fun σ H2 => σ = [some (.ref q), some (.ref x), some (.ref b), none, none, none, none] ∧ LvAt K L D H2 q (os.take d ++ [.pt c i j]) (gs.take (d + 1) ++ [stepG h w g (.pt c i j)]) (d + 1) ∧ But q H H2, ?_, ?_⟩
      · refine ⟨_, rfl, q, dx, _, rfl, hq, rfl, _, rfl, x, _, _, _, rfl, rfl, hS, rfl, _, rfl, x, _, _, _, rfl, rfl, hS, rfl, c, i, j, q, d, h, w, [sg c, .ref qq], os, gs, g, rfl, ⟨qq, rfl, hqq⟩, hL, hg, hV, hok, hz, fun H2 v hv hL2 hb => ?_⟩
        obtain rfl : v = _ := hv
        have T2 := tray_lv tb hq hb
        obtain ⟨d2, a2, h2, _⟩ := id T2
        refine ⟨_, rfl, b, d2, _, rfl, h2, b, h, w, g, rfl, T2, hV, fun H3 s3 => ⟨_, rfl, zl, _, _, rfl, rfl, rfl, _, rfl, ?_⟩⟩
        rw [S_len, lS, decide_eq_true (show V.int (((mb g.flatten).length + 1 : Nat) : Int) = V.int (((mb g.flatten).length : Nat) + 1) from rfl)]
        exact iteF ⟨rfl, hL2.same s3, hb.trans (.same s3)⟩
      rintro σ H2 ⟨rfl, hL2, hb⟩
      obtain ⟨dx2, st2, hq2, _⟩ := id hL2
      refine ⟨fun σ H3 => ∃ r, σ = [some (.ref q), some (.ref x), some (.ref b), some (.ref r), none, none, none] ∧ TrayAt K D H2 r (stepG h w g (.pt c i j)) ∧ H2 = H3, ⟨_, rfl, q, dx2, _, rfl, hq2, q, _, _, _, _, rfl, hL2, g1, fun r tr => ⟨r, rfl, tr, rfl⟩⟩, ?_⟩
      rintro σ _ ⟨r, rfl, tr, rfl⟩
      have S2 := seq_lv hS hq hb
      have Q2 := seq_lv hqq hq hb
      obtain ⟨d2, a2, h2, _⟩ := id tr
      refine ⟨_, rfl, r, d2, _, rfl, h2, rfl, _, rfl, x, _, _, _, rfl, rfl, S2, rfl, r, _, h, w, _, rfl, tr, V1, .inl ⟨qq, i, j, rfl, Q2, hi, hj, ?_⟩⟩
      have am : atV (stepG h w g (.pt c i j)) i j = sg c := by
        have z := at_marble V1 pm
        have e1 : (i * w + j) / w = i := by
          rw [Nat.mul_comm, Nat.mul_add_div (by omega), Nat.div_eq_of_lt hj, Nat.add_zero]
        have e2 : (i * w + j) % w = j := by
          rw [Nat.mul_comm, Nat.mul_add_mod, Nat.mod_eq_of_lt hj]
        rw [show (stepG h w g (.pt c i j)).flatten.idxOf c = i * w + j from pidx, e1, e2] at z
        exact z
      rw [am]
      refine ⟨_, rfl, x, _, _, _, rfl, rfl, S2, rfl, rfl, _, rfl, ?_⟩
      rw [decide_eq_true (p := sg c = sg c) rfl]
      refine iteT ⟨_, rfl, r, rfl, _, rfl, x, _, _, _, rfl, rfl, S2, rfl, ⟨d2, _, h2⟩, call_ok tr V1 pm fun H4 q4 s4 hq4 hp4 => ?_⟩
      unfold PlcAt at hp4
      refine ⟨_, rfl, x, _, _, _, rfl, rfl, s4.tup S2, rfl, ?_⟩
      have e4 : plV w ((stepG h w g (.pt c i j)).flatten.idxOf c) = [.int (i : Nat), .int (j : Nat)] := by
        rw [show (stepG h w g (.pt c i j)).flatten.idxOf c = i * w + j from pidx]
        exact plV_ij hj
      refine ⟨_, _, pl_dp hp4, .tup (s4.tup Q2) (.cons (.int _) (.cons (.int _) .nil)), pl_shaped _ _, rfl, ?_⟩
      have ed : PyData.tuple [.int (i : Nat), .int (j : Nat)] = plD w ((stepG h w g (.pt c i j)).flatten.idxOf c) := by
        have e5 := e4
        unfold plV at e5
        have f1 := V.int.inj (List.cons.inj e5).1
        have f2 := V.int.inj (List.cons.inj (List.cons.inj e5).2).1
        unfold plD
        rw [f1, f2]
      rw [ed, pl_eqv, decide_eq_true rfl]
      exact k H4 (hL2.same s4) (hb.trans (.same s4))
    | tl c =>
      have hx : xs = [.str (Str.ofString "tilt"), sg c] := hx
      subst hx
      have hT : isT c = true := hok
      refine ⟨fun σ H1 => σ = [some (.ref q), some (.ref x), some (.ref b), none, none, none, none] ∧ H = H1, ?_, ?_⟩
      · refine ⟨_, rfl, x, _, _, _, rfl, rfl, hS, rfl, rfl, _, rfl, ?_⟩
        rw [decide_eq_false (p := V.str (Str.ofString "tilt") = V.str (Str.ofString "take")) (by decide)]
        exact iteF ⟨rfl, rfl⟩
      rintro σ _ ⟨rfl, rfl⟩
      refine ⟨fun σ H1 => σ = [some (.ref q), some (.ref x), some (.ref b), none, none, none, none] ∧ H = H1, ?_, ?_⟩
      · refine ⟨_, rfl, x, _, _, _, rfl, rfl, hS, rfl, rfl, _, rfl, ?_⟩
        rw [decide_eq_false (p := V.str (Str.ofString "tilt") = V.str (Str.ofString "put")) (by decide)]
        exact iteF ⟨rfl, rfl⟩
      rintro σ _ ⟨rfl, rfl⟩
      refine ⟨fun σ H2 => ∃ r, σ = [some (.ref q), some (.ref x), some (.ref b), some (.ref r), some (.str (S (moves g (TM.tilt h w g c)))), none, none] ∧ TrayAt K D H2 r (TM.tilt h w g c) ∧ TrayAt K D H2 b g ∧ SqT K H2 x [.str (Str.ofString "tilt"), sg c] ∧ LvAt K L D H2 q (os.take d ++ [.tl c]) (gs.take (d + 1) ++ [stepG h w g (.tl c)]) (d + 1) ∧ But q H H2, ?_, ?_⟩
      · refine ⟨_, rfl, q, dx, _, rfl, hq, rfl, _, rfl, x, _, _, _, rfl, rfl, hS, rfl, c, q, d, h, w, [sg c], os, gs, g, rfl, rfl, hL, hg, hV, hok, hz, fun H2 v hv hL2 hb => ?_⟩
        obtain rfl : v = _ := hv
        obtain ⟨dx2, st2, hq2, _⟩ := id hL2
        refine ⟨_, rfl, q, dx2, _, rfl, hq2, q, _, _, _, _, rfl, hL2, g1, fun r tr => ⟨(by show 2 ≤ sizeLine; decide), fun tp htp => ?_⟩⟩
        have s3 := same_new (o := .tup [V.str (S (moves g (TM.tilt h w g c))), V.ref r]) htp
        refine ⟨tp, _, rfl, SqT.of upd_same, rfl, _, _, rfl, _, _, rfl, rfl, r, rfl, tr.same s3, (tray_lv tb hq hb).same s3, s3.tup (seq_lv hS hq hb), hL2.same s3, hb.trans (.same s3)⟩
      rintro σ H2 ⟨r, rfl, tr, tb2, S2, hL2, hb⟩
      have V1' : VG h w (TM.tilt h w g c) := V1
      refine ⟨fun σ H3 => ∃ l, σ = [some (.ref q), some (.ref x), some (.ref b), some (.ref r), some (.str (S (moves g (TM.tilt h w g c)))), some (.ref l), none] ∧ Same H2 H3 ∧ H3 l = some (.lst ((moves g (TM.tilt h w g c)).map sg)), ?_, ?_⟩
      · obtain ⟨d3, a3, h3, _⟩ := id tb2
        refine ⟨_, rfl, b, d3, _, rfl, h3, b, h, w, g, rfl, tb2, hV, fun H3 s3 => ⟨_, rfl, fun l hl => ?_⟩⟩
        have T3 := tb2.same s3
        have t3 := tr.same s3
        have keep : ∀ {H' : Hp} {o : HO}, Same H3 H' → Same H3 (upd H' l o) := fun {H' o} s b o' e => by rw [upd_ne (ne_of_none e hl)]; exact s b o' e
        refine lc_it (walk_str (z := S (srt (mb g.flatten)))) (fun i H4 => Same H3 H4 ∧ H4 l = some (.lst ((((srt (mb g.flatten)).take i).filter fun m => decide ((TM.tilt h w g c).flatten.idxOf m ≠ g.flatten.idxOf m)).map sg)))
          ⟨keep (Same.refl H3), upd_same⟩ (fun _ _ _ _ => True.intro) ?_ ?_
        · rintro i v H4 H5 hi ⟨s4, l4⟩ ⟨rfl, m, hm, rfl⟩
          rw [S_at] at hm
          have hmb := mem_srt.mp (List.mem_of_getElem? hm)
          have mtl : m ∈ mb (TM.tilt h w g c).flatten := (like_tilts [c] hV.rc).pm.mem_iff.mpr hmb
          have t4 := t3.same s4
          obtain ⟨d4, a4, h4, _⟩ := id t4
          refine ⟨rfl, _, rfl, r, rfl, _, rfl, ⟨d4, _, h4⟩, call_ok t4 V1' mtl fun H6 q6 s6 hq6 hp6 => ?_⟩
          have T6 := (T3.same s4).same s6
          obtain ⟨d5, a5, h5, _⟩ := id T6
          refine ⟨_, rfl, b, rfl, _, rfl, ⟨d5, _, h5⟩, call_ok T6 hV hmb fun H7 q7 s7 hq7 hp7 => ?_⟩
          have p6 := s7 _ _ hp6
          unfold PlcAt at p6 hp7
          refine ⟨_, _, pl_dp p6, pl_dp hp7, pl_shaped _ _, pl_shaped _ _, _, rfl, ?_⟩
          rw [pl_eqv]
          have s47 := (s4.trans s6).trans s7
          have l7 := (s6.trans s7) _ _ l4
          have tk : (srt (mb g.flatten)).take (i + 1) = (srt (mb g.flatten)).take i ++ [m] := by rw [List.take_add_one, hm]; rfl
          rw [tk, List.filter_append, List.map_append]
          by_cases e : (TM.tilt h w g c).flatten.idxOf m = g.flatten.idxOf m
          · rw [decide_eq_true e]
            refine iteF ⟨s47, ?_⟩
            rw [l7]
            simp [e]
          · rw [decide_eq_false e]
            refine iteT ⟨_, rfl, _, l7, ?_, keep s47, ?_⟩
            · have := List.length_filter_le (fun m => decide ((TM.tilt h w g c).flatten.idxOf m ≠ g.flatten.idxOf m)) ((srt (mb g.flatten)).take i)
              rw [List.length_take, lS] at this
              rw [List.length_map]
              show _ < 16777216
              omega
            · rw [upd_same]
              simp [e]
        · rintro H4 ⟨s4, l4⟩
          rw [S_size, List.take_length] at l4
          exact ⟨l, rfl, s3.trans s4, l4⟩
      rintro σ H3 ⟨l, rfl, s3, hl⟩
      have ml : (moves g (TM.tilt h w g c)).length ≤ 26 := by
        have := List.length_filter_le (fun m => decide ((TM.tilt h w g c).flatten.idxOf m ≠ g.flatten.idxOf m)) (srt (mb g.flatten))
        rw [lS] at this
        unfold moves
        omega
      have T3 := tb2.same s3
      have t3 := tr.same s3
      refine ⟨_, rfl, _, rfl, _, rfl, x, _, _, _, rfl, rfl, s3.tup S2, rfl, ?_⟩
      intro y dy ny ndy ney
      refine ⟨y, dy, [c], rfl, upd_same, ⟨by show 1 ≤ 60; decide, by simpa using hT⟩, fun H4 hw kp4 => ⟨rfl, ?_⟩⟩
      have s4 := Same.made ny ndy kp4
      have T4 := T3.same s4
      obtain ⟨d1, a1, h1, _⟩ := id T4
      obtain ⟨d2, h2⟩ := id hw
      refine ⟨b, d1, _, y, d2, _, rfl, rfl, h1, h2, b, y, h, w, g, [c], rfl, T4, hV, hw, fun H5 r5 s5 t5 => ?_⟩
      replace t5 : TrayAt K D H5 r5 (TM.tilt h w g c) := t5
      have t35 := (t3.same s4).same s5
      obtain ⟨d6, a6, h6, _⟩ := id t35
      obtain ⟨d7, a7, h7, _⟩ := id t5
      refine ⟨r, d6, _, rfl, h6, .inl ⟨r5, d7, _, rfl, h7⟩, r, r5, h, w, h, w, _, _, rfl, t35, t5, V1', V1', _, rfl, ?_⟩
      rw [decide_eq_true (p := TM.tilt h w g c = TM.tilt h w g c) rfl]
      have hl5 := (s4.trans s5) _ _ hl
      refine iteT ⟨_, rfl, ⟨_, rfl⟩, _, rfl, _, l, (moves g (TM.tilt h w g c)).map fun m => S [m], rfl, rfl, .inl ?_, ?_, ?_⟩
      · rw [List.map_map]
        exact SqL.of hl5
      · have sm1 : ∀ L : List Nat, ((L.map fun m => S [m]).map (fun x => x.length)).sum = L.length := fun L => by
          induction L with
          | nil => rfl
          | cons a L ih =>
            rw [List.map_cons, List.map_cons, List.sum_cons, ih, List.length_cons, S_len]
            show 1 + L.length = L.length + 1
            omega
        rw [sm1, List.length_map]
        show _ + _ * 0 ≤ 16777216
        omega
      · rw [join_signs]
        refine ⟨rfl, ?_⟩
        rw [decide_eq_true (p := V.str (S (moves g (TM.tilt h w g c))) = V.str (S (moves g (TM.tilt h w g c)))) rfl]
        exact k H5 ((hL2.same s3).same (s4.trans s5)) (hb.trans (.same (s3.trans (s4.trans s5))))
end
end TI
end
section
set_option Elab.async false
set_option maxRecDepth 100000
set_option linter.all false
namespace TI
open PySem PySem.Spec PyProof.Rows L2 TM TK TB TP TH TU TW TR
section
variable {K : PySem.W.Frag} {L D : Addr} {H H' : Hp}
theorem op_lbF {l : Addr} {ys : List V} {x : V} {o : Op} (h : OpAt K H x o) (hl : H l = some (.lst ys)) (b : But l H H') : OpAt K H' x o := by
  obtain ⟨a, zs, z1, z2, z3⟩ := h
  refine ⟨a, zs, z1, seq_lb z2 hl b, ?_⟩
  cases o with
  | tl c => exact z3
  | pt c i j =>
    obtain ⟨q', e, hq⟩ := z3
    exact ⟨q', e, seq_lb hq hl b⟩
  | tk c => exact z3
theorem lv_lbF {l q d : Addr} {xs : List V} {os : List Op} {gs : List Grid} (h : LvAt K L D H q os gs d) (hl : H l = some (.lst xs)) (kp : But l H H') : LvAt K L D H' q os gs d := by
  obtain ⟨dx, st, h0, ⟨⟨o, tr, ys, ts, h1, h2, h3, h4, h5⟩, h6, h7⟩⟩ := h
  have nq : q ≠ l := fun z => by rw [z, hl] at h0; cases h0
  exact ⟨dx, st, kp _ _ h0 nq, ⟨o, tr, ys, ts, seq_lb h1 hl kp, seq_lb h2 hl kp, seq_lb h3 hl kp, h4.imp fun x y z => op_lbF z hl kp, h5.imp fun x y ⟨r, e, t⟩ => ⟨r, e, tray_but t hl kp⟩⟩, h6, h7⟩
theorem row_lvF {dx st p a r : Addr} {ns : List Int} {v : V} (R : RowAt K a ns H r) (hp : H p = some (LO L dx st v)) (kp : But p H H') : RowAt K a ns H' r := by
  obtain ⟨i, se, re, h1, h2, h3⟩ := R
  refine ⟨i, se, re, kp _ _ h1 (fun z => by rw [z, hp] at h1; cases h1), h2, ?_⟩
  rcases h3 with (h | ⟨u, h⟩) | h
  · exact .inl (.inl (kp _ _ h fun z => by rw [z, hp] at h; cases h))
  · exact .inl (.inr ⟨u, kp _ _ h fun z => by rw [z, hp] at h; cases h⟩)
  · exact .inr h
/-- a list that is not the row and not the script's -/
def Frd (K : PySem.W.Frag) (a : Addr) (ns : List Int) (r l : Addr) : Prop := ∀ H1 H2, RowAt K a ns H1 r → But l H1 H2 → RowAt K a ns H2 r
theorem frd_new {a r l : Addr} {ns : List Int} (R : RowAt K a ns H r) (hl : H l = none) : Frd K a ns r l := fun H1 H2 R1 b => by
  obtain ⟨_, _, _, h1, _, h3⟩ := R
  obtain ⟨i, se, re, e1, e2, e3⟩ := R1
  have nr : r ≠ l := ne_of_none h1 hl
  refine ⟨i, se, re, b _ _ e1 nr, e2, ?_⟩
  rcases h3 with (h | ⟨u, h⟩) | h
  · have na := ne_of_none h hl
    rcases e3 with (e | ⟨v, e⟩) | e
    · exact .inl (.inl (b _ _ e na))
    · exact .inl (.inr ⟨v, b _ _ e na⟩)
    · exact .inr e
  · have na := ne_of_none h hl
    rcases e3 with (e | ⟨v, e⟩) | e
    · exact .inl (.inl (b _ _ e na))
    · exact .inl (.inr ⟨v, b _ _ e na⟩)
    · exact .inr e
  · exact .inr h
theorem All2.snoc {α : Type} {R : V → α → Prop} {xs : List V} {ys : List α} {x : V} {y : α} (h : All2 R xs ys) (r : R x y) : All2 R (xs ++ [x]) (ys ++ [y]) := by
  refine h.app ⟨rfl, fun k x' y' a b => ?_⟩
  cases k with
  | zero =>
    cases a
    cases b
    exact r
  | succ k => simp at a
theorem okAll_snoc {h w : Nat} : ∀ {os : List Op} {g : Grid} {o : Op}, okAll h w g os → okOp h w (atG h w g os os.length) o → okAll h w g (os ++ [o])
  | [], _, _, _, z => ⟨z, trivial⟩
  | o' :: r, g, o, y, z => ⟨y.1, okAll_snoc (os := r) y.2 z⟩
theorem runG_snoc {h w : Nat} : ∀ (os : List Op) (g : Grid) (o : Op), runG h w g (os ++ [o]) = runG h w g os ++ [stepG h w (atG h w g os os.length) o]
  | [], _, _ => rfl
  | o' :: r, g, o => congrArg (stepG h w g o' :: ·) (runG_snoc r (stepG h w g o') o)
theorem gs_at {h w : Nat} {os : List Op} {g : Grid} {k : Nat} (hk : k ≤ os.length) : (g :: runG h w g os)[k]? = some (atG h w g os k) := by
  cases k with
  | zero => rfl
  | succ k => exact runG_ix os g k hk
theorem okAll_fit {h w : Nat} : ∀ {os : List Op} {g : Grid}, VG h w g → okAll h w g os → ∀ o ∈ os, opFit o
  | [], _, _, _, o, ho => absurd ho List.not_mem_nil
  | o' :: r, g, hV, y, o, ho => by
    rcases List.mem_cons.mp ho with rfl | ho
    · exact okOp_fit hV y.1
    · exact okAll_fit (stepG_VG hV y.1) y.2 o ho
theorem ne_ops {l1 l2 : Addr} {xs ys : List V} {ops : List Op} {Q : V → Hp → Prop} (hx : SqL K H l1 xs) (ax : All2 (OpAt K H) xs ops) (hy : SqL K H l2 ys) (ay : All2 (OpAt K H) ys ops) (fit : ∀ o ∈ ops, opFit o) (k : Q (.bl false) H) : rNeD K (.ref l1) (.ref l2) H Q :=
  ⟨.list (ops.map opD), .list (ops.map opD), .lst hx (dp_op ops xs ax), .lst hy (dp_op ops ys ay), op_shaped fit, op_shaped fit, by rw [op_eqv]; exact k⟩
theorem eq_ops {l1 l2 : Addr} {xs ys : List V} {ops : List Op} {Q : V → Hp → Prop} (hx : SqL K H l1 xs) (ax : All2 (OpAt K H) xs ops) (hy : SqL K H l2 ys) (ay : All2 (OpAt K H) ys ops) (fit : ∀ o ∈ ops, opFit o) (k : Q (.bl true) H) : rEqD K (.ref l1) (.ref l2) H Q :=
  ⟨.list (ops.map opD), .list (ops.map opD), .lst hx (dp_op ops xs ax), .lst hy (dp_op ops ys ay), op_shaped fit, op_shaped fit, by rw [op_eqv]; exact k⟩
end
/-- what stands while the law goes on -/
structure I20 (K : PySem.W.Frag) (L D a : Addr) (ns : List Int) (r p q l t h w : Nat) (g : Grid) (ops : List Op) (d : Nat) (H : Hp) : Prop where
  row : RowAt K a ns H r
  tray : TrayAt K D H p g
  lv : LvAt K L D H q ops (g :: runG h w g ops) d
  deeds : ∃ xs, H l = some (.lst xs) ∧ All2 (OpAt K H) xs ops
  trays : ∃ ts, H t = some (.lst ts) ∧ All2 (TrV K D H) ts (g :: runG h w g ops)
section
variable {K : PySem.W.Frag} {L D a : Addr} {ns : List Int} {r p q l t h w d : Nat} {g : Grid} {ops : List Op} {H H' : Hp}
theorem I20.same (x : I20 K L D a ns r p q l t h w g ops d H) (s : Same H H') : I20 K L D a ns r p q l t h w g ops d H' := by
  obtain ⟨x1, x2, x3, ⟨xs, x4, x5⟩, ⟨ts, x6, x7⟩⟩ := x
  exact ⟨x1.same s, x2.same s, x3.same s, ⟨xs, s _ _ x4, x5.imp fun _ _ z => z.same s⟩, ⟨ts, s _ _ x6, x7.imp fun _ _ ⟨y, e, z⟩ => ⟨y, e, z.same s⟩⟩⟩
theorem I20.inRow (x : I20 K L D a ns r p q l t h w g ops d H) (nl : l ≠ r) (nt : t ≠ r) (R : RowAt K a ns H' r) (b : But r H H') : I20 K L D a ns r p q l t h w g ops d H' := by
  obtain ⟨x1, x2, x3, ⟨xs, x4, x5⟩, ⟨ts, x6, x7⟩⟩ := x
  obtain ⟨_, _, _, hr, _⟩ := x1
  exact ⟨R, tray_but x2 hr b, lv_lbF x3 hr b, ⟨xs, b _ _ x4 nl, x5.imp fun _ _ z => op_lbF z hr b⟩, ⟨ts, b _ _ x6 nt, x7.imp fun _ _ ⟨y, e, z⟩ => ⟨y, e, tray_but z hr b⟩⟩⟩
theorem I20.inLive (x : I20 K L D a ns r p q l t h w g ops d H) {d' : Nat} (L1 : LvAt K L D H' q ops (g :: runG h w g ops) d') (b : But q H H') : I20 K L D a ns r p q l t h w g ops d' H' := by
  obtain ⟨x1, x2, x3, ⟨xs, x4, x5⟩, ⟨ts, x6, x7⟩⟩ := x
  obtain ⟨dx, st, hq, _⟩ := x3
  have nq : ∀ {y : Addr} {ys : List V}, H y = some (.lst ys) → y ≠ q := fun e z => by rw [z, hq] at e; cases e
  exact ⟨row_lvF x1 hq b, tray_lv x2 hq b, L1, ⟨xs, b _ _ x4 (nq x4), x5.imp fun _ _ z => op_lv z hq b⟩, ⟨ts, b _ _ x6 (nq x6), x7.imp fun _ _ ⟨y, e, z⟩ => ⟨y, e, tray_lv z hq b⟩⟩⟩
end
section
variable {P : Program} {w_ : World} {K : PySem.W.Frag} {mg : Str → Option Value} {base : Heap} {n : Nat} {L D C : Addr}
def spTa (K : PySem.W.Frag) (L D : Addr) : Sp := fun vs H Q E => ∃ ws rest, vs = ws ++ rest ∧ ws.length = (["self"] : List Str).length ∧ rest.length ≤ sizeLine ∧ ∀ p, H p = none → spTaC K L D (ws ++ [V.ref p]) (upd H p (.tup rest)) Q E
/-- what the law calls -/
structure L20 (P : Program) (w_ : World) (K : PySem.W.Frag) (mg : Str → Option Value) (base : Heap) (n : Nat) (L D C : Addr) : Prop where
  txt : TxtW K mg
  rng : mg "range" = none
  dc : D ≠ C
  cw : ClsW K mg C
  ct : ClsT K mg D
  cl : ClsL K mg L
  fRw : ∃ g fd, (∀ a ns, FnOk P w_ K mg base CX0 2 g fd ["_law_row", "_law_most"] (spRw K a ns)) ∧ PySem.W.keepIn K (.ref g) = true ∧ Binds K fd ["_law_row", "_law_most"] [] ∧ mg "_law_rows" = some (.ref g)
  fTy : ∃ g fd, FnOk P w_ K mg base CX0 6 g fd ["_law_rows_here"] (spTry K D) ∧ PySem.W.keepIn K (.ref g) = true ∧ Binds K fd ["_law_rows_here"] [] ∧ mg "_law_tray" = some (.ref g)
  fDe : ∃ g fd, (∀ a ns, FnOk P w_ K mg base CX0 6 g fd ["_law_row", "_law_tray_here"] (spDe K D a ns)) ∧ PySem.W.keepIn K (.ref g) = true ∧ Binds K fd ["_law_row", "_law_tray_here"] [] ∧ mg "_law_deed" = some (.ref g)
  fDn : ∃ g, FnRn n P w_ K mg base CX0 9 g (spDn K L D) ∧ PySem.W.keepIn K (.ref g) = true ∧ mg "_law_is_done" = some (.ref g)
  mkL : ∃ g fd, Mk K L g ∧ FnOk P w_ K mg base CX0 1 g fd ["self", "tray"] (spLi K L D) ∧ Binds K fd ["self", "tray"] []
  rp : ∃ mc p g, ClX.CRead K L mc ∧ ClX.CMet K L mc "replay" p g ∧ FnRn n P w_ K mg base CX0 8 g (spRp K L D)
  mTa : ∃ g, Meth K L "tray_after" g ∧ FnRn n P w_ K mg base CX0 8 g (spTa K L D)
  mUn : ∃ g fd, Meth K L "undo" g ∧ FnOk P w_ K mg base CX0 1 g fd ["self"] (spUn K L D) ∧ Binds K fd ["self"] []
  mRe : ∃ g fd, Meth K L "redo" g ∧ FnOk P w_ K mg base CX0 1 g fd ["self"] (spRe K L D) ∧ Binds K fd ["self"] []
  pHi : ∃ p g fd, PropOf K L "history" p g ∧ FnOk P w_ K mg base CX0 1 g fd ["self"] (spHi K L D) ∧ Binds K fd ["self"] []
  pPr : ∃ p g fd, PropOf K L "present_tray" p g ∧ FnOk P w_ K mg base CX0 1 g fd ["self"] (spPr K L D) ∧ Binds K fd ["self"] []
  eq : ∃ g, PySem.W.findIn K (.ref D) "__eq__" = some (some (.ref g)) ∧ PySem.W.isFn K (.ref g) = true ∧ FnR P w_ K mg base CX0 1 g (spTe K D)
  sh : PySem.W.selfFirst K D = true ∧ NoOp K C Operator.RShift.info.2 ∧ ∃ g, PySem.W.findIn K (.ref D) (PySem.dunder Operator.RShift.info.2) = some (some (.ref g)) ∧ PySem.W.isFn K (.ref g) = true ∧ FnRn n P w_ K mg base CX0 5 g (spRs K C D)
  mw : ∃ g fd, Mk K C g ∧ FnOk P w_ K mg base CX0 3 g fd ["self", "text"] (spWi C) ∧ Binds K fd ["self", "text"] []
abbrev NLw : List Str := ["_law_script", "_law_row", "_law_tray_here", "_law_live", "_law_deeds", "_law_trays", "_law_turn", "_law_other", "_law_k"]
theorem scLw : FnScope NLw ["_law_script"] (defScope sLaw) := ⟨rfl, rfl, rfl, by decide +kernel, rfl, by decide +kernel, by decide +kernel⟩
def spLaw (K : PySem.W.Frag) : Sp := fun vs H Q _ => ∃ (a : Addr) (ns : List Int), vs = [.ref a] ∧ SqL K H a (ns.map V.int) ∧ ∀ H', Q (.bl true) H'
theorem ok_law {f : Addr} {fd : FuncData} (F : Fun K "law" "law" sLaw f fd) (b : Binds K fd ["_law_script"] []) (J : L20 P w_ K mg base n L D C) : FnRn n P w_ K mg base CX0 10 f (spLaw K) := by
  obtain ⟨gRw, fdRw, GRw, kRw, bRw, mRw⟩ := J.fRw
  obtain ⟨gTy, fdTy, GTy, kTy, bTy, mTy⟩ := J.fTy
  obtain ⟨gDe, fdDe, GDe, kDe, bDe, mDe⟩ := J.fDe
  obtain ⟨gDn, GDn, kDn, mDn⟩ := J.fDn
  obtain ⟨gLi, fdLi, MLi, GLi, bLi⟩ := J.mkL
  obtain ⟨mcL, pRp, gRp, CRL, CML, GRp⟩ := J.rp
  obtain ⟨gTa, MTa, GTa⟩ := J.mTa
  obtain ⟨gUn, fdUn, MUn, GUn, bUn⟩ := J.mUn
  obtain ⟨gRe, fdRe, MRe, GRe, bRe⟩ := J.mRe
  obtain ⟨pHi, gHi, fdHi, PHi, GHi, bHi⟩ := J.pHi
  obtain ⟨pPr, gPr, fdPr, PPr, GPr, bPr⟩ := J.pPr
  obtain ⟨gTe, hE, iE, GTe⟩ := J.eq
  obtain ⟨sf, NO, gRs, hs, iRs, GRs⟩ := J.sh
  obtain ⟨gWi, fdWi, MW, GWi, bWi⟩ := J.mw
  have T := J.txt
  have CT := J.ct
  have CL := J.cl
  have CW := J.cw
  have hDC := J.dc
  refine fn_n F b scLw (fun vs H Q E h => ?_) fun cdv A outer s H vs Q E hr h => ?_
  · obtain ⟨a, ns, rfl, _⟩ := h
    rfl
  · obtain ⟨a, ns, rfl, hS, k⟩ := h
    have nd := scLw.nd
    have r1 : Room 1 _ := hr.mono (by decide)
    have r2 : Room 2 _ := hr.mono (by decide)
    have r4 : Room 4 _ := hr.mono (by decide)
    have r5 : Room 5 _ := hr.mono (by decide)
    have r6 : Room 6 _ := hr.mono (by decide)
    have r8 : Room 8 _ := hr.mono (by decide)
    refine ⟨_, pssn_cut (PS.up (ps_set (i := 1) nd rfl (.inl rfl) (pe_lst (pa_cons (pv 0) (pa_cons pe_int (pa_cons pe_int (pa_cons pe_int pa_nil)))))))
      (pssn_cut (PS.up (ps_set (i := 2) nd rfl (.inl rfl) (pe_call GTy r6 rfl mTy kTy bTy .nil pass0 (pa_cons (pe_call (GRw a ns) r2 rfl mRw kRw bRw .nil pass0 (pa_cons (pv 1) (pa_cons pe_int pa_nil))) pa_nil))))
      (pssn_cut (PS.up (ps_par3 (i := 3) (j := 4) (l := 5) rfl nd rfl rfl rfl (by decide) (by decide) (by decide) rfl rfl rfl (pa_cons (pe_make MLi GLi r2 rfl CL.mgL bLi .nil pass0 (pa_cons (pv 2) pa_nil)) (pa_cons (pe_lst pa_nil) (pa_cons (pe_lst (pa_cons (pv 2) pa_nil)) pa_nil))) (by rfl)))
      (pssn_cut (psn_for PassesOwn.never rfl (pi_range1 (by rfl) J.rng (pa_cons pe_int pa_nil)) (pg_name (i := 6) nd rfl (.inl rfl))
        (pssn_cut (PS.up (ps_expr (pe_bm PySem.F.plainAttrs_list PySem.F.slot_list_append PySem.F.type_list_append mt_append (pv 4) (pa_cons (pe_call (GDe a ns) r6 rfl mDe kDe bDe .nil pass0 (pa_cons (pv 1) (pa_cons (pe_prop (pv 3) CL.cl PPr GPr r2 bPr .nil pass0 rfl) pa_nil))) pa_nil))))
        (pssn_cut (psn_if (PWn.pt (pwn_or (ptn_not (ptn_val (pen_call GDn hr rfl mDn kDn pass0 (pan_cons (PE.up (pv 3)) (pan_cons (PE.up (pe_ix ix_list (pv 4) (pe_un un_neg pe_int) (fun _ _ => rfl))) pan_nil))))) (pwn_or1 (PT.up (pt_cmpR (op_neD hr.units) (pe_prop (pv 3) CL.cl PHi GHi r2 bHi .nil pass0 rfl) (pv 4) (nomark _)))))) (PSs.up pss_never) (PSs.up pss_nil))
        (pssn_one (PS.up (ps_expr (pe_bm PySem.F.plainAttrs_list PySem.F.slot_list_append PySem.F.type_list_append mt_append (pv 5) (pa_cons (pe_prop (pv 3) CL.cl PPr GPr r2 bPr .nil pass0 rfl) pa_nil)))))))
      )
      (pssn_cut (psn_set (i := 7) nd rfl (.inl rfl) (ClX.pen_cmeth (pe_glob (v := .ref L) rfl CL.mgL rfl) CRL CML GRp r8 pass0 (pa_cons (pv 2) (pa_cons (pv 4) pa_nil))))
      (pssn_cut (PS.up (ps_if (PW.pt (pw_or (pt_not (pt_cmpR (op_cmpOwn (op := .Eq) (fun _ _ => rfl) hE iE GTe r1 pass0) (pe_prop (pv 7) CL.cl PPr GPr r2 bPr .nil pass0 rfl) (pe_prop (pv 3) CL.cl PPr GPr r2 bPr .nil pass0 rfl) (nomark _))) (pw_or1 (pt_cmpR (op_neD hr.units) (pe_prop (pv 7) CL.cl PHi GHi r2 bHi .nil pass0 rfl) (pv 4) (nomark _))))) pss_never pss_nil))
      (pssn_cut (psn_if (PWn.pt (pwn_or (ptn_not (ptn_cmpR (op_cmpOwn (op := .Eq) (fun _ _ => rfl) hE iE GTe r1 pass0) (pen_methR (pv 3) CL.cl MTa GTa r8 pass0 (pa_cons (pe_tup (pa_cons pe_str (pa_cons pe_str pa_nil))) (pa_cons (pe_tup (pa_cons pe_str (pa_cons pe_str pa_nil))) pa_nil)))
            (pen_op (op_twoN hDC sf NO hs iRs GRs r5 pass0) (PE.up (pe_prop (pv 3) CL.cl PPr GPr r2 bPr .nil pass0 rfl)) (PE.up (pe_make MW GWi r4 rfl CW.mgC bWi .nil pass0 (pa_cons pe_str pa_nil)))) (nomark _))) (pwn_or1 (PT.up (pt_cmpR (op_neD hr.units) (pe_prop (pv 3) CL.cl PHi GHi r2 bHi .nil pass0 rfl) (pv 4) (nomark _)))))) (PSs.up pss_never) (PSs.up pss_nil))
      (pssn_cut (PS.up (ps_for PassesOwn.never rfl (pi_range3 (by rfl) J.rng (pa_cons (pe_op op_sub (pe_callB call_len_seq (by rfl) T.len PySem.boot_len (pa_cons (pv 4) pa_nil)) pe_int) (pa_cons (pe_op op_sub pe_int pe_int) (pa_cons (pe_op op_sub pe_int pe_int) pa_nil)))) (pg_name (i := 8) nd rfl (.inl rfl))
        (pss_one (ps_if (PW.pt (pw_or (pt_not (pt_val (pe_meth0 (pv 3) CL.cl MUn GUn r1 bUn .nil pass0))) (pw_or (pt_not (pt_cmpR (op_cmpOwn (op := .Eq) (fun _ _ => rfl) hE iE GTe r1 pass0) (pe_prop (pv 3) CL.cl PPr GPr r2 bPr .nil pass0 rfl) (pe_ix ix_list (pv 5) (pv 8) (fun _ _ => rfl)) (nomark _)))
          (pw_or1 (pt_cmpR (op_neD hr.units) (pe_prop (pv 3) CL.cl PHi GHi r2 bHi .nil pass0 rfl) (pe_slice sl_list (pv 4) po_none (po_some (pv 8))) (nomark _)))))) pss_never pss_nil))))
      (pssn_cut (PS.up (ps_if (PW.pt (pw_or (pt_val (pe_meth0 (pv 3) CL.cl MUn GUn r1 bUn .nil pass0)) (pw_or1 (pt_not (pt_cmpR (op_cmpOwn (op := .Eq) (fun _ _ => rfl) hE iE GTe r1 pass0) (pe_prop (pv 3) CL.cl PPr GPr r2 bPr .nil pass0 rfl) (pv 2) (nomark _)))))) pss_never pss_nil))
      (pssn_cut (PS.up (ps_for PassesOwn.never rfl (pi_range1 (by rfl) J.rng (pa_cons (pe_callB call_len_seq (by rfl) T.len PySem.boot_len (pa_cons (pv 4) pa_nil)) pa_nil)) (pg_name (i := 8) nd rfl (.inl rfl))
        (pss_one (ps_if (PW.pt (pw_or (pt_not (pt_val (pe_meth0 (pv 3) CL.cl MRe GRe r1 bRe .nil pass0))) (pw_or1 (pt_not (pt_cmpR (op_cmpOwn (op := .Eq) (fun _ _ => rfl) hE iE GTe r1 pass0) (pe_prop (pv 3) CL.cl PPr GPr r2 bPr .nil pass0 rfl) (pe_ix ix_list (pv 5) (pe_op op_add (pv 8) pe_int) (fun _ _ => rfl)) (nomark _)))))) pss_never pss_nil))))
      (pssn_one (PS.up (ps_ret (pe_and (pe_not (pe_meth0 (pv 3) CL.cl MRe GRe r1 bRe .nil pass0)) (pe_one (pe_cmpR (op_eqD hr.units) (pe_prop (pv 3) CL.cl PHi GHi r2 bHi .nil pass0 rfl) (pv 4) (nomark _)))))))))))))))), ?_⟩
    refine ⟨fun σ H1 => ∃ r, σ = [some (.ref a), some (.ref r), none, none, none, none, none, none, none] ∧ RowAt K a ns H1 r, ?_, ?_⟩
    · refine ⟨_, rfl, (by show 4 ≤ sizeLine; decide), fun r hr => ⟨r, rfl, 0, 0, 0, upd_same, by omega, ?_⟩⟩
      exact (same_new hr).seq hS
    rintro σ H1 ⟨r, rfl, R1⟩
    refine ⟨fun σ H2 => ∃ p h w g, σ = [some (.ref a), some (.ref r), some (.ref p), none, none, none, none, none, none] ∧ RowAt K a ns H2 r ∧ TrayAt K D H2 p g ∧ VG h w g, ?_, ?_⟩
    · refine ⟨_, rfl, r, 8, rfl, R1, by decide, fun H4 l h w g hV hl R4 b4 => ⟨l, h, w, g, rfl, hV, hl, fun H5 p s5 T5 => ?_⟩⟩
      exact ⟨p, h, w, g, rfl, R4.same s5, T5, hV⟩
    rintro σ H2 ⟨p, h, w, g, rfl, R2, T2, hV⟩
    refine ⟨fun σ H3 => ∃ q l t, σ = [some (.ref a), some (.ref r), some (.ref p), some (.ref q), some (.ref l), some (.ref t), none, none, none] ∧ l ≠ r ∧ t ≠ r ∧ l ≠ t ∧ Frd K a ns r l ∧ Frd K a ns r t ∧ I20 K L D a ns r p q l t h w g [] 0 H3, ?_, ?_⟩
    · refine ⟨_, rfl, ?_⟩
      intro x dx nx ndx nex
      have hx1 : upd (upd H2 dx (.own x)) x (.ins L dx []) x = some (.ins L dx []) := upd_same
      have s1 : Same H2 (upd (upd H2 dx (.own x)) x (.ins L dx [])) := fun c o e => by
        rw [upd_ne (ne_of_none e nx), upd_ne (ne_of_none e ndx)]
        exact e
      have px : p ≠ x := by
        obtain ⟨d, b, e, _⟩ := id T2
        exact ne_of_none e nx
      refine ⟨x, dx, p, g, rfl, hx1, T2.same s1, px, fun H5 hL hb => ⟨rfl, ?_⟩⟩
      have s5 : Same H2 H5 := fun c o e => hb _ _ (s1 _ _ e) (ne_of_none e nx)
      have R5 := R2.same s5
      have T5 := T2.same s5
      refine ⟨(by show 0 ≤ sizeLine; decide), fun l hl => ?_⟩
      have s6 := same_new (o := .lst []) hl
      have e6 : upd H5 l (.lst []) l = some (.lst []) := upd_same
      generalize upd H5 l (.lst []) = H6 at s6 e6
      refine ⟨_, rfl, (by show 1 ≤ sizeLine; decide), fun t ht => ?_⟩
      have s7 := same_new (o := .lst [V.ref p]) ht
      have e7 : upd H6 t (.lst [V.ref p]) t = some (.lst [V.ref p]) := upd_same
      generalize upd H6 t (.lst [V.ref p]) = H7 at s7 e7
      have R6 := R5.same s6
      obtain ⟨_, _, _, hr5, _⟩ := id R5
      obtain ⟨_, _, _, hr6, _⟩ := id R6
      refine ⟨_, _, _, rfl, x, l, t, rfl, (ne_of_none hr5 hl).symm, (ne_of_none hr6 ht).symm, ne_of_none e6 ht, frd_new R5 hl, frd_new R6 ht, ⟨R6.same s7, (T5.same s6).same s7, (hL.same s6).same s7, ⟨[], s7 _ _ e6, rfl, fun k x y z => by simp at z⟩, ⟨[.ref p], e7, rfl, fun k x y h1 h2 => ?_⟩⟩⟩
      cases k with
      | zero =>
        cases h1
        cases h2
        exact ⟨p, rfl, (T5.same s6).same s7⟩
      | succ k => simp at h1
    rintro σ H3 ⟨q, l, t, rfl, nlr, ntr, nlt, fl, ft, I3⟩
    -- the operations
    refine ⟨fun σ H4 => ∃ v6 ops, σ = [some (.ref a), some (.ref r), some (.ref p), some (.ref q), some (.ref l), some (.ref t), v6, none, none] ∧ ops.length = 12 ∧ okAll h w g ops ∧ I20 K L D a ns r p q l t h w g ops 12 H4, ?_, ?_⟩
    · refine ⟨12, rfl, by decide, by decide, for_range (lo := 0) (n := (12 : Int).toNat) (fun i σ H4 => ∃ v6 ops, σ = [some (.ref a), some (.ref r), some (.ref p), some (.ref q), some (.ref l), some (.ref t), v6, none, none] ∧ ops.length = i ∧ okAll h w g ops ∧ I20 K L D a ns r p q l t h w g ops i H4) ⟨none, [], rfl, rfl, trivial, I3⟩ ?_ fun σ H4 z => z⟩
      rintro i σ H4 hi ⟨v6, ops, rfl, lo, hok, I4⟩
      have hi : i < 12 := hi
      rw [Int.zero_add]
      have gd : (g :: runG h w g ops)[i]? = some (atG h w g ops i) := gs_at (by omega)
      have V4 := atG_VG i hV hok
      obtain ⟨xs, hl4, ax⟩ := I4.deeds
      have lx : xs.length = i := by rw [ax.1, lo]
      obtain ⟨dx, st, hq, _⟩ := id I4.lv
      have zle : ∀ {n : Nat}, n ≤ 1000 → n < sizeLine := fun {n} hn => by show n < 16777216; omega
      refine ⟨fun σ H5 => ∃ x o, σ = [some (.ref a), some (.ref r), some (.ref p), some (.ref q), some (.ref l), some (.ref t), some (.int (i : Nat)), none, none] ∧ H5 l = some (.lst (xs ++ [.ref x])) ∧ All2 (OpAt K H5) xs ops ∧ OpAt K H5 (.ref x) o ∧ okOp h w (atG h w g ops i) o ∧ RowAt K a ns H5 r ∧ TrayAt K D H5 p g ∧ LvAt K L D H5 q ops (g :: runG h w g ops) i ∧ ∃ ts, H5 t = some (.lst ts) ∧ All2 (TrV K D H5) ts (g :: runG h w g ops), ?_, ?_⟩
      · refine ⟨_, rfl, .inl ⟨rfl, _, SqL.of hl4⟩, _, rfl, _, rfl, q, dx, _, rfl, hq, q, i, ops, _, _, rfl, I4.lv, gd, fun b tb => ?_⟩
        refine ⟨r, b, h, w, _, rfl, I4.row, tb, V4, fun H5 x o R5 b5 nx ho oko => ?_⟩
        have I5 := I4.inRow nlr ntr R5 b5
        have hl5 := b5 _ _ hl4 nlr
        refine ⟨l, xs, _, rfl, rfl, hl5, zle (by omega), ?_⟩
        have b6 : But l H5 (upd H5 l (.lst (xs ++ [.ref x]))) := fun b o' e hb => by rw [upd_ne hb]; exact e
        have e6 : upd H5 l (.lst (xs ++ [.ref x])) l = some (.lst (xs ++ [.ref x])) := upd_same
        generalize upd H5 l (.lst (xs ++ [.ref x])) = H6 at b6 e6
        obtain ⟨ts, ht5, at5⟩ := I5.trays
        obtain ⟨_, _, _, hr4, _⟩ := id I4.row
        exact ⟨x, o, rfl, e6, ax.imp fun _ _ z => op_lbF (op_lbF z hr4 b5) hl5 b6, op_lbF ho hl5 b6, oko, fl _ _ R5 b6, tray_but I5.tray hl5 b6, lv_lbF I5.lv hl5 b6, ts, b6 _ _ ht5 (Ne.symm nlt), at5.imp fun _ _ ⟨y, e, z⟩ => ⟨y, e, tray_but z hl5 b6⟩⟩
      rintro σ H5 ⟨x, o, rfl, hl5, ax5, ho5, oko, R5, T5, L5, ts, ht5, at5⟩
      have hok' : okAll h w g (ops ++ [o]) := okAll_snoc hok (by rw [lo]; exact oko)
      have rs : runG h w g (ops ++ [o]) = runG h w g ops ++ [stepG h w (atG h w g ops i) o] := by rw [runG_snoc, lo]
      refine ⟨fun σ H6 => σ = [some (.ref a), some (.ref r), some (.ref p), some (.ref q), some (.ref l), some (.ref t), some (.int (i : Nat)), none, none] ∧ H6 l = some (.lst (xs ++ [.ref x])) ∧ All2 (OpAt K H6) (xs ++ [.ref x]) (ops ++ [o]) ∧ RowAt K a ns H6 r ∧ TrayAt K D H6 p g ∧ LvAt K L D H6 q (ops ++ [o]) (g :: runG h w g (ops ++ [o])) (i + 1) ∧ H6 t = some (.lst ts) ∧ All2 (TrV K D H6) ts (g :: runG h w g ops), ?_, ?_⟩
      · obtain ⟨dx5, st5, hq5, _⟩ := id L5
        have nq : ∀ {y : Addr} {ys : List V}, H5 y = some (.lst ys) → y ≠ q := fun e z => by rw [z, hq5] at e; cases e
        refine ⟨_, rfl, _, rfl, _, rfl, l, _, _, _, rfl, rfl, SqL.of hl5, atI_last _ _, q, x, i, h, w, ops, _, _, o, rfl, L5, gd, V4, ho5, oko, by omega, fun H6 L6 b6 => ?_⟩
        refine ⟨_, rfl, iteF ?_⟩
        rw [← lo, List.take_length, lo, show (g :: runG h w g ops).take (i + 1) = g :: runG h w g ops from List.take_of_length_le (by rw [List.length_cons, runG_len]; omega)] at L6
        have L6' : LvAt K L D H6 q (ops ++ [o]) (g :: runG h w g (ops ++ [o])) (i + 1) := by
          rw [rs]
          exact L6
        obtain ⟨dx6, st6, hq6, _⟩ := id L6
        have hl6 := b6 _ _ hl5 (nq hl5)
        have ax6 : All2 (OpAt K H6) (xs ++ [.ref x]) (ops ++ [o]) := (ax5.snoc ho5).imp fun _ _ z => op_lv z hq5 b6
        refine ⟨_, rfl, q, dx6, _, rfl, hq6, q, i + 1, _, _, rfl, L6', fun H7 l7 xs7 s7 _ hl7 ax7 => ?_⟩
        rw [List.take_of_length_le (by rw [List.length_append, lo]; exact Nat.le_refl _)] at ax7
        refine ⟨_, rfl, ne_ops (SqL.of hl7) ax7 (SqL.of (s7 _ _ hl6)) (ax6.imp fun _ _ z => z.same s7) (okAll_fit hV hok') ?_⟩
        refine ⟨_, rfl, iteF ⟨rfl, s7 _ _ hl6, ax6.imp fun _ _ z => z.same s7, (row_lvF R5 hq5 b6).same s7, (tray_lv T5 hq5 b6).same s7, L6'.same s7, s7 _ _ (b6 _ _ ht5 (nq ht5)), at5.imp fun _ _ ⟨y, e, z⟩ => ⟨y, e, (tray_lv z hq5 b6).same s7⟩⟩⟩
      rintro σ H6 ⟨rfl, hl6, ax6, R6, T6, L6, ht6, at6⟩
      obtain ⟨dx6, st6, hq6, _⟩ := id L6
      have gd6 : (g :: runG h w g (ops ++ [o]))[i + 1]? = some (stepG h w (atG h w g ops i) o) := by
        rw [List.getElem?_cons_succ, rs, List.getElem?_append_right (by rw [runG_len]; omega), runG_len, lo, Nat.sub_self]
        rfl
      have ltt : ts.length = i + 1 := by rw [at6.1, List.length_cons, runG_len, lo]
      refine ⟨_, rfl, .inl ⟨rfl, _, SqL.of ht6⟩, _, rfl, q, dx6, _, rfl, hq6, q, i + 1, _, _, _, rfl, L6, gd6, fun b tb => ⟨t, ts, _, rfl, rfl, ht6, zle (by omega), ?_⟩⟩
      have b7 : But t H6 (upd H6 t (.lst (ts ++ [.ref b]))) := fun b o' e hb => by rw [upd_ne hb]; exact e
      have e7 : upd H6 t (.lst (ts ++ [.ref b])) t = some (.lst (ts ++ [.ref b])) := upd_same
      generalize upd H6 t (.lst (ts ++ [.ref b])) = H7 at b7 e7
      refine ⟨_, ops ++ [o], rfl, by rw [List.length_append, lo]; rfl, hok', ⟨ft _ _ R6 b7, tray_but T6 ht6 b7, lv_lbF L6 ht6 b7, ⟨_, b7 _ _ hl6 nlt, ax6.imp fun _ _ z => op_lbF z ht6 b7⟩, ⟨_, e7, ?_⟩⟩⟩
      rw [rs]
      exact (at6.snoc (x := .ref b) (y := stepG h w (atG h w g ops i) o) ⟨b, rfl, tb⟩).imp fun _ _ ⟨y, e, z⟩ => ⟨y, e, tray_but z ht6 b7⟩
    rintro σ H4 ⟨v6, ops, rfl, lo, hok, I4⟩
    -- replayed
    have lc : ops.length ≤ 1000 := by omega
    have gd12 : (g :: runG h w g ops)[12]? = some (atG h w g ops 12) := gs_at (by omega)
    have V12 := atG_VG 12 hV hok
    have fit := okAll_fit hV hok
    refine ⟨fun σ H5 => ∃ o, σ = [some (.ref a), some (.ref r), some (.ref p), some (.ref q), some (.ref l), some (.ref t), v6, some (.ref o), none] ∧ LvAt K L D H5 o ops (g :: runG h w g ops) 12 ∧ I20 K L D a ns r p q l t h w g ops 12 H5, ?_, ?_⟩
    · obtain ⟨xs, hl4, ax⟩ := I4.deeds
      refine ⟨rfl, _, rfl, _, rfl, p, l, h, w, g, ops, xs, rfl, I4.tray, hV, SqL.of hl4, ax, hok, lc, fun H5 o L5 s5 => ⟨o, rfl, ?_, I4.same s5⟩⟩
      rw [lo] at L5
      exact L5
    rintro σ H5 ⟨o, rfl, Lo, I5⟩
    clear I4 H4
    refine ⟨fun σ H6 => σ = [some (.ref a), some (.ref r), some (.ref p), some (.ref q), some (.ref l), some (.ref t), v6, some (.ref o), none] ∧ I20 K L D a ns r p q l t h w g ops 12 H6, ?_, ?_⟩
    · obtain ⟨dxo, sto, hqo, _⟩ := id Lo
      obtain ⟨dx, st, hq, _⟩ := id I5.lv
      refine ⟨_, rfl, o, dxo, _, rfl, hqo, o, 12, _, _, _, rfl, Lo, gd12, fun r1 tr1 => ?_⟩
      refine ⟨_, rfl, q, dx, _, rfl, hq, q, 12, _, _, _, rfl, I5.lv, gd12, fun r2 tr2 => ?_⟩
      obtain ⟨d1, a1, h1, _⟩ := id tr1
      obtain ⟨d2, a2, h2, _⟩ := id tr2
      refine ⟨r1, d1, _, rfl, h1, .inl ⟨r2, d2, _, rfl, h2⟩, r1, r2, h, w, h, w, _, _, rfl, tr1, tr2, V12, V12, ?_⟩
      rw [decide_eq_true rfl]
      refine ⟨true, rfl, iteF ⟨_, rfl, o, dxo, _, rfl, hqo, o, 12, _, _, rfl, Lo, fun H6 l6 xs6 s6 _ hl6 ax6 => ?_⟩⟩
      have I6 := I5.same s6
      obtain ⟨xs, hl, ax⟩ := I6.deeds
      rw [List.take_of_length_le (by omega)] at ax6
      exact ⟨_, rfl, ne_ops (SqL.of hl6) ax6 (SqL.of hl) ax fit ⟨_, rfl, iteF ⟨rfl, I6⟩⟩⟩
    rintro σ H6 ⟨rfl, I6⟩
    clear I5 Lo H5
    -- tray_after
    refine ⟨fun σ H7 => σ = [some (.ref a), some (.ref r), some (.ref p), some (.ref q), some (.ref l), some (.ref t), v6, some (.ref o), none] ∧ I20 K L D a ns r p q l t h w g ops 12 H7, ?_, ?_⟩
    · obtain ⟨dx, st, hq, _⟩ := id I6.lv
      refine ⟨_, rfl, q, dx, _, rfl, hq, rfl, (by show 2 ≤ sizeLine; decide), fun x1 hx1 => ?_⟩
      have s1 := same_new (o := .tup [V.str (Str.ofString "tilt"), V.str (Str.ofString "l")]) hx1
      have e1 : upd H6 x1 (.tup [V.str (Str.ofString "tilt"), V.str (Str.ofString "l")]) x1 = some (.tup [V.str (Str.ofString "tilt"), V.str (Str.ofString "l")]) := upd_same
      generalize upd H6 x1 (.tup [V.str (Str.ofString "tilt"), V.str (Str.ofString "l")]) = H7 at s1 e1
      refine ⟨(by show 2 ≤ sizeLine; decide), fun x2 hx2 => ?_⟩
      have s2 := same_new (o := .tup [V.str (Str.ofString "tilt"), V.str (Str.ofString "u")]) hx2
      have e2 : upd H7 x2 (.tup [V.str (Str.ofString "tilt"), V.str (Str.ofString "u")]) x2 = some (.tup [V.str (Str.ofString "tilt"), V.str (Str.ofString "u")]) := upd_same
      generalize upd H7 x2 (.tup [V.str (Str.ofString "tilt"), V.str (Str.ofString "u")]) = H8 at s2 e2
      refine ⟨[.ref q], [.ref x1, .ref x2], rfl, rfl, (by show 2 ≤ sizeLine; decide), fun o2 ho2 => ?_⟩
      have s3 := same_new (o := .tup [V.ref x1, V.ref x2]) ho2
      have e3 : upd H8 o2 (.tup [V.ref x1, V.ref x2]) o2 = some (.tup [V.ref x1, V.ref x2]) := upd_same
      generalize upd H8 o2 (.tup [V.ref x1, V.ref x2]) = H9 at s3 e3
      have I9 := I6.same ((s1.trans s2).trans s3)
      refine ⟨q, o2, 12, h, w, ops, [.tl 108, .tl 117], _, _, [.ref x1, .ref x2], rfl, I9.lv, gd12, V12, SqT.of e3, ⟨rfl, fun k x y z1 z2 => ?_⟩, ⟨(by decide : isT 108 = true), (by decide : isT 117 = true), trivial⟩, by show ops.length + 2 ≤ 1000; omega, fun H10 r10 L10 b10 t10 => ?_⟩
      · match k with
        | 0 =>
          cases z1
          cases z2
          exact ⟨x1, _, rfl, SqT.of ((s2.trans s3) _ _ e1), rfl⟩
        | 1 =>
          cases z1
          cases z2
          exact ⟨x2, _, rfl, SqT.of (s3 _ _ e2), rfl⟩
        | k + 2 => simp at z1
      have I10 := I9.inLive L10 b10
      obtain ⟨dx10, st10, hq10, _⟩ := id L10
      refine ⟨_, rfl, q, dx10, _, rfl, hq10, q, 12, _, _, _, rfl, L10, gd12, fun r2 tr2 => ?_⟩
      intro y dy ny ndy ney
      refine ⟨y, dy, [108, 117], rfl, upd_same, ⟨by show 2 ≤ 60; decide, by decide⟩, fun H11 hw kp11 => ⟨rfl, ?_⟩⟩
      have s11 := Same.made ny ndy kp11
      have T11 := tr2.same s11
      obtain ⟨d1, a1, h1, _⟩ := id T11
      obtain ⟨d2, h2⟩ := id hw
      refine ⟨r2, d1, _, y, d2, _, rfl, rfl, h1, h2, r2, y, h, w, _, [108, 117], rfl, T11, V12, hw, fun H12 r12 s12 t12 => ?_⟩
      have t10' := (t10.same s11).same s12
      obtain ⟨d3, a3, h3, _⟩ := id t10'
      obtain ⟨d4, a4, h4, _⟩ := id t12
      have VF : VG h w (tilts h w [108, 117] (atG h w g ops 12)) := VG.tilts [108, 117] V12
      refine ⟨r10, d3, _, rfl, h3, .inl ⟨r12, d4, _, rfl, h4⟩, r10, r12, h, w, h, w, _, _, rfl, t10', t12, VF, VF, ?_⟩
      rw [decide_eq_true (show atG h w (atG h w g ops 12) [Op.tl 108, Op.tl 117] [Op.tl 108, Op.tl 117].length = tilts h w [108, 117] (atG h w g ops 12) from rfl)]
      have I12 := (I10.same s11).same s12
      obtain ⟨dx12, st12, hq12, _⟩ := id I12.lv
      refine ⟨true, rfl, iteF ⟨_, rfl, q, dx12, _, rfl, hq12, q, 12, _, _, rfl, I12.lv, fun H13 l13 xs13 s13 _ hl13 ax13 => ?_⟩⟩
      have I13 := I12.same s13
      obtain ⟨xs, hl, ax⟩ := I13.deeds
      rw [List.take_of_length_le (by omega)] at ax13
      exact ⟨_, rfl, ne_ops (SqL.of hl13) ax13 (SqL.of hl) ax fit ⟨_, rfl, iteF ⟨rfl, I13⟩⟩⟩
    rintro σ H7 ⟨rfl, I7⟩
    clear I6 H6
    -- undone
    refine ⟨fun σ H8 => ∃ v8, σ = [some (.ref a), some (.ref r), some (.ref p), some (.ref q), some (.ref l), some (.ref t), v6, some (.ref o), v8] ∧ I20 K L D a ns r p q l t h w g ops 0 H8, ?_, ?_⟩
    · obtain ⟨xs, hl, ax⟩ := id I7.deeds
      have lx : xs.length = 12 := by rw [ax.1, lo]
      refine ⟨_, rfl, l, xs, rfl, .inl (SqL.of hl), _, _, rfl, rfl, _, _, rfl, rfl, _, _, rfl, rfl, ?_⟩
      rw [lx]
      refine ⟨11, -1, -1, 12, rfl, RgC.neg (by decide) (by decide) (by decide) (by decide), for_rangeC (lo := 11) (c := -1) (n := 12) (fun i σ H8 => ∃ v8, σ = [some (.ref a), some (.ref r), some (.ref p), some (.ref q), some (.ref l), some (.ref t), v6, some (.ref o), v8] ∧ I20 K L D a ns r p q l t h w g ops (12 - i) H8) ⟨none, rfl, I7⟩ ?_ fun σ H8 z => z⟩
      rintro i σ H8 hi ⟨v8, rfl, I8⟩
      obtain ⟨dx, st, hq, _⟩ := id I8.lv
      have ek : (11 : Int) + (i : Nat) * (-1) = ((11 - i : Nat) : Int) := by omega
      rw [ek]
      refine ⟨_, rfl, q, dx, _, rfl, hq, rfl, q, _, _, _, rfl, I8.lv, fun z => absurd z (by omega), fun _ H9 L9 b9 => ?_⟩
      rw [show 12 - i - 1 = 11 - i by omega] at L9
      have I9 := I8.inLive L9 b9
      have V9 := atG_VG (11 - i) hV hok
      have g9 : (g :: runG h w g ops)[11 - i]? = some (atG h w g ops (11 - i)) := gs_at (by omega)
      obtain ⟨dx9, st9, hq9, _⟩ := id L9
      refine ⟨_, rfl, iteF ⟨_, rfl, q, dx9, _, rfl, hq9, q, _, _, _, _, rfl, L9, g9, fun b tb => ?_⟩⟩
      obtain ⟨ts, ht9, at9⟩ := id I9.trays
      have lt9 : ts.length = 13 := by rw [at9.1, List.length_cons, runG_len, lo]
      obtain ⟨x, hx⟩ : ∃ x, ts[11 - i]? = some x := ⟨_, List.getElem?_eq_getElem (by omega)⟩
      obtain ⟨c, rfl, tc⟩ := at9.2 _ _ _ hx g9
      obtain ⟨d1, a1, h1, _⟩ := id tb
      obtain ⟨d2, a2, h2, _⟩ := id tc
      refine ⟨_, rfl, _, rfl, t, ts, _, _, rfl, rfl, SqL.of ht9, atI_nat hx, b, d1, _, rfl, h1, .inl ⟨c, d2, _, rfl, h2⟩, b, c, h, w, h, w, _, _, rfl, tb, tc, V9, V9, ?_⟩
      rw [decide_eq_true rfl]
      refine ⟨true, rfl, iteF ⟨_, rfl, q, dx9, _, rfl, hq9, q, _, _, _, rfl, L9, fun H10 l10 xs10 s10 _ hl10 ax10 => ?_⟩⟩
      have I10 := I9.same s10
      obtain ⟨ys, hl', ax'⟩ := id I10.deeds
      refine ⟨_, rfl, _, rfl, _, rfl, l, ys, rfl, SqL.of hl', fun p8 hp8 => ?_⟩
      have s11 := same_new (o := .lst (cutV ys none (some ((11 - i : Nat) : Int)))) hp8
      have e11 : upd H10 p8 (.lst (cutV ys none (some ((11 - i : Nat) : Int)))) p8 = some (.lst (cutV ys none (some ((11 - i : Nat) : Int)))) := upd_same
      generalize upd H10 p8 (.lst (cutV ys none (some ((11 - i : Nat) : Int)))) = H11 at s11 e11
      rw [cutT_tk] at e11
      have I11 := I10.same s11
      refine ne_ops (ops := ops.take (11 - i)) (SqL.of (s11 _ _ hl10)) (ax10.imp fun _ _ z => z.same s11) (SqL.of e11) ((ax'.take _).imp fun _ _ z => z.same s11) (fun o ho => fit o (List.mem_of_mem_take ho)) ⟨_, rfl, iteF ⟨_, rfl, ?_⟩⟩
      rw [show 12 - (i + 1) = 11 - i by omega]
      exact I11
    rintro σ H8 ⟨v8, rfl, I8⟩
    clear I7 H7
    -- nothing to undo
    refine ⟨fun σ H9 => σ = [some (.ref a), some (.ref r), some (.ref p), some (.ref q), some (.ref l), some (.ref t), v6, some (.ref o), v8] ∧ I20 K L D a ns r p q l t h w g ops 0 H9, ?_, ?_⟩
    · obtain ⟨dx, st, hq, _⟩ := id I8.lv
      refine ⟨_, rfl, q, dx, _, rfl, hq, rfl, q, 0, ops, _, rfl, I8.lv, fun _ => ?_, fun z => absurd z (by omega)⟩
      refine ⟨false, rfl, iteF ⟨_, rfl, q, dx, _, rfl, hq, q, 0, ops, _, g, rfl, I8.lv, rfl, fun b tb => ?_⟩⟩
      obtain ⟨d1, a1, h1, _⟩ := id tb
      obtain ⟨d2, a2, h2, _⟩ := id I8.tray
      refine ⟨_, rfl, b, d1, _, rfl, h1, .inl ⟨p, d2, _, rfl, h2⟩, b, p, h, w, h, w, _, _, rfl, tb, I8.tray, hV, hV, ?_⟩
      rw [decide_eq_true rfl]
      exact ⟨true, rfl, iteF ⟨rfl, I8⟩⟩
    rintro σ H9 ⟨rfl, I9⟩
    clear I8 H8
    -- done again
    refine ⟨fun σ H10 => ∃ v8, σ = [some (.ref a), some (.ref r), some (.ref p), some (.ref q), some (.ref l), some (.ref t), v6, some (.ref o), v8] ∧ I20 K L D a ns r p q l t h w g ops 12 H10, ?_, ?_⟩
    · obtain ⟨xs, hl, ax⟩ := id I9.deeds
      have lx : xs.length = 12 := by rw [ax.1, lo]
      refine ⟨_, rfl, l, xs, rfl, .inl (SqL.of hl), ?_⟩
      rw [lx]
      refine ⟨12, rfl, by decide, by decide, for_range (lo := 0) (n := (12 : Int).toNat) (fun i σ H10 => ∃ v8, σ = [some (.ref a), some (.ref r), some (.ref p), some (.ref q), some (.ref l), some (.ref t), v6, some (.ref o), v8] ∧ I20 K L D a ns r p q l t h w g ops i H10) ⟨v8, rfl, I9⟩ ?_ fun σ H10 z => z⟩
      rintro i σ H10 hi ⟨v8', rfl, I10⟩
      have hi : i < 12 := hi
      rw [Int.zero_add]
      obtain ⟨dx, st, hq, _⟩ := id I10.lv
      refine ⟨_, rfl, q, dx, _, rfl, hq, rfl, q, i, ops, _, rfl, I10.lv, fun z => absurd z (by omega), fun _ H11 L11 b11 => ?_⟩
      have I11 := I10.inLive L11 b11
      have V11 := atG_VG (i + 1) hV hok
      have g11 : (g :: runG h w g ops)[i + 1]? = some (atG h w g ops (i + 1)) := gs_at (by omega)
      obtain ⟨dx11, st11, hq11, _⟩ := id L11
      refine ⟨_, rfl, iteF ⟨_, rfl, q, dx11, _, rfl, hq11, q, _, _, _, _, rfl, L11, g11, fun b tb => ?_⟩⟩
      obtain ⟨ts, ht11, at11⟩ := id I11.trays
      have lt11 : ts.length = 13 := by rw [at11.1, List.length_cons, runG_len, lo]
      obtain ⟨x, hx⟩ : ∃ x, ts[i + 1]? = some x := ⟨_, List.getElem?_eq_getElem (by omega)⟩
      obtain ⟨c, rfl, tc⟩ := at11.2 _ _ _ hx g11
      obtain ⟨d1, a1, h1, _⟩ := id tb
      obtain ⟨d2, a2, h2, _⟩ := id tc
      refine ⟨_, rfl, _, rfl, _, _, rfl, rfl, t, ts, _, _, rfl, rfl, SqL.of ht11, atI_nat (j := i + 1) hx, b, d1, _, rfl, h1, .inl ⟨c, d2, _, rfl, h2⟩, b, c, h, w, h, w, _, _, rfl, tb, tc, V11, V11, ?_⟩
      rw [decide_eq_true rfl]
      exact ⟨true, rfl, iteF ⟨_, rfl, I11⟩⟩
    rintro σ H10 ⟨v8', rfl, I10⟩
    obtain ⟨dx, st, hq, _⟩ := id I10.lv
    refine ⟨_, rfl, q, dx, _, rfl, hq, rfl, q, 12, ops, _, rfl, I10.lv, fun _ => ?_, fun z => absurd z (by omega)⟩
    refine ⟨false, rfl, true, rfl, iteT ⟨_, rfl, q, dx, _, rfl, hq, q, 12, ops, _, rfl, I10.lv, fun H11 l11 xs11 s11 _ hl11 ax11 => ?_⟩⟩
    have I11 := I10.same s11
    obtain ⟨xs, hl, ax⟩ := id I11.deeds
    rw [List.take_of_length_le (by omega)] at ax11
    exact ⟨_, rfl, eq_ops (SqL.of hl11) ax11 (SqL.of hl) ax fit (k H11)⟩
end
end TI
end
section
set_option Elab.async false
set_option maxRecDepth 100000
set_option linter.all false
namespace TI
open PySem PySem.Spec PyProof.Rows L2 LamX TM TX TK TB TP TH TU TW TR
set_option maxHeartbeats 4000000
theorem all_mk {P : Program} {w : World} {K : PySem.W.Frag} {h : Heap} {mg : Str → Option Value} {fa : Addr} {C D fIt fFw fWi fWt qWt fTi fTo qTo fRs fFc fIr fTd fSl fTr qTr fTe fMb qMb fWd qWd fHt qHt fTc fCl fNu fPl fCv fAt V fIl fWc fAk fAp fAl fIo fPr qPr fEs fMt fMp fMk fUn fHi qHi fLv fRp qRp fLx fRe fAy aA aS fEn fXt fLn fTa fTk fRw fTy fFr fDe fDn fLw e2 fIx2 cc2 cdIx2 N2 e3 : Addr} {tAR tAC t0 tLE tMS tMX taStilt taSput taStake : Tok} {zAR zAC zEM zLE : Str} {iMS iMX iaStilt iaSput iaStake : Int}
    {odIt anIt : Option Addr} {slIt : Array (Option Value)} {ocIt kVIt dcIt pmIt cdIt ctIt : Value} {odFw anFw : Option Addr} {slFw : Array (Option Value)} {ocFw kVFw dcFw pmFw cdFw ctFw : Value} {odWi anWi : Option Addr} {slWi : Array (Option Value)} {ocWi kVWi dcWi pmWi cdWi ctWi : Value} {rWt : List Value} {odWt anWt : Option Addr} {slWt : Array (Option Value)} {ocWt kVWt dcWt pmWt cdWt ctWt : Value} {odTi anTi : Option Addr} {slTi : Array (Option Value)} {ocTi kVTi dcTi pmTi cdTi ctTi : Value} {rTo : List Value} {odTo anTo : Option Addr} {slTo : Array (Option Value)} {ocTo kVTo dcTo pmTo cdTo ctTo : Value} {odRs anRs : Option Addr} {slRs : Array (Option Value)} {ocRs kVRs dcRs pmRs cdRs ctRs : Value} {odFc anFc : Option Addr} {slFc : Array (Option Value)} {ocFc kVFc dcFc pmFc cdFc ctFc : Value} {odIr anIr : Option Addr} {slIr : Array (Option Value)} {ocIr kVIr dcIr pmIr cdIr ctIr : Value} {odTd anTd : Option Addr} {slTd : Array (Option Value)} {ocTd kVTd dcTd pmTd cdTd ctTd : Value} {odSl anSl : Option Addr} {slSl : Array (Option Value)} {ocSl kVSl dcSl pmSl cdSl ctSl : Value} {rTr : List Value} {odTr anTr : Option Addr} {slTr : Array (Option Value)} {ocTr kVTr dcTr pmTr cdTr ctTr : Value} {odTe anTe : Option Addr} {slTe : Array (Option Value)} {ocTe kVTe dcTe pmTe cdTe ctTe : Value} {rMb : List Value} {odMb anMb : Option Addr} {slMb : Array (Option Value)} {ocMb kVMb dcMb pmMb cdMb ctMb : Value} {rWd : List Value} {odWd anWd : Option Addr} {slWd : Array (Option Value)} {ocWd kVWd dcWd pmWd cdWd ctWd : Value} {rHt : List Value} {odHt anHt : Option Addr} {slHt : Array (Option Value)} {ocHt kVHt dcHt pmHt cdHt ctHt : Value} {odTc anTc : Option Addr} {slTc : Array (Option Value)} {ocTc kVTc dcTc pmTc cdTc ctTc : Value} {odCl anCl : Option Addr} {slCl : Array (Option Value)} {ocCl kVCl dcCl pmCl cdCl ctCl : Value} {odNu anNu : Option Addr} {slNu : Array (Option Value)} {ocNu kVNu dcNu pmNu cdNu ctNu : Value} {odPl anPl : Option Addr} {slPl : Array (Option Value)} {ocPl kVPl dcPl pmPl cdPl ctPl : Value} {odCv anCv : Option Addr} {slCv : Array (Option Value)} {ocCv kVCv dcCv pmCv cdCv ctCv : Value} {odAt anAt : Option Addr} {slAt : Array (Option Value)} {ocAt kVAt dcAt pmAt cdAt ctAt : Value} {cdC : ClassData} {odIl anIl : Option Addr} {slIl : Array (Option Value)} {ocIl kVIl dcIl pmIl cdIl ctIl : Value} {odWc anWc : Option Addr} {slWc : Array (Option Value)} {ocWc kVWc dcWc pmWc cdWc ctWc : Value} {odAk anAk : Option Addr} {slAk : Array (Option Value)} {ocAk kVAk dcAk pmAk cdAk ctAk : Value} {odAp anAp : Option Addr} {slAp : Array (Option Value)} {ocAp kVAp dcAp pmAp cdAp ctAp : Value} {odAl anAl : Option Addr} {slAl : Array (Option Value)} {ocAl kVAl dcAl pmAl cdAl ctAl : Value} {odIo anIo : Option Addr} {slIo : Array (Option Value)} {ocIo kVIo dcIo pmIo cdIo ctIo : Value} {rPr : List Value} {odPr anPr : Option Addr} {slPr : Array (Option Value)} {ocPr kVPr dcPr pmPr cdPr ctPr : Value} {odEs anEs : Option Addr} {slEs : Array (Option Value)} {ocEs kVEs dcEs pmEs cdEs ctEs : Value} {odMt anMt : Option Addr} {slMt : Array (Option Value)} {ocMt kVMt dcMt pmMt cdMt ctMt : Value} {odMp anMp : Option Addr} {slMp : Array (Option Value)} {ocMp kVMp dcMp pmMp cdMp ctMp : Value} {odMk anMk : Option Addr} {slMk : Array (Option Value)} {ocMk kVMk dcMk pmMk cdMk ctMk : Value} {odUn anUn : Option Addr} {slUn : Array (Option Value)} {ocUn kVUn dcUn pmUn cdUn ctUn : Value} {rHi : List Value} {odHi anHi : Option Addr} {slHi : Array (Option Value)} {ocHi kVHi dcHi pmHi cdHi ctHi : Value} {odLv anLv : Option Addr} {slLv : Array (Option Value)} {ocLv kVLv dcLv pmLv cdLv ctLv : Value} {rRp : List Value} {odRp anRp : Option Addr} {slRp : Array (Option Value)} {ocRp kVRp dcRp pmRp cdRp ctRp : Value} {odLx anLx : Option Addr} {slLx : Array (Option Value)} {ocLx kVLx dcLx pmLx cdLx ctLx : Value} {odRe anRe : Option Addr} {slRe : Array (Option Value)} {ocRe kVRe dcRe pmRe cdRe ctRe : Value} {odAy anAy : Option Addr} {slAy : Array (Option Value)} {ocAy kVAy dcAy pmAy cdAy ctAy : Value} {esaA : Array DictEntry} {naA : Nat} {esaS : Array DictEntry} {naS : Nat} {odEn anEn : Option Addr} {slEn : Array (Option Value)} {ocEn kVEn dcEn pmEn cdEn ctEn : Value} {odXt anXt : Option Addr} {slXt : Array (Option Value)} {ocXt kVXt dcXt pmXt cdXt ctXt : Value} {odLn anLn : Option Addr} {slLn : Array (Option Value)} {ocLn kVLn dcLn pmLn cdLn ctLn : Value} {odTa anTa : Option Addr} {slTa : Array (Option Value)} {ocTa kVTa dcTa pmTa cdTa ctTa : Value} {odTk anTk : Option Addr} {slTk : Array (Option Value)} {ocTk kVTk dcTk pmTk cdTk ctTk : Value} {odRw anRw : Option Addr} {slRw : Array (Option Value)} {ocRw kVRw dcRw pmRw cdRw ctRw : Value} {odTy anTy : Option Addr} {slTy : Array (Option Value)} {ocTy kVTy dcTy pmTy cdTy ctTy : Value} {odFr anFr : Option Addr} {slFr : Array (Option Value)} {ocFr kVFr dcFr pmFr cdFr ctFr : Value} {odDe anDe : Option Addr} {slDe : Array (Option Value)} {ocDe kVDe dcDe pmDe cdDe ctDe : Value} {odDn anDn : Option Addr} {slDn : Array (Option Value)} {ocDn kVDn dcDn pmDn cdDn ctDn : Value} {odLw anLw : Option Addr} {slLw : Array (Option Value)} {ocLw kVLw dcLw pmLw cdLw ctLw : Value} {tfX2 : Tok} {fileX2 nm2 q2 : Str} {bs2 bm2 sub2 : List Value} {sn2 : List Str} {ab2 : Bool} {col2 : Option Bool} {dd2 : Option Addr} {m02 m12 m22 m32 m52 : Option Value} {odIx2 anIx2 cdd2 cld02 : Option Addr} {slIx2 ccs2 csl02 : Array (Option Value)} {vsx2 : Array Value} {ocIx2 kVIx2 dcIx2 pmIx2 ctIx2 ccl2 cl02 : Value}
    (X : K.In h) (G : h.Ns mainGlobals mg) (hfa : mg "law" = some (.ref fa))
    (aC : PySem.W.nsIn K mainGlobals "Word" = some (some (.ref C)))
    (pgC : PySem.W.plainGet K C Str.empty = true)
    (hdC : PySem.W.hasDictIn K C = true)
    (poC : PySem.W.plainOver K C = true)
    (saC : PySem.W.findIn K (.ref C) "__setattr__" = some (some (.builtin "object.__setattr__")))
    (mkC : PySem.W.makesIn K C = true)
    (kcC : PySem.W.keepIn K (.ref C) = true)
    (rdC : PySem.W.readsIn K C (.type "type") = true)
    (gaC : PySem.W.specialIn K (.ref C) "__getattribute__" = some (some (.builtin "type.__getattribute__")))
    (aD : PySem.W.nsIn K mainGlobals "Tray" = some (some (.ref D)))
    (pgD : PySem.W.plainGet K D Str.empty = true)
    (hdD : PySem.W.hasDictIn K D = true)
    (poD : PySem.W.plainOver K D = true)
    (saD : PySem.W.findIn K (.ref D) "__setattr__" = some (some (.builtin "object.__setattr__")))
    (mkD : PySem.W.makesIn K D = true)
    (kcD : PySem.W.keepIn K (.ref D) = true)
    (rdD : PySem.W.readsIn K D (.type "type") = true)
    (gaD : PySem.W.specialIn K (.ref D) "__getattribute__" = some (some (.builtin "type.__getattribute__")))
    (cAR : PySem.W.nsIn K mainGlobals "ALONG_ROWS" = some (some (.str zAR tAR)))
    (cAC : PySem.W.nsIn K mainGlobals "ALONG_COLUMNS" = some (some (.str zAC tAC)))
    (cEM : PySem.W.nsIn K mainGlobals "EMPTY" = some (some (.str zEM t0)))
    (cLE : PySem.W.nsIn K mainGlobals "LETTERS" = some (some (.str zLE tLE)))
    (cMS : PySem.W.nsIn K mainGlobals "MAX_SIDE" = some (some (.int iMS tMS)))
    (nT : PySem.W.findIn K (.ref C) "_text" = some none)
    (nR : PySem.W.findIn K (.ref D) "_rows" = some none)
    (ih : PySem.W.findIn K (.ref C) "__class__" = some (some (.builtin "object.__class__")))
    (in_ : PySem.W.specialIn K (.builtin "object.__class__") "__get__" = some (some (.builtin "getset_descriptor.__get__")))
    (itk : PySem.W.takesIn K (.builtin "object.__class__") = some true)
    (im : PySem.W.mroIn K C (.type "object") = some true)
    (ihD : PySem.W.findIn K (.ref D) "__class__" = some (some (.builtin "object.__class__")))
    (imD : PySem.W.mroIn K D (.type "object") = some true)
    (mx : PySem.W.findCls K (.ref C) (.type "type") "MAX_TILTS" = some (.val (.int iMX tMX)))
    (b_len : PySem.W.nsIn K mainGlobals "len" = some (none))
    (b_isinstance : PySem.W.nsIn K mainGlobals "isinstance" = some (none))
    (b_str : PySem.W.nsIn K mainGlobals "str" = some (none))
    (b_enumerate : PySem.W.nsIn K mainGlobals "enumerate" = some (none))
    (b_set : PySem.W.nsIn K mainGlobals "set" = some (none))
    (b_zip : PySem.W.nsIn K mainGlobals "zip" = some (none))
    (b_tuple : PySem.W.nsIn K mainGlobals "tuple" = some (none))
    (b_int : PySem.W.nsIn K mainGlobals "int" = some (none))
    (b_range : PySem.W.nsIn K mainGlobals "range" = some (none))
    (b_min : PySem.W.nsIn K mainGlobals "min" = some (none))
    (b_list : PySem.W.nsIn K mainGlobals "list" = some (none))
    (b_bool : PySem.W.nsIn K mainGlobals "bool" = some (none))
    (b_sorted : PySem.W.nsIn K mainGlobals "sorted" = some (none))
    (b_divmod : PySem.W.nsIn K mainGlobals "divmod" = some (none))
    (b_super : PySem.W.nsIn K mainGlobals "super" = some (none))
    (aIt : PySem.W.nsIn K mainGlobals "is_tilt" = some (some (.ref fIt)))
    (lIt : K.lookup fIt = some ⟨ocIt, odIt, .func (PySem.W.fnOf "is_tilt" "is_tilt" (defArgs sIsTilt) (defBody sIsTilt) (defScope sIsTilt) .none kVIt dcIt pmIt anIt cdIt ctIt), slIt⟩)
    (cIt : PySem.W.codeIn K cdIt "is_tilt" = true)
    (kIt : PySem.W.keepIn K (.ref fIt) = true)
    (aFw : PySem.W.nsIn K mainGlobals "_first_wrong_index" = some (some (.ref fFw)))
    (lFw : K.lookup fFw = some ⟨ocFw, odFw, .func (PySem.W.fnOf "_first_wrong_index" "_first_wrong_index" (defArgs sFirstWrongIndex) (defBody sFirstWrongIndex) (defScope sFirstWrongIndex) .none kVFw dcFw pmFw anFw cdFw ctFw), slFw⟩)
    (cFw : PySem.W.codeIn K cdFw "_first_wrong_index" = true)
    (kFw : PySem.W.keepIn K (.ref fFw) = true)
    (aWi : PySem.W.findIn K (.ref C) "__init__" = some (some (.ref fWi)))
    (iWi : PySem.W.isFn K (.ref fWi) = true)
    (lWi : K.lookup fWi = some ⟨ocWi, odWi, .func (PySem.W.fnOf "__init__" "Word.__init__" (defArgs sWordInit) (defBody sWordInit) (defScope sWordInit) .none kVWi dcWi pmWi anWi cdWi ctWi), slWi⟩)
    (cWi : PySem.W.codeIn K cdWi "Word.__init__" = true)
    (kWi : PySem.W.keepIn K (.ref fWi) = true)
    (pWt : PySem.W.findIn K (.ref C) "text" = some (some (.ref qWt)))
    (pgtWt : PySem.W.specialIn K (.ref qWt) "__get__" = some (some (.builtin "property.__get__")))
    (ptkWt : PySem.W.takesIn K (.ref qWt) = some true)
    (aWt : PySem.W.recIn K qWt "property" = some (.ref fWt :: rWt))
    (lWt : K.lookup fWt = some ⟨ocWt, odWt, .func (PySem.W.fnOf "text" "Word.text" (defArgs sWordText) (defBody sWordText) (defScope sWordText) .none kVWt dcWt pmWt anWt cdWt ctWt), slWt⟩)
    (cWt : PySem.W.codeIn K cdWt "Word.text" = true)
    (kWt : PySem.W.keepIn K (.ref fWt) = true)
    (aTi : PySem.W.findIn K (.ref D) "__init__" = some (some (.ref fTi)))
    (iTi : PySem.W.isFn K (.ref fTi) = true)
    (lTi : K.lookup fTi = some ⟨ocTi, odTi, .func (PySem.W.fnOf "__init__" "Tray.__init__" (defArgs sTrayInit) (defBody sTrayInit) (defScope sTrayInit) .none kVTi dcTi pmTi anTi cdTi ctTi), slTi⟩)
    (cTi : PySem.W.codeIn K cdTi "Tray.__init__" = true)
    (kTi : PySem.W.keepIn K (.ref fTi) = true)
    (pTo : PySem.W.findCls K (.ref D) (.type "type") "of_text" = some (.get (.builtin "classmethod.__get__") (.ref qTo) .none (.ref D)))
    (aTo : PySem.W.recIn K qTo "classmethod" = some (.ref fTo :: rTo))
    (fiTo : PySem.W.fnIn K fTo = true)
    (lTo : K.lookup fTo = some ⟨ocTo, odTo, .func (PySem.W.fnOf "of_text" "Tray.of_text" (defArgs sTrayOfText) (defBody sTrayOfText) (defScope sTrayOfText) .none kVTo dcTo pmTo anTo cdTo ctTo), slTo⟩)
    (cTo : PySem.W.codeIn K cdTo "Tray.of_text" = true)
    (kTo : PySem.W.keepIn K (.ref fTo) = true)
    (aRs : PySem.W.findIn K (.ref D) "__rshift__" = some (some (.ref fRs)))
    (iRs : PySem.W.isFn K (.ref fRs) = true)
    (lRs : K.lookup fRs = some ⟨ocRs, odRs, .func (PySem.W.fnOf "__rshift__" "Tray.__rshift__" (defArgs sTrayRshift) (defBody sTrayRshift) (defScope sTrayRshift) .none kVRs dcRs pmRs anRs cdRs ctRs), slRs⟩)
    (cRs : PySem.W.codeIn K cdRs "Tray.__rshift__" = true)
    (kRs : PySem.W.keepIn K (.ref fRs) = true)
    (aFc : PySem.W.nsIn K mainGlobals "_first_wrong_cell" = some (some (.ref fFc)))
    (lFc : K.lookup fFc = some ⟨ocFc, odFc, .func (PySem.W.fnOf "_first_wrong_cell" "_first_wrong_cell" (defArgs sFirstWrongCell) (defBody sFirstWrongCell) (defScope sFirstWrongCell) .none kVFc dcFc pmFc anFc cdFc ctFc), slFc⟩)
    (cFc : PySem.W.codeIn K cdFc "_first_wrong_cell" = true)
    (kFc : PySem.W.keepIn K (.ref fFc) = true)
    (aIr : PySem.W.nsIn K mainGlobals "_is_row" = some (some (.ref fIr)))
    (lIr : K.lookup fIr = some ⟨ocIr, odIr, .func (PySem.W.fnOf "_is_row" "_is_row" (defArgs sIsRow) (defBody sIsRow) (defScope sIsRow) .none kVIr dcIr pmIr anIr cdIr ctIr), slIr⟩)
    (cIr : PySem.W.codeIn K cdIr "_is_row" = true)
    (kIr : PySem.W.keepIn K (.ref fIr) = true)
    (aTd : PySem.W.nsIn K mainGlobals "_tilted" = some (some (.ref fTd)))
    (lTd : K.lookup fTd = some ⟨ocTd, odTd, .func (PySem.W.fnOf "_tilted" "_tilted" (defArgs sTilted) (defBody sTilted) (defScope sTilted) .none kVTd dcTd pmTd anTd cdTd ctTd), slTd⟩)
    (cTd : PySem.W.codeIn K cdTd "_tilted" = true)
    (kTd : PySem.W.keepIn K (.ref fTd) = true)
    (aSl : PySem.W.nsIn K mainGlobals "_slid" = some (some (.ref fSl)))
    (lSl : K.lookup fSl = some ⟨ocSl, odSl, .func (PySem.W.fnOf "_slid" "_slid" (defArgs sSlid) (defBody sSlid) (defScope sSlid) .none kVSl dcSl pmSl anSl cdSl ctSl), slSl⟩)
    (cSl : PySem.W.codeIn K cdSl "_slid" = true)
    (kSl : PySem.W.keepIn K (.ref fSl) = true)
    (pTr : PySem.W.findIn K (.ref D) "rows" = some (some (.ref qTr)))
    (pgtTr : PySem.W.specialIn K (.ref qTr) "__get__" = some (some (.builtin "property.__get__")))
    (ptkTr : PySem.W.takesIn K (.ref qTr) = some true)
    (aTr : PySem.W.recIn K qTr "property" = some (.ref fTr :: rTr))
    (lTr : K.lookup fTr = some ⟨ocTr, odTr, .func (PySem.W.fnOf "rows" "Tray.rows" (defArgs sTrayRows) (defBody sTrayRows) (defScope sTrayRows) .none kVTr dcTr pmTr anTr cdTr ctTr), slTr⟩)
    (cTr : PySem.W.codeIn K cdTr "Tray.rows" = true)
    (kTr : PySem.W.keepIn K (.ref fTr) = true)
    (aTe : PySem.W.findIn K (.ref D) "__eq__" = some (some (.ref fTe)))
    (iTe : PySem.W.isFn K (.ref fTe) = true)
    (lTe : K.lookup fTe = some ⟨ocTe, odTe, .func (PySem.W.fnOf "__eq__" "Tray.__eq__" (defArgs sTrayEq) (defBody sTrayEq) (defScope sTrayEq) .none kVTe dcTe pmTe anTe cdTe ctTe), slTe⟩)
    (cTe : PySem.W.codeIn K cdTe "Tray.__eq__" = true)
    (kTe : PySem.W.keepIn K (.ref fTe) = true)
    (pMb : PySem.W.findIn K (.ref D) "marbles" = some (some (.ref qMb)))
    (pgtMb : PySem.W.specialIn K (.ref qMb) "__get__" = some (some (.builtin "property.__get__")))
    (ptkMb : PySem.W.takesIn K (.ref qMb) = some true)
    (aMb : PySem.W.recIn K qMb "property" = some (.ref fMb :: rMb))
    (lMb : K.lookup fMb = some ⟨ocMb, odMb, .func (PySem.W.fnOf "marbles" "Tray.marbles" (defArgs sTrayMarbles) (defBody sTrayMarbles) (defScope sTrayMarbles) .none kVMb dcMb pmMb anMb cdMb ctMb), slMb⟩)
    (cMb : PySem.W.codeIn K cdMb "Tray.marbles" = true)
    (kMb : PySem.W.keepIn K (.ref fMb) = true)
    (pWd : PySem.W.findIn K (.ref D) "width" = some (some (.ref qWd)))
    (pgtWd : PySem.W.specialIn K (.ref qWd) "__get__" = some (some (.builtin "property.__get__")))
    (ptkWd : PySem.W.takesIn K (.ref qWd) = some true)
    (aWd : PySem.W.recIn K qWd "property" = some (.ref fWd :: rWd))
    (lWd : K.lookup fWd = some ⟨ocWd, odWd, .func (PySem.W.fnOf "width" "Tray.width" (defArgs sTrayWidth) (defBody sTrayWidth) (defScope sTrayWidth) .none kVWd dcWd pmWd anWd cdWd ctWd), slWd⟩)
    (cWd : PySem.W.codeIn K cdWd "Tray.width" = true)
    (kWd : PySem.W.keepIn K (.ref fWd) = true)
    (pHt : PySem.W.findIn K (.ref D) "height" = some (some (.ref qHt)))
    (pgtHt : PySem.W.specialIn K (.ref qHt) "__get__" = some (some (.builtin "property.__get__")))
    (ptkHt : PySem.W.takesIn K (.ref qHt) = some true)
    (aHt : PySem.W.recIn K qHt "property" = some (.ref fHt :: rHt))
    (lHt : K.lookup fHt = some ⟨ocHt, odHt, .func (PySem.W.fnOf "height" "Tray.height" (defArgs sTrayHeight) (defBody sTrayHeight) (defScope sTrayHeight) .none kVHt dcHt pmHt anHt cdHt ctHt), slHt⟩)
    (cHt : PySem.W.codeIn K cdHt "Tray.height" = true)
    (kHt : PySem.W.keepIn K (.ref fHt) = true)
    (aTc : PySem.W.findIn K (.ref D) "__contains__" = some (some (.ref fTc)))
    (iTc : PySem.W.isFn K (.ref fTc) = true)
    (lTc : K.lookup fTc = some ⟨ocTc, odTc, .func (PySem.W.fnOf "__contains__" "Tray.__contains__" (defArgs sTrayContains) (defBody sTrayContains) (defScope sTrayContains) .none kVTc dcTc pmTc anTc cdTc ctTc), slTc⟩)
    (cTc : PySem.W.codeIn K cdTc "Tray.__contains__" = true)
    (kTc : PySem.W.keepIn K (.ref fTc) = true)
    (aCl : PySem.W.findIn K (.ref D) "__call__" = some (some (.ref fCl)))
    (iCl : PySem.W.isFn K (.ref fCl) = true)
    (lCl : K.lookup fCl = some ⟨ocCl, odCl, .func (PySem.W.fnOf "__call__" "Tray.__call__" (defArgs sTrayCall) (defBody sTrayCall) (defScope sTrayCall) .none kVCl dcCl pmCl anCl cdCl ctCl), slCl⟩)
    (cCl : PySem.W.codeIn K cdCl "Tray.__call__" = true)
    (kCl : PySem.W.keepIn K (.ref fCl) = true)
    (fnCl : PySem.W.fnIn K fCl = true)
    (aNu : PySem.W.nsIn K mainGlobals "is_number" = some (some (.ref fNu)))
    (lNu : K.lookup fNu = some ⟨ocNu, odNu, .func (PySem.W.fnOf "is_number" "is_number" (defArgs sIsNumber) (defBody sIsNumber) (defScope sIsNumber) .none kVNu dcNu pmNu anNu cdNu ctNu), slNu⟩)
    (cNu : PySem.W.codeIn K cdNu "is_number" = true)
    (kNu : PySem.W.keepIn K (.ref fNu) = true)
    (aPl : PySem.W.nsIn K mainGlobals "is_place" = some (some (.ref fPl)))
    (lPl : K.lookup fPl = some ⟨ocPl, odPl, .func (PySem.W.fnOf "is_place" "is_place" (defArgs sIsPlace) (defBody sIsPlace) (defScope sIsPlace) .none kVPl dcPl pmPl anPl cdPl ctPl), slPl⟩)
    (cPl : PySem.W.codeIn K cdPl "is_place" = true)
    (kPl : PySem.W.keepIn K (.ref fPl) = true)
    (aCv : PySem.W.nsIn K mainGlobals "check_place" = some (some (.ref fCv)))
    (lCv : K.lookup fCv = some ⟨ocCv, odCv, .func (PySem.W.fnOf "check_place" "check_place" (defArgs sCheckPlace) (defBody sCheckPlace) (defScope sCheckPlace) .none kVCv dcCv pmCv anCv cdCv ctCv), slCv⟩)
    (cCv : PySem.W.codeIn K cdCv "check_place" = true)
    (kCv : PySem.W.keepIn K (.ref fCv) = true)
    (aAt : PySem.W.findIn K (.ref D) "at" = some (some (.ref fAt)))
    (iAt : PySem.W.isFn K (.ref fAt) = true)
    (lAt : K.lookup fAt = some ⟨ocAt, odAt, .func (PySem.W.fnOf "at" "Tray.at" (defArgs sTrayAt) (defBody sTrayAt) (defScope sTrayAt) .none kVAt dcAt pmAt anAt cdAt ctAt), slAt⟩)
    (cAt : PySem.W.codeIn K cdAt "Tray.at" = true)
    (kAt : PySem.W.keepIn K (.ref fAt) = true)
    (sf : PySem.W.selfFirst K D = true)
    (nc : PySem.W.clsIn K C = some cdC)
    (nm : cdC.mro = [.ref C, .type "object"])
    (n1 : PySem.W.findIn K (.ref C) "__rshift__" = some none)
    (n2 : PySem.W.findIn K (.ref C) "__rrshift__" = some none)
    (n3 : PySem.W.findIn K (.type "object") "__rshift__" = some none)
    (n4 : PySem.W.findIn K (.type "object") "__rrshift__" = some none)
    (aV : PySem.W.nsIn K mainGlobals "LiveTray" = some (some (.ref V)))
    (pgV : PySem.W.plainGet K V Str.empty = true)
    (hdV : PySem.W.hasDictIn K V = true)
    (poV : PySem.W.plainOver K V = true)
    (saV : PySem.W.findIn K (.ref V) "__setattr__" = some (some (.builtin "object.__setattr__")))
    (mkV : PySem.W.makesIn K V = true)
    (kcV : PySem.W.keepIn K (.ref V) = true)
    (rdV : PySem.W.readsIn K V (.type "type") = true)
    (gaV : PySem.W.specialIn K (.ref V) "__getattribute__" = some (some (.builtin "type.__getattribute__")))
    (nVs : PySem.W.findIn K (.ref V) "_state" = some none)
    (nVb : PySem.W.findIn K (.ref V) "_state_before_block" = some none)
    (aIl : PySem.W.nsIn K mainGlobals "_is_letter" = some (some (.ref fIl)))
    (lIl : K.lookup fIl = some ⟨ocIl, odIl, .func (PySem.W.fnOf "_is_letter" "_is_letter" (defArgs sIsLetter) (defBody sIsLetter) (defScope sIsLetter) .none kVIl dcIl pmIl anIl cdIl ctIl), slIl⟩)
    (cIl : PySem.W.codeIn K cdIl "_is_letter" = true)
    (kIl : PySem.W.keepIn K (.ref fIl) = true)
    (aWc : PySem.W.nsIn K mainGlobals "_with_cell" = some (some (.ref fWc)))
    (lWc : K.lookup fWc = some ⟨ocWc, odWc, .func (PySem.W.fnOf "_with_cell" "_with_cell" (defArgs sWithCell) (defBody sWithCell) (defScope sWithCell) .none kVWc dcWc pmWc anWc cdWc ctWc), slWc⟩)
    (cWc : PySem.W.codeIn K cdWc "_with_cell" = true)
    (kWc : PySem.W.keepIn K (.ref fWc) = true)
    (aAk : PySem.W.nsIn K mainGlobals "_after_take" = some (some (.ref fAk)))
    (lAk : K.lookup fAk = some ⟨ocAk, odAk, .func (PySem.W.fnOf "_after_take" "_after_take" (defArgs sAfterTake) (defBody sAfterTake) (defScope sAfterTake) .none kVAk dcAk pmAk anAk cdAk ctAk), slAk⟩)
    (cAk : PySem.W.codeIn K cdAk "_after_take" = true)
    (kAk : PySem.W.keepIn K (.ref fAk) = true)
    (aAp : PySem.W.nsIn K mainGlobals "_after_put" = some (some (.ref fAp)))
    (lAp : K.lookup fAp = some ⟨ocAp, odAp, .func (PySem.W.fnOf "_after_put" "_after_put" (defArgs sAfterPut) (defBody sAfterPut) (defScope sAfterPut) .none kVAp dcAp pmAp anAp cdAp ctAp), slAp⟩)
    (cAp : PySem.W.codeIn K cdAp "_after_put" = true)
    (kAp : PySem.W.keepIn K (.ref fAp) = true)
    (aAl : PySem.W.nsIn K mainGlobals "_after_tilt" = some (some (.ref fAl)))
    (lAl : K.lookup fAl = some ⟨ocAl, odAl, .func (PySem.W.fnOf "_after_tilt" "_after_tilt" (defArgs sAfterTilt) (defBody sAfterTilt) (defScope sAfterTilt) .none kVAl dcAl pmAl anAl cdAl ctAl), slAl⟩)
    (cAl : PySem.W.codeIn K cdAl "_after_tilt" = true)
    (kAl : PySem.W.keepIn K (.ref fAl) = true)
    (aIo : PySem.W.nsIn K mainGlobals "_is_operation" = some (some (.ref fIo)))
    (lIo : K.lookup fIo = some ⟨ocIo, odIo, .func (PySem.W.fnOf "_is_operation" "_is_operation" (defArgs sIsOperation) (defBody sIsOperation) (defScope sIsOperation) .none kVIo dcIo pmIo anIo cdIo ctIo), slIo⟩)
    (cIo : PySem.W.codeIn K cdIo "_is_operation" = true)
    (kIo : PySem.W.keepIn K (.ref fIo) = true)
    (pPr : PySem.W.findIn K (.ref V) "present_tray" = some (some (.ref qPr)))
    (pgtPr : PySem.W.specialIn K (.ref qPr) "__get__" = some (some (.builtin "property.__get__")))
    (ptkPr : PySem.W.takesIn K (.ref qPr) = some true)
    (aPr : PySem.W.recIn K qPr "property" = some (.ref fPr :: rPr))
    (lPr : K.lookup fPr = some ⟨ocPr, odPr, .func (PySem.W.fnOf "present_tray" "LiveTray.present_tray" (defArgs sLiveTrayPresentTray) (defBody sLiveTrayPresentTray) (defScope sLiveTrayPresentTray) .none kVPr dcPr pmPr anPr cdPr ctPr), slPr⟩)
    (cPr : PySem.W.codeIn K cdPr "LiveTray.present_tray" = true)
    (kPr : PySem.W.keepIn K (.ref fPr) = true)
    (aEs : PySem.W.findIn K (.ref V) "_extend_state" = some (some (.ref fEs)))
    (iEs : PySem.W.isFn K (.ref fEs) = true)
    (lEs : K.lookup fEs = some ⟨ocEs, odEs, .func (PySem.W.fnOf "_extend_state" "LiveTray._extend_state" (defArgs sLiveTrayExtendState) (defBody sLiveTrayExtendState) (defScope sLiveTrayExtendState) .none kVEs dcEs pmEs anEs cdEs ctEs), slEs⟩)
    (cEs : PySem.W.codeIn K cdEs "LiveTray._extend_state" = true)
    (kEs : PySem.W.keepIn K (.ref fEs) = true)
    (aMt : PySem.W.findIn K (.ref V) "tilt" = some (some (.ref fMt)))
    (iMt : PySem.W.isFn K (.ref fMt) = true)
    (lMt : K.lookup fMt = some ⟨ocMt, odMt, .func (PySem.W.fnOf "tilt" "LiveTray.tilt" (defArgs sLiveTrayTilt) (defBody sLiveTrayTilt) (defScope sLiveTrayTilt) .none kVMt dcMt pmMt anMt cdMt ctMt), slMt⟩)
    (cMt : PySem.W.codeIn K cdMt "LiveTray.tilt" = true)
    (kMt : PySem.W.keepIn K (.ref fMt) = true)
    (aMp : PySem.W.findIn K (.ref V) "put" = some (some (.ref fMp)))
    (iMp : PySem.W.isFn K (.ref fMp) = true)
    (lMp : K.lookup fMp = some ⟨ocMp, odMp, .func (PySem.W.fnOf "put" "LiveTray.put" (defArgs sLiveTrayPut) (defBody sLiveTrayPut) (defScope sLiveTrayPut) .none kVMp dcMp pmMp anMp cdMp ctMp), slMp⟩)
    (cMp : PySem.W.codeIn K cdMp "LiveTray.put" = true)
    (kMp : PySem.W.keepIn K (.ref fMp) = true)
    (aMk : PySem.W.findIn K (.ref V) "take" = some (some (.ref fMk)))
    (iMk : PySem.W.isFn K (.ref fMk) = true)
    (lMk : K.lookup fMk = some ⟨ocMk, odMk, .func (PySem.W.fnOf "take" "LiveTray.take" (defArgs sLiveTrayTake) (defBody sLiveTrayTake) (defScope sLiveTrayTake) .none kVMk dcMk pmMk anMk cdMk ctMk), slMk⟩)
    (cMk : PySem.W.codeIn K cdMk "LiveTray.take" = true)
    (kMk : PySem.W.keepIn K (.ref fMk) = true)
    (aUn : PySem.W.findIn K (.ref V) "undo" = some (some (.ref fUn)))
    (iUn : PySem.W.isFn K (.ref fUn) = true)
    (lUn : K.lookup fUn = some ⟨ocUn, odUn, .func (PySem.W.fnOf "undo" "LiveTray.undo" (defArgs sLiveTrayUndo) (defBody sLiveTrayUndo) (defScope sLiveTrayUndo) .none kVUn dcUn pmUn anUn cdUn ctUn), slUn⟩)
    (cUn : PySem.W.codeIn K cdUn "LiveTray.undo" = true)
    (kUn : PySem.W.keepIn K (.ref fUn) = true)
    (pHi : PySem.W.findIn K (.ref V) "history" = some (some (.ref qHi)))
    (pgtHi : PySem.W.specialIn K (.ref qHi) "__get__" = some (some (.builtin "property.__get__")))
    (ptkHi : PySem.W.takesIn K (.ref qHi) = some true)
    (aHi : PySem.W.recIn K qHi "property" = some (.ref fHi :: rHi))
    (lHi : K.lookup fHi = some ⟨ocHi, odHi, .func (PySem.W.fnOf "history" "LiveTray.history" (defArgs sLiveTrayHistory) (defBody sLiveTrayHistory) (defScope sLiveTrayHistory) .none kVHi dcHi pmHi anHi cdHi ctHi), slHi⟩)
    (cHi : PySem.W.codeIn K cdHi "LiveTray.history" = true)
    (kHi : PySem.W.keepIn K (.ref fHi) = true)
    (aLv : PySem.W.findIn K (.ref V) "__init__" = some (some (.ref fLv)))
    (iLv : PySem.W.isFn K (.ref fLv) = true)
    (lLv : K.lookup fLv = some ⟨ocLv, odLv, .func (PySem.W.fnOf "__init__" "LiveTray.__init__" (defArgs sLiveTrayInit) (defBody sLiveTrayInit) (defScope sLiveTrayInit) .none kVLv dcLv pmLv anLv cdLv ctLv), slLv⟩)
    (cLv : PySem.W.codeIn K cdLv "LiveTray.__init__" = true)
    (kLv : PySem.W.keepIn K (.ref fLv) = true)
    (pRp : PySem.W.findCls K (.ref V) (.type "type") "replay" = some (.get (.builtin "classmethod.__get__") (.ref qRp) .none (.ref V)))
    (aRp : PySem.W.recIn K qRp "classmethod" = some (.ref fRp :: rRp))
    (fiRp : PySem.W.fnIn K fRp = true)
    (lRp : K.lookup fRp = some ⟨ocRp, odRp, .func (PySem.W.fnOf "replay" "LiveTray.replay" (defArgs sLiveTrayReplay) (defBody sLiveTrayReplay) (defScope sLiveTrayReplay) .none kVRp dcRp pmRp anRp cdRp ctRp), slRp⟩)
    (cRp : PySem.W.codeIn K cdRp "LiveTray.replay" = true)
    (kRp : PySem.W.keepIn K (.ref fRp) = true)
    (aLx : PySem.W.findIn K (.ref V) "__contains__" = some (some (.ref fLx)))
    (iLx : PySem.W.isFn K (.ref fLx) = true)
    (lLx : K.lookup fLx = some ⟨ocLx, odLx, .func (PySem.W.fnOf "__contains__" "LiveTray.__contains__" (defArgs sLiveTrayContains) (defBody sLiveTrayContains) (defScope sLiveTrayContains) .none kVLx dcLx pmLx anLx cdLx ctLx), slLx⟩)
    (cLx : PySem.W.codeIn K cdLx "LiveTray.__contains__" = true)
    (kLx : PySem.W.keepIn K (.ref fLx) = true)
    (aRe : PySem.W.findIn K (.ref V) "redo" = some (some (.ref fRe)))
    (iRe : PySem.W.isFn K (.ref fRe) = true)
    (lRe : K.lookup fRe = some ⟨ocRe, odRe, .func (PySem.W.fnOf "redo" "LiveTray.redo" (defArgs sLiveTrayRedo) (defBody sLiveTrayRedo) (defScope sLiveTrayRedo) .none kVRe dcRe pmRe anRe cdRe ctRe), slRe⟩)
    (cRe : PySem.W.codeIn K cdRe "LiveTray.redo" = true)
    (kRe : PySem.W.keepIn K (.ref fRe) = true)
    (aAy : PySem.W.findIn K (.ref V) "apply" = some (some (.ref fAy)))
    (iAy : PySem.W.isFn K (.ref fAy) = true)
    (lAy : K.lookup fAy = some ⟨ocAy, odAy, .func (PySem.W.fnOf "apply" "LiveTray.apply" (defArgs sLiveTrayApply) (defBody sLiveTrayApply) (defScope sLiveTrayApply) .none kVAy dcAy pmAy anAy cdAy ctAy), slAy⟩)
    (cAy : PySem.W.codeIn K cdAy "LiveTray.apply" = true)
    (kAy : PySem.W.keepIn K (.ref fAy) = true)
    (bgAy : PySem.W.specialIn K (.ref fAy) "__get__" = some (some (.builtin "function.__get__")))
    (btAy : PySem.W.takesIn K (.ref fAy) = some false)
    (bfAy : PySem.W.fnIn K fAy = true)
    (caA : PySem.W.nsIn K mainGlobals "ACTIONS" = some (some (.ref aA)))
    (laA : K.lookup aA = some ⟨.type "dict", none, .dict esaA naA, #[]⟩)
    (haA : PySem.W.KeysLit w.params esaA.toList)
    (vaAtilt : PySem.W.nsIn K aA "tilt" = some (some (.ref fAl)))
    (vaAput : PySem.W.nsIn K aA "put" = some (some (.ref fAp)))
    (vaAtake : PySem.W.nsIn K aA "take" = some (some (.ref fAk)))
    (caS : PySem.W.nsIn K mainGlobals "SIZES" = some (some (.ref aS)))
    (laS : K.lookup aS = some ⟨.type "dict", none, .dict esaS naS, #[]⟩)
    (haS : PySem.W.KeysLit w.params esaS.toList)
    (vaStilt : PySem.W.nsIn K aS "tilt" = some (some (.int iaStilt taStilt)))
    (vaSput : PySem.W.nsIn K aS "put" = some (some (.int iaSput taSput)))
    (vaStake : PySem.W.nsIn K aS "take" = some (some (.int iaStake taStake)))
    (nSys : (aS == sysModules) = false)
    (aEn : PySem.W.findIn K (.ref V) "__enter__" = some (some (.ref fEn)))
    (iEn : PySem.W.isFn K (.ref fEn) = true)
    (lEn : K.lookup fEn = some ⟨ocEn, odEn, .func (PySem.W.fnOf "__enter__" "LiveTray.__enter__" (defArgs sLiveTrayEnter) (defBody sLiveTrayEnter) (defScope sLiveTrayEnter) .none kVEn dcEn pmEn anEn cdEn ctEn), slEn⟩)
    (cEn : PySem.W.codeIn K cdEn "LiveTray.__enter__" = true)
    (kEn : PySem.W.keepIn K (.ref fEn) = true)
    (aXt : PySem.W.findIn K (.ref V) "__exit__" = some (some (.ref fXt)))
    (iXt : PySem.W.isFn K (.ref fXt) = true)
    (lXt : K.lookup fXt = some ⟨ocXt, odXt, .func (PySem.W.fnOf "__exit__" "LiveTray.__exit__" (defArgs sLiveTrayExit) (defBody sLiveTrayExit) (defScope sLiveTrayExit) .none kVXt dcXt pmXt anXt cdXt ctXt), slXt⟩)
    (cXt : PySem.W.codeIn K cdXt "LiveTray.__exit__" = true)
    (kXt : PySem.W.keepIn K (.ref fXt) = true)
    (aLn : PySem.W.findIn K (.ref V) "__len__" = some (some (.ref fLn)))
    (iLn : PySem.W.isFn K (.ref fLn) = true)
    (lLn : K.lookup fLn = some ⟨ocLn, odLn, .func (PySem.W.fnOf "__len__" "LiveTray.__len__" (defArgs sLiveTrayLen) (defBody sLiveTrayLen) (defScope sLiveTrayLen) .none kVLn dcLn pmLn anLn cdLn ctLn), slLn⟩)
    (cLn : PySem.W.codeIn K cdLn "LiveTray.__len__" = true)
    (kLn : PySem.W.keepIn K (.ref fLn) = true)
    (aTa : PySem.W.findIn K (.ref V) "tray_after" = some (some (.ref fTa)))
    (iTa : PySem.W.isFn K (.ref fTa) = true)
    (lTa : K.lookup fTa = some ⟨ocTa, odTa, .func (PySem.W.fnOf "tray_after" "LiveTray.tray_after" (defArgs sLiveTrayTrayAfter) (defBody sLiveTrayTrayAfter) (defScope sLiveTrayTrayAfter) .none kVTa dcTa pmTa anTa cdTa ctTa), slTa⟩)
    (cTa : PySem.W.codeIn K cdTa "LiveTray.tray_after" = true)
    (kTa : PySem.W.keepIn K (.ref fTa) = true)
    (aTk : PySem.W.nsIn K mainGlobals "_law_taken" = some (some (.ref fTk)))
    (lTk : K.lookup fTk = some ⟨ocTk, odTk, .func (PySem.W.fnOf "_law_taken" "_law_taken" (defArgs sLawTaken) (defBody sLawTaken) (defScope sLawTaken) .none kVTk dcTk pmTk anTk cdTk ctTk), slTk⟩)
    (cTk : PySem.W.codeIn K cdTk "_law_taken" = true)
    (kTk : PySem.W.keepIn K (.ref fTk) = true)
    (aRw : PySem.W.nsIn K mainGlobals "_law_rows" = some (some (.ref fRw)))
    (lRw : K.lookup fRw = some ⟨ocRw, odRw, .func (PySem.W.fnOf "_law_rows" "_law_rows" (defArgs sLawRows) (defBody sLawRows) (defScope sLawRows) .none kVRw dcRw pmRw anRw cdRw ctRw), slRw⟩)
    (cRw : PySem.W.codeIn K cdRw "_law_rows" = true)
    (kRw : PySem.W.keepIn K (.ref fRw) = true)
    (aTy : PySem.W.nsIn K mainGlobals "_law_tray" = some (some (.ref fTy)))
    (lTy : K.lookup fTy = some ⟨ocTy, odTy, .func (PySem.W.fnOf "_law_tray" "_law_tray" (defArgs sLawTray) (defBody sLawTray) (defScope sLawTray) .none kVTy dcTy pmTy anTy cdTy ctTy), slTy⟩)
    (cTy : PySem.W.codeIn K cdTy "_law_tray" = true)
    (kTy : PySem.W.keepIn K (.ref fTy) = true)
    (aFr : PySem.W.nsIn K mainGlobals "_law_free" = some (some (.ref fFr)))
    (lFr : K.lookup fFr = some ⟨ocFr, odFr, .func (PySem.W.fnOf "_law_free" "_law_free" (defArgs sLawFree) (defBody sLawFree) (defScope sLawFree) .none kVFr dcFr pmFr anFr cdFr ctFr), slFr⟩)
    (cFr : PySem.W.codeIn K cdFr "_law_free" = true)
    (kFr : PySem.W.keepIn K (.ref fFr) = true)
    (aDe : PySem.W.nsIn K mainGlobals "_law_deed" = some (some (.ref fDe)))
    (lDe : K.lookup fDe = some ⟨ocDe, odDe, .func (PySem.W.fnOf "_law_deed" "_law_deed" (defArgs sLawDeed) (defBody sLawDeed) (defScope sLawDeed) .none kVDe dcDe pmDe anDe cdDe ctDe), slDe⟩)
    (cDe : PySem.W.codeIn K cdDe "_law_deed" = true)
    (kDe : PySem.W.keepIn K (.ref fDe) = true)
    (aDn : PySem.W.nsIn K mainGlobals "_law_is_done" = some (some (.ref fDn)))
    (lDn : K.lookup fDn = some ⟨ocDn, odDn, .func (PySem.W.fnOf "_law_is_done" "_law_is_done" (defArgs sLawIsDone) (defBody sLawIsDone) (defScope sLawIsDone) .none kVDn dcDn pmDn anDn cdDn ctDn), slDn⟩)
    (cDn : PySem.W.codeIn K cdDn "_law_is_done" = true)
    (kDn : PySem.W.keepIn K (.ref fDn) = true)
    (aLw : PySem.W.nsIn K mainGlobals "law" = some (some (.ref fLw)))
    (lLw : K.lookup fLw = some ⟨ocLw, odLw, .func (PySem.W.fnOf "law" "law" (defArgs sLaw) (defBody sLaw) (defScope sLaw) .none kVLw dcLw pmLw anLw cdLw ctLw), slLw⟩)
    (cLw : PySem.W.codeIn K cdLw "law" = true)
    (kLw : PySem.W.keepIn K (.ref fLw) = true)
    (ge2 : PySem.W.nsIn K mainGlobals "UnknownMarble" = some (some (.ref e2)))
    (xL2 : K.lookup e2 = some (excClassObj nm2 q2 e2 N2 bs2 bm2 true sn2 sub2 ab2 col2 dd2 m02 m12 m22 m32 m52 "ValueError.__new__"))
    (xb2 : PySem.HandSPX.refsVE bm2 = true)
    (xsa2 : PySem.W.findIn K (.ref e2) "__setattr__" = some (some (.builtin "object.__setattr__")))
    (xex2 : PySem.W.subIn K (.ref e2) (.type "BaseException") = some true)
    (xty2 : PySem.W.typeIn K (.ref e2) = some (.type "type"))
    (xk2 : PySem.W.keepIn K (.ref e2) = true)
    (aIx2 : PySem.W.findIn K (.ref e2) "__init__" = some (some (.ref fIx2)))
    (tIx2 : PySem.W.typeIn K (.ref fIx2) = some (.type "function"))
    (lIx2 : K.lookup fIx2 = some ⟨ocIx2, odIx2, .func (PySem.W.fnX "__init__" "UnknownMarble.__init__" (defArgs sUnknownMarbleInit) (defBody sUnknownMarbleInit) (defScope sUnknownMarbleInit) [("__class__", cc2)] .none kVIx2 dcIx2 pmIx2 anIx2 (.ref cdIx2) ctIx2), slIx2⟩)
    (cIx2 : PySem.W.codeIn K (.ref cdIx2) "UnknownMarble.__init__" = true)
    (kx12 : K.lookup cdIx2 = some ⟨ccl2, cdd2, .fields vsx2, ccs2⟩)
    (kx22 : vsx2[2]? = some (.str fileX2 tfX2))
    (kx32 : ((P.main.file : Str) == fileX2) = true)
    (kx42 : K.lookup cc2 = some ⟨cl02, cld02, .cell (some (.ref e2)), csl02⟩)
    (kx52 : PySem.W.mroIn K e2 (.ref e2) = some true)
    (kx62 : PySem.W.ks_superIn K e2 e2 "__init__" = some (some (.builtin "ValueError.__init__")))
    (kx72 : PySem.W.subIn K (.ref e2) (.type "ValueError") = some true)
    (nI3 : PySem.W.findIn K (.ref e2) "marble" = some none)
    (kx8 : PySem.W.nsIn K cStatics "thirdparty.any" = some none)
    (kx9 : (P.main.scope.names.lookup ("super" : Str)).isSome = false)
    (ge3 : PySem.W.nsIn K mainGlobals "InvalidPlace" = some (some (.ref e3)))
    (q3 : PySem.W.excIn K e3 [.type "ValueError", .type "Exception", .type "BaseException", .type "object"] "ValueError.__new__" = true)
    (k3 : PySem.W.keepIn K (.ref e3) = true)
    (t3 : PySem.W.typeIn K (.ref e3) = some (.type "type"))
    (hs_3 : PySem.W.subIn K (.ref e3) (.type "BaseException") = some true)
    (eAR : zAR = S [108, 114])
    (eAC : zAC = S [117, 100])
    (eEM : zEM = S [46])
    (eLE : zLE = S letters)
    (eMS : iMS = 8)
    (eMX : iMX = 60)
    (eaStilt : iaStilt = 2)
    (eaSput : iaSput = 3)
    (eaStake : iaStake = 2)
    (hDC : D ≠ C)
    (h0 : t0 ≠ 0)
    : ∀ base : Heap, K.In base → base.Ns mainGlobals mg → FnRn (t0 + 1) P w K mg base CX0 10 fa (spLaw K) := by
  intro base _ _
  subst eAR eAC eEM eLE eMS eMX eaStilt eaSput eaStake
  have g : ∀ {n : Str} {v : Value}, PySem.W.nsIn K mainGlobals n = some (some v) → mg n = some v := fun e => PySem.W.mg_of X G e
  have g0 : ∀ {n : Str}, PySem.W.nsIn K mainGlobals n = some none → mg n = none := fun e => PySem.W.mg_none_of X G e
  obtain rfl : fLw = fa := by
    have e := hfa.symm.trans (g aLw)
    cases e
    rfl
  have raw0 : ∀ {CX : CXT} {k : Nat} {f : Addr} {fd : FuncData} {ps : List Str} {sp : Sp}, FnOk P w K mg base CX k f fd ps sp → Binds K fd ps [] → FnR P w K mg base CX k f sp := fun F b => (F.raw b .nil).imp fun vs H Q E h => by rw [List.append_nil]; exact h
  have T : TxtW K mg := ⟨g0 b_len, g0 b_isinstance, g0 b_str, g0 b_enumerate, ⟨_, g cAR, _, rfl⟩, ⟨_, g cAC, _, rfl⟩⟩
  have U : TxtT K mg t0 := ⟨g cEM, ⟨_, g cLE, _, rfl⟩, ⟨_, g cMS, _, rfl⟩, g0 b_set, g0 b_zip, g0 b_tuple⟩
  have L : TxtL K mg := ⟨g0 b_int, g0 b_range, g0 b_min⟩
  have clC : Cls K C := ⟨pgC, hdC, poC, saC⟩
  have clD : Cls K D := ⟨pgD, hdD, poD, saD⟩
  have CW : ClsW K mg C := ⟨clC, nT, g aC, .type "type", _, ⟨rdC, gaC⟩, mx, _, rfl⟩
  have CT : ClsT K mg D := ⟨clD, nR, g aD⟩
  have IC : C8.InsC K C := ⟨clC, ih, in_, itk, im, if_pos (by simp)⟩
  have ID : C8.InsC K D := ⟨clD, ihD, in_, itk, imD, if_pos (by simp)⟩
  have FIt := fun_mk (st := sIsTilt) lIt cIt kIt
  have BIt := FIt.binds (ps := ["value"]) fun _ _ _ _ _ _ us hl => match us, hl with | [_], _ => rfl
  have FFw := fun_mk (st := sFirstWrongIndex) lFw cFw kFw
  have BFw := FFw.binds (ps := ["text"]) fun _ _ _ _ _ _ us hl => match us, hl with | [_], _ => rfl
  have FWi := fun_mk (st := sWordInit) lWi cWi kWi
  have BWi := FWi.binds (ps := ["self", "text"]) fun _ _ _ _ _ _ us hl => match us, hl with | [_, _], _ => rfl
  have FWt := fun_mk (st := sWordText) lWt cWt kWt
  have BWt := FWt.binds (ps := ["self"]) fun _ _ _ _ _ _ us hl => match us, hl with | [_], _ => rfl
  have FTo := fun_mk (st := sTrayOfText) lTo cTo kTo
  have BTo := FTo.binds (ps := ["cls", "text"]) fun _ _ _ _ _ _ us hl => match us, hl with | [_, _], _ => rfl
  have FRs := fun_mk (st := sTrayRshift) lRs cRs kRs
  have BRs := FRs.binds (ps := ["self", "other"]) fun _ _ _ _ _ _ us hl => match us, hl with | [_, _], _ => rfl
  have FFc := fun_mk (st := sFirstWrongCell) lFc cFc kFc
  have BFc := FFc.binds (ps := ["rows"]) fun _ _ _ _ _ _ us hl => match us, hl with | [_], _ => rfl
  have FIr := fun_mk (st := sIsRow) lIr cIr kIr
  have BIr := FIr.binds (ps := ["row"]) fun _ _ _ _ _ _ us hl => match us, hl with | [_], _ => rfl
  have FTd := fun_mk (st := sTilted) lTd cTd kTd
  have BTd := FTd.binds (ps := ["rows", "tilt"]) fun _ _ _ _ _ _ us hl => match us, hl with | [_, _], _ => rfl
  have FSl := fun_mk (st := sSlid) lSl cSl kSl
  have BSl := FSl.binds (ps := ["line", "to_beginning"]) fun _ _ _ _ _ _ us hl => match us, hl with | [_, _], _ => rfl
  have FTr := fun_mk (st := sTrayRows) lTr cTr kTr
  have BTr := FTr.binds (ps := ["self"]) fun _ _ _ _ _ _ us hl => match us, hl with | [_], _ => rfl
  have FTe := fun_mk (st := sTrayEq) lTe cTe kTe
  have BTe := FTe.binds (ps := ["self", "other"]) fun _ _ _ _ _ _ us hl => match us, hl with | [_, _], _ => rfl
  have FMb := fun_mk (st := sTrayMarbles) lMb cMb kMb
  have BMb := FMb.binds (ps := ["self"]) fun _ _ _ _ _ _ us hl => match us, hl with | [_], _ => rfl
  have FWd := fun_mk (st := sTrayWidth) lWd cWd kWd
  have BWd := FWd.binds (ps := ["self"]) fun _ _ _ _ _ _ us hl => match us, hl with | [_], _ => rfl
  have FHt := fun_mk (st := sTrayHeight) lHt cHt kHt
  have BHt := FHt.binds (ps := ["self"]) fun _ _ _ _ _ _ us hl => match us, hl with | [_], _ => rfl
  have FTc := fun_mk (st := sTrayContains) lTc cTc kTc
  have BTc := FTc.binds (ps := ["self", "x"]) fun _ _ _ _ _ _ us hl => match us, hl with | [_, _], _ => rfl
  have FCl := fun_mk (st := sTrayCall) lCl cCl kCl
  have BCl := FCl.binds (ps := ["self", "marble"]) fun _ _ _ _ _ _ us hl => match us, hl with | [_, _], _ => rfl
  have FNu := fun_mk (st := sIsNumber) lNu cNu kNu
  have BNu := FNu.binds (ps := ["value", "limit"]) fun _ _ _ _ _ _ us hl => match us, hl with | [_, _], _ => rfl
  have FPl := fun_mk (st := sIsPlace) lPl cPl kPl
  have BPl := FPl.binds (ps := ["value", "height", "width"]) fun _ _ _ _ _ _ us hl => match us, hl with | [_, _, _], _ => rfl
  have FCv := fun_mk (st := sCheckPlace) lCv cCv kCv
  have BCv := FCv.binds (ps := ["tray", "place"]) fun _ _ _ _ _ _ us hl => match us, hl with | [_, _], _ => rfl
  have FAt := fun_mk (st := sTrayAt) lAt cAt kAt
  have BAt := FAt.binds (ps := ["self", "place"]) fun _ _ _ _ _ _ us hl => match us, hl with | [_, _], _ => rfl
  have FIl := fun_mk (st := sIsLetter) lIl cIl kIl
  have BIl := FIl.binds (ps := ["value"]) fun _ _ _ _ _ _ us hl => match us, hl with | [_], _ => rfl
  have FWc := fun_mk (st := sWithCell) lWc cWc kWc
  have BWc := FWc.binds (ps := ["tray", "place", "cell"]) fun _ _ _ _ _ _ us hl => match us, hl with | [_, _, _], _ => rfl
  have FAk := fun_mk (st := sAfterTake) lAk cAk kAk
  have BAk := FAk.binds (ps := ["tray", "marble"]) fun _ _ _ _ _ _ us hl => match us, hl with | [_, _], _ => rfl
  have FAp := fun_mk (st := sAfterPut) lAp cAp kAp
  have BAp := FAp.binds (ps := ["tray", "marble", "place"]) fun _ _ _ _ _ _ us hl => match us, hl with | [_, _, _], _ => rfl
  have FAl := fun_mk (st := sAfterTilt) lAl cAl kAl
  have BAl := FAl.binds (ps := ["tray", "tilt"]) fun _ _ _ _ _ _ us hl => match us, hl with | [_, _], _ => rfl
  have FIo := fun_mk (st := sIsOperation) lIo cIo kIo
  have BIo := FIo.binds (ps := ["value"]) fun _ _ _ _ _ _ us hl => match us, hl with | [_], _ => rfl
  have FPr := fun_mk (st := sLiveTrayPresentTray) lPr cPr kPr
  have BPr := FPr.binds (ps := ["self"]) fun _ _ _ _ _ _ us hl => match us, hl with | [_], _ => rfl
  have FEs := fun_mk (st := sLiveTrayExtendState) lEs cEs kEs
  have BEs := FEs.binds (ps := ["self", "operations", "later_trays"]) fun _ _ _ _ _ _ us hl => match us, hl with | [_, _, _], _ => rfl
  have FMt := fun_mk (st := sLiveTrayTilt) lMt cMt kMt
  have BMt := FMt.binds (ps := ["self", "tilt"]) fun _ _ _ _ _ _ us hl => match us, hl with | [_, _], _ => rfl
  have FMp := fun_mk (st := sLiveTrayPut) lMp cMp kMp
  have BMp := FMp.binds (ps := ["self", "marble", "place"]) fun _ _ _ _ _ _ us hl => match us, hl with | [_, _, _], _ => rfl
  have FMk := fun_mk (st := sLiveTrayTake) lMk cMk kMk
  have BMk := FMk.binds (ps := ["self", "marble"]) fun _ _ _ _ _ _ us hl => match us, hl with | [_, _], _ => rfl
  have FUn := fun_mk (st := sLiveTrayUndo) lUn cUn kUn
  have BUn := FUn.binds (ps := ["self"]) fun _ _ _ _ _ _ us hl => match us, hl with | [_], _ => rfl
  have FHi := fun_mk (st := sLiveTrayHistory) lHi cHi kHi
  have BHi := FHi.binds (ps := ["self"]) fun _ _ _ _ _ _ us hl => match us, hl with | [_], _ => rfl
  have FLv := fun_mk (st := sLiveTrayInit) lLv cLv kLv
  have BLv := FLv.binds (ps := ["self", "tray"]) fun _ _ _ _ _ _ us hl => match us, hl with | [_, _], _ => rfl
  have FRp := fun_mk (st := sLiveTrayReplay) lRp cRp kRp
  have BRp := FRp.binds (ps := ["cls", "tray", "operations"]) fun _ _ _ _ _ _ us hl => match us, hl with | [_, _, _], _ => rfl
  have FLx := fun_mk (st := sLiveTrayContains) lLx cLx kLx
  have BLx := FLx.binds (ps := ["self", "x"]) fun _ _ _ _ _ _ us hl => match us, hl with | [_, _], _ => rfl
  have FRe := fun_mk (st := sLiveTrayRedo) lRe cRe kRe
  have BRe := FRe.binds (ps := ["self"]) fun _ _ _ _ _ _ us hl => match us, hl with | [_], _ => rfl
  have FEn := fun_mk (st := sLiveTrayEnter) lEn cEn kEn
  have BEn := FEn.binds (ps := ["self"]) fun _ _ _ _ _ _ us hl => match us, hl with | [_], _ => rfl
  have FXt := fun_mk (st := sLiveTrayExit) lXt cXt kXt
  have BXt := FXt.binds (ps := ["self", "kind", "value", "trace"]) fun _ _ _ _ _ _ us hl => match us, hl with | [_, _, _, _], _ => rfl
  have FLn := fun_mk (st := sLiveTrayLen) lLn cLn kLn
  have BLn := FLn.binds (ps := ["self"]) fun _ _ _ _ _ _ us hl => match us, hl with | [_], _ => rfl
  have FTk := fun_mk (st := sLawTaken) lTk cTk kTk
  have BTk := FTk.binds (ps := ["_law_row", "_law_many"]) fun _ _ _ _ _ _ us hl => match us, hl with | [_, _], _ => rfl
  have FRw := fun_mk (st := sLawRows) lRw cRw kRw
  have BRw := FRw.binds (ps := ["_law_row", "_law_most"]) fun _ _ _ _ _ _ us hl => match us, hl with | [_, _], _ => rfl
  have FTy := fun_mk (st := sLawTray) lTy cTy kTy
  have BTy := FTy.binds (ps := ["_law_rows_here"]) fun _ _ _ _ _ _ us hl => match us, hl with | [_], _ => rfl
  have FFr := fun_mk (st := sLawFree) lFr cFr kFr
  have BFr := FFr.binds (ps := ["_law_tray_here"]) fun _ _ _ _ _ _ us hl => match us, hl with | [_], _ => rfl
  have FDe := fun_mk (st := sLawDeed) lDe cDe kDe
  have BDe := FDe.binds (ps := ["_law_row", "_law_tray_here"]) fun _ _ _ _ _ _ us hl => match us, hl with | [_, _], _ => rfl
  have FDn := fun_mk (st := sLawIsDone) lDn cDn kDn
  have BDn := FDn.binds (ps := ["_law_live", "_law_deed_here"]) fun _ _ _ _ _ _ us hl => match us, hl with | [_, _], _ => rfl
  have FLw := fun_mk (st := sLaw) lLw cLw kLw
  have BLw := FLw.binds (ps := ["_law_script"]) fun _ _ _ _ _ _ us hl => match us, hl with | [_], _ => rfl
  have FTi := fun_mk (st := sTrayInit) lTi cTi kTi
  have FAy := fun_mk (st := sLiveTrayApply) lAy cAy kAy
  have FTa := fun_mk (st := sLiveTrayTrayAfter) lTa cTa kTa
  have ox2 : OexC K e2 := ⟨⟨nm2, q2, N2, bs2, bm2, sn2, sub2, ab2, col2, dd2, m02, m12, m22, m32, m52, xL2, xb2⟩, xsa2, xex2, xty2, xk2⟩
  have XT2 : ExcT K mg "UnknownMarble" e2 fIx2 := ⟨ox2, g ge2, aIx2, tIx2⟩
  have GIx2 := ok_um (P := P) (w := w) (base := base) (mg := mg) (CX := CX0) lIx2 cIx2 ⟨⟨_, _, _, lIx2⟩, rfl, ⟨_, _, _, _, _, _, kx12, kx22, kx32⟩, ⟨_, _, _, kx42⟩, kx52, kx62, kx72, kx8, kx9⟩ rfl ox2 (g0 b_super) nI3
  have BIx2 : Binds K (PySem.W.fnX "__init__" "UnknownMarble.__init__" (defArgs sUnknownMarbleInit) (defBody sUnknownMarbleInit) (defScope sUnknownMarbleInit) [("__class__", cc2)] .none kVIx2 dcIx2 pmIx2 anIx2 (.ref cdIx2) ctIx2) ["self", "marble"] [] := Binds.all fun us hl => match us, hl with | [_, _], _ => rfl
  have GIt : FnOk P w K mg base CX0 1 fIt _ ["value"] spIt := ok_it FIt T
  have GFw : FnOk P w K mg base CX0 2 fFw _ ["text"] spFwi := ok_fwi FFw T CW FIt BIt (g aIt)
  have GWi : FnOk P w K mg base CX0 3 fWi _ ["self", "text"] (spWi C) := ok_wi FWi CW GFw kFw BFw (g aFw)
  have MC : Mk K C fWi := ⟨mkC, aWi, iWi, kcC⟩
  have scWt : FnScope ["self"] ["self"] (defScope sWordText) := ⟨rfl, rfl, rfl, by decide +kernel, rfl, by decide +kernel, by decide +kernel⟩
  have GWg : FnOk P w K mg base CX0 1 fWt _ ["self"] (getSp C "_text") := fn_getter (k := 0) lWt cWt scWt rfl rfl clC nT
  have PWt : PropOf K C "text" qWt fWt := ⟨pWt, pgtWt, ptkWt, _, aWt⟩
  have GFc : FnOk P w K mg base CX0 2 fFc _ ["rows"] (spFc K) := ok_fc FFc T U FIr BIr (g aIr)
  have GTi := ok_ti (P := P) (w := w) (base := base) FTi CT GFc kFc BFc (g aFc)
  have MD : Mk K D fTi := ⟨mkD, aTi, iTi, kcD⟩
  have GTo : FnOk P w K mg base CX0 5 fTo _ ["cls", "text"] (spOt K D) := ok_ot FTo T MD GTi
  have GSl : FnRn (t0 + 1) P w K mg base CX0 1 fSl spSl := ok_sl FSl T U BSl h0 (Nat.lt_succ_self _)
  have GTd : FnRn (t0 + 1) P w K mg base CX0 2 fTd (spTd K) := ok_td FTd T U BTd GSl kSl (g aSl)
  have eR1 : PySem.dunder Operator.RShift.info.2 = ("__rshift__" : Str) := by decide +kernel
  have eR2 : PySem.dunderR Operator.RShift.info.2 = ("__rrshift__" : Str) := by decide +kernel
  have NO : NoOp K C Operator.RShift.info.2 := ⟨⟨_, nc, nm⟩, by rw [eR1]; exact n1, by rw [eR2]; exact n2, by rw [eR1]; exact n3, by rw [eR2]; exact n4⟩
  have hs : PySem.W.findIn K (.ref D) (PySem.dunder Operator.RShift.info.2) = some (some (.ref fRs)) := by rw [eR1]; exact aRs
  have GRs : FnRn (t0 + 1) P w K mg base CX0 5 fRs (spRs K C D) := ok_rs FRs T CW CT IC BRs PWt GWg BWt GTd kTd (g aTd) MD GTi
  have scTr : FnScope ["self"] ["self"] (defScope sTrayRows) := ⟨rfl, rfl, rfl, by decide +kernel, rfl, by decide +kernel, by decide +kernel⟩
  have GTr : FnOk P w K mg base CX0 1 fTr _ ["self"] (getSp D "_rows") := fn_getter (k := 0) lTr cTr scTr rfl rfl clD nR
  have PTr : PropOf K D "rows" qTr fTr := ⟨pTr, pgtTr, ptkTr, _, aTr⟩
  have GTe : FnOk P w K mg base CX0 1 fTe _ ["self", "other"] (TW.spTe K D) := TW.ok_te FTe T CT ID
  have GTf := raw0 GTe BTe
  have TM_ : TxtM K mg := ⟨⟨_, g cEM, _, rfl⟩, g0 b_sorted, g0 b_len⟩
  have PMb : PropOf K D "marbles" qMb fMb := ⟨pMb, pgtMb, ptkMb, _, aMb⟩
  have PHt : PropOf K D "height" qHt fHt := ⟨pHt, pgtHt, ptkHt, _, aHt⟩
  have PWd : PropOf K D "width" qWd fWd := ⟨pWd, pgtWd, ptkWd, _, aWd⟩
  have GMb : FnOk P w K mg base CX0 1 fMb _ ["self"] (spMb K D) := ok_mb FMb TM_ CT
  have GHt : FnOk P w K mg base CX0 1 fHt _ ["self"] (spHt K D) := ok_ht FHt TM_ CT
  have GWd : FnOk P w K mg base CX0 1 fWd _ ["self"] (spWd K D) := ok_wd FWd TM_ CT
  have GTc : FnOk P w K mg base CX0 3 fTc _ ["self", "x"] (spTc K D) := ok_tc FTc T CT PMb GMb BMb
  have GCl : FnOk P w K mg base (L2.CX P w) 4 fCl _ ["self", "marble"] (spCl K D e2) := ok_cl FCl CT (g0 b_divmod) aTc iTc (raw0 GTc BTc) PWd GWd BWd XT2 GIx2 BIx2
  have CO : StX.CallO K D fCl := ⟨aCl, iCl, fnCl⟩
  have GC := raw0 GCl BCl
  have N : TA.TxtN K mg := ⟨g0 b_isinstance, g0 b_bool, g0 b_int⟩
  have TP_ : TxtP K mg := ⟨g0 b_isinstance, g0 b_tuple, g0 b_len⟩
  have XN3 : TA.ExN K mg "InvalidPlace" e3 := ⟨q3, g ge3, k3, hs_3, t3⟩
  have GNu : FnOk P w K mg base CX0 1 fNu _ ["value", "limit"] (TA.spNum K) := TA.ok_num FNu N
  have GPl : FnOk P w K mg base CX0 2 fPl _ ["value", "height", "width"] (spPl K) := ok_pl FPl TP_ GNu kNu BNu (g aNu)
  have GCv : FnOk P w K mg base (L2.CX P w) 3 fCv _ ["tray", "place"] (spCp K D e3) := ok_cp FCv CT GPl kPl BPl (g aPl) PHt GHt BHt PWd GWd BWd XN3
  have GAt : FnOk P w K mg base (L2.CX P w) 4 fAt _ ["self", "place"] (spAt K D e3) := ok_at FAt TM_ CT GCv kCv BCv (g aCv)
  have GTk : ∀ a ns, FnOk P w K mg base CX0 1 fTk _ ["_law_row", "_law_many"] (spTk K a ns) := fun a ns => ok_tk FTk T L
  have GRw : ∀ a ns, FnOk P w K mg base CX0 2 fRw _ ["_law_row", "_law_most"] (spRw K a ns) := fun a ns => ok_rw FRw T L (GTk a ns) kTk BTk (g aTk)
  have GRwN : ∀ a ns, FnOk P w K mg base CX0 2 fRw _ ["_law_row", "_law_most"] (spRwN K a ns) := fun a ns => ok_rwN FRw T L (GTk a ns) kTk BTk (g aTk)
  have clV : Cls K V := ⟨pgV, hdV, poV, saV⟩
  have CL : ClsL K mg V := ⟨clV, nVs, nVb, g aV⟩
  have GIl : FnOk P w K mg base CX0 1 fIl _ ["value"] spIl := ok_il FIl T U
  have GWc : FnOk P w K mg base CX0 5 fWc _ ["tray", "place", "cell"] (spWc K D) := ok_wc FWc (g0 b_list) CT PTr GTr BTr MD GTi
  have GAk : FnOk P w K mg base CX0 6 fAk _ ["tray", "marble"] (spAk K D) := ok_ak FAk ⟨_, g cEM, _, rfl⟩ CO GC GWc kWc BWc (g aWc)
  have GAp : FnOk P w K mg base CX0 6 fAp _ ["tray", "marble", "place"] (spAp K D) := ok_ap FAp (g0 b_len) CT GIl kIl BIl (g aIl) aTc iTc (raw0 GTc BTc) ⟨aAt, iAt, kAt⟩ GAt BAt PMb GMb BMb GWc kWc BWc (g aWc)
  have GAl : FnRn (t0 + 1) P w K mg base CX0 6 fAl (spAl_ K D) := ok_al_ FAl BAl CW CT hDC sf NO hs iRs GRs GIt kIt BIt (g aIt) MC GWi BWi CO GC PMb GMb BMb
  have GIo : FnOk P w K mg base CX0 1 fIo _ ["value"] (spIo K w aS) := ok_io FIo T (g0 b_tuple) (g caS) nSys
  have PPr : PropOf K V "present_tray" qPr fPr := ⟨pPr, pgtPr, ptkPr, _, aPr⟩
  have PHi : PropOf K V "history" qHi fHi := ⟨pHi, pgtHi, ptkHi, _, aHi⟩
  have GPr : FnOk P w K mg base CX0 1 fPr _ ["self"] (spPr K V D) := ok_pr FPr CL
  have GEs : FnOk P w K mg base CX0 1 fEs _ ["self", "operations", "later_trays"] (spEs K V D) := ok_es FEs CL (g0 b_len)
  have acts := act_ok (K := K) (D := D) GAl kAl (fun A outer s H us vs Q E _ => (raw0 GAp BAp) A outer s H us vs Q E) kAp (fun A outer s H us vs Q E _ => (raw0 GAk BAk) A outer s H us vs Q E) kAk
  have AF : ApF P w K mg base (t0 + 1) V D aS := { cl := CL, enu := g0 b_enumerate, tup := g0 b_tuple, fIo := ⟨_, _, GIo, kIo, BIo, g aIo⟩, pPr := ⟨_, _, _, PPr, GPr, BPr⟩, mEs := ⟨_, _, ⟨aEs, iEs, kEs⟩, GEs, BEs⟩, act := ⟨aA, fAl, fAp, fAk, g caA, ⟨_, _, _, laA, haA, vaAtilt, rfl⟩, ⟨_, _, _, laA, haA, vaAput, rfl⟩, ⟨_, _, _, laA, haA, vaAtake, rfl⟩, acts⟩, siz := ⟨⟨_, _, _, laS, haS, vaStilt, _, rfl⟩, ⟨_, _, _, laS, haS, vaSput, _, rfl⟩, ⟨_, _, _, laS, haS, vaStake, _, rfl⟩⟩ }
  have GAy : FnRn (t0 + 1) P w K mg base CX0 7 fAy (spAy K V D) := ok_apC FAy AF (StX.bind_star1 (B := fun us => bindArgs (PySem.W.fnOf "apply" "LiveTray.apply" (defArgs sLiveTrayApply) (defBody sLiveTrayApply) (defScope sLiveTrayApply) .none kVAy dcAy pmAy anAy cdAy ctAy) ⟨us, []⟩) (p1 := "self") (pv := "operations") (fun _ => rfl) fun _ _ _ => rfl)
  have MAy : Meth K V "apply" fAy := ⟨aAy, iAy, kAy⟩
  have GMt := fun c => ok_mt (P := P) (w_ := w) (base := base) (K := K) (D := D) FMt BMt CL MAy GAy c
  have GMp := fun c i j => ok_mp (P := P) (w_ := w) (base := base) (K := K) (D := D) FMp BMp CL MAy GAy c i j
  have GMk := fun c => ok_mk (P := P) (w_ := w) (base := base) (K := K) (D := D) FMk BMk CL MAy GAy c
  have GUn : FnOk P w K mg base CX0 1 fUn _ ["self"] (spUn K V D) := ok_un FUn CL
  have GHi : FnOk P w K mg base CX0 1 fHi _ ["self"] (spHi K V D) := ok_hi FHi CL (g0 b_list)
  have MLv : Mk K V fLv := ⟨mkV, aLv, iLv, kcV⟩
  have GLv : FnOk P w K mg base CX0 1 fLv _ ["self", "tray"] (spLi K V D) := ok_li FLv CL
  have GRp : FnRn (t0 + 1) P w K mg base CX0 8 fRp (spRp K V D) := ok_rp FRp BRp T (g0 b_list) CL MLv GLv BLv ⟨MAy, bgAy, btAy, by decide +kernel, bfAy⟩ GAy
  have GLx : FnOk P w K mg base CX0 4 fLx _ ["self", "x"] (spLx K V D) := ok_lx FLx CL PPr GPr BPr aTc iTc (raw0 GTc BTc)
  have GRe : FnOk P w K mg base CX0 1 fRe _ ["self"] (spRe K V D) := ok_re FRe CL (g0 b_len)
  have GEn : FnOk P w K mg base CX0 1 fEn _ ["self"] (spEn K V) := ok_en FEn CL
  have GXt : FnOk P w K mg base CX0 1 fXt _ ["self", "kind", "value", "trace"] (spEx_ K V) := ok_ex_ FXt CL
  have GLn : FnOk P w K mg base CX0 3 fLn _ ["self"] (spLn K V D) := ok_ln FLn CL CT (g0 b_len) PPr GPr BPr PMb GMb BMb
  have GPrU : FnOk P w K mg base CX0 1 fPr _ ["self"] (spPrU K V D) := ok_prU FPr CL
  have GEsU : FnOk P w K mg base CX0 1 fEs _ ["self", "operations", "later_trays"] (spEsU K V D) := ok_esU FEs CL (g0 b_len)
  have AFU : ApFU P w K mg base (t0 + 1) V D aS := { cl := CL, enu := g0 b_enumerate, tup := g0 b_tuple, fIo := ⟨_, _, GIo, kIo, BIo, g aIo⟩, pPr := ⟨_, _, _, PPr, GPrU, BPr⟩, mEs := ⟨_, _, ⟨aEs, iEs, kEs⟩, GEsU, BEs⟩, act := AF.act, siz := AF.siz }
  have GAyU : FnRn (t0 + 1) P w K mg base CX0 7 fAy (spAyU K V D) := ok_apCU FAy AFU (StX.bind_star1 (B := fun us => bindArgs (PySem.W.fnOf "apply" "LiveTray.apply" (defArgs sLiveTrayApply) (defBody sLiveTrayApply) (defScope sLiveTrayApply) .none kVAy dcAy pmAy anAy cdAy ctAy) ⟨us, []⟩) (p1 := "self") (pv := "operations") (fun _ => rfl) fun _ _ _ => rfl)
  have GTa : FnRn (t0 + 1) P w K mg base CX0 8 fTa (spTa K V D) := ok_ta FTa (StX.bind_star1 (B := fun us => bindArgs (PySem.W.fnOf "tray_after" "LiveTray.tray_after" (defArgs sLiveTrayTrayAfter) (defBody sLiveTrayTrayAfter) (defScope sLiveTrayTrayAfter) .none kVTa dcTa pmTa anTa cdTa ctTa) ⟨us, []⟩) (p1 := "self") (pv := "operations") (fun _ => rfl) fun _ _ _ => rfl) CL aEn iEn (raw0 GEn BEn) aXt iXt (raw0 GXt BXt) ⟨MAy, bgAy, btAy, by decide +kernel, bfAy⟩ GAyU PPr GPrU BPr
  have GFr : FnOk P w K mg base CX0 5 fFr _ ["_law_tray_here"] (spFr K D) := ok_fr FFr T (g0 b_range) CT ⟨aAt, iAt, kAt⟩ GAt BAt PHt GHt BHt PWd GWd BWd
  have GDe : ∀ a ns, FnOk P w K mg base CX0 6 fDe _ ["_law_row", "_law_tray_here"] (spDe K D a ns) := fun a ns => ok_de FDe T CT a ns (GTk a ns) kTk BTk (g aTk) aTc iTc (raw0 GTc BTc) GFr kFr BFr (g aFr) PMb GMb BMb
  have GMtF : FnRn (t0 + 1) P w K mg base CX0 8 fMt (spMtF K V D) := fun A outer s H us vs Q E hn hr I r ⟨c, h⟩ => GMt c A outer s H us vs Q E hn hr I r h
  have GMpF : FnRn (t0 + 1) P w K mg base CX0 8 fMp (spPtF K V D) := fun A outer s H us vs Q E hn hr I r ⟨c, i, j, h⟩ => GMp c i j A outer s H us vs Q E hn hr I r h
  have GMkF : FnRn (t0 + 1) P w K mg base CX0 8 fMk (spTkF K V D) := fun A outer s H us vs Q E hn hr I r ⟨c, h⟩ => GMk c A outer s H us vs Q E hn hr I r h
  have GDn : FnRn (t0 + 1) P w K mg base CX0 9 fDn (spDn K V D) := ok_dn FDn BDn T CW CT CL hDC ⟨aMt, iMt, kMt⟩ GMtF ⟨aMp, iMp, kMp⟩ GMpF ⟨aMk, iMk, kMk⟩ GMkF aLx iLx (raw0 GLx BLx) aLn iLn (raw0 GLn BLn) PPr GPr BPr PMb GMb BMb ⟨aAt, iAt, kAt⟩ GAt BAt CO GC aTe iTe GTf sf NO hs iRs GRs MC GWi BWi
  have GTy : FnOk P w K mg base CX0 6 fTy _ ["_law_rows_here"] (spTry K D) := ok_try FTy CT ⟨rdD, gaD⟩ ⟨pTo, ⟨_, aTo⟩, fiTo⟩ (raw0 GTo BTo)
  have J : L20 P w K mg base (t0 + 1) V D C := { txt := T, rng := g0 b_range, dc := hDC, cw := CW, ct := CT, cl := CL, fRw := ⟨_, _, GRw, kRw, BRw, g aRw⟩, fTy := ⟨_, _, GTy, kTy, BTy, g aTy⟩, fDe := ⟨_, _, GDe, kDe, BDe, g aDe⟩, fDn := ⟨_, GDn, kDn, g aDn⟩, mkL := ⟨_, _, MLv, GLv, BLv⟩, rp := ⟨_, _, _, ⟨rdV, gaV⟩, ⟨pRp, ⟨_, aRp⟩, fiRp⟩, GRp⟩, mTa := ⟨_, ⟨aTa, iTa, kTa⟩, GTa⟩, mUn := ⟨_, _, ⟨aUn, iUn, kUn⟩, GUn, BUn⟩, mRe := ⟨_, _, ⟨aRe, iRe, kRe⟩, GRe, BRe⟩, pHi := ⟨_, _, _, PHi, GHi, BHi⟩, pPr := ⟨_, _, _, PPr, GPr, BPr⟩, eq := ⟨_, aTe, iTe, GTf⟩, sh := ⟨sf, NO, _, hs, iRs, GRs⟩, mw := ⟨_, _, MC, GWi, BWi⟩ }
  exact ok_law FLw BLw J
end TI
end
section
set_option Elab.async false
set_option maxRecDepth 100000
set_option linter.all false
namespace TK
open PySem L2 TM
open PySem.Spec PyProof.Rows TH
/-- the script as the law finds it: locked, unless it is an object of the top -/
def scr (K : PySem.W.Frag) (a : Addr) (vs : List Value) (ns : List Int) : Hp := fun b => if b = a ∧ K.lookup a = none then some (.frz { cls := .type "list", data := .seq vs.toArray } (.lst (ns.map V.int))) else none
theorem scr_at {K : PySem.W.Frag} {a b : Addr} {vs : List Value} {ns : List Int} {u : HO} (h : scr K a vs ns b = some u) : b = a ∧ K.lookup a = none ∧ u = .frz { cls := .type "list", data := .seq vs.toArray } (.lst (ns.map V.int)) := by
  unfold scr at h
  split at h
  · rename_i c
    exact ⟨c.1, c.2, (Option.some.inj h).symm⟩
  · cases h
theorem law_n {P : Program} {w : World} {K : PySem.W.Frag} {mg mb : Str → Option Value} {n k : Nat} {fa a : Addr} {sp : Sp} {s₁ : Shared} {vs : List Value} {ns : List Int}
    (KX : K.In s₁.heap) (hns : s₁.heap.Ns mainGlobals mg) (hb : s₁.heap.Ns builtinsNs mb) (hbb : ∀ x : Str, x ≠ "__name__" → mb x = bootBuiltins x) (hlim : s₁.heap.NoLimit) (hg : s₁.gens = #[]) (hn : n ≤ s₁.toks)
    (ha : s₁.heap.get? a = some { cls := .type "list", data := .seq vs.toArray }) (hi : Vals (ns.map V.int) vs) (hl : ns.length ≤ sizeLine) (hr : Room k callerA)
    (F : ∀ base : Heap, K.In base → base.Ns mainGlobals mg → FnRn n P w K mg base CX0 k fa sp)
    (hsp : ∀ H : Hp, SqL K H a (ns.map V.int) → sp [.ref a] H (fun v _ => v = .bl true) fun _ _ _ => False) :
    codeAny (model P w) callerA (.call (.ref fa) ⟨[.ref a], []⟩) (fun r s' => r = .ok (.ret (.bool true)) ∧ OldK s₁.heap s'.heap ∧ s'.os = s₁.os ∧ AllBare s'.gens) s₁ := by
  have hvl : vs.length = ns.length := by rw [← hi.length, List.length_map]
  have seen : SqL K (scr K a vs ns) a (ns.map V.int) := by
    cases hk : K.lookup a with
    | none => exact .inl (.inr ⟨_, if_pos ⟨rfl, hk⟩⟩)
    | some o =>
      have e := KX a o hk
      rw [ha] at e
      cases e
      exact .inr ⟨_, vs.toArray, _, hk, rfl, rfl, rfl, by rw [List.size_toArray, hvl]; exact hl, by simpa using hi⟩
  have fine : HOk P w (scr K a vs ns) s₁.heap := fun b u h => by
    obtain ⟨rfl, _, rfl⟩ := scr_at h
    exact ⟨ha, by rw [List.length_map]; exact hl, vs, _, hi, ha⟩
  generalize hH : scr K a vs ns = H at seen fine
  have only : ∀ {b : Addr} {u : HO}, H b = some u → b = a ∧ K.lookup a = none ∧ ∃ o xs, u = .frz o (.lst xs) := fun {b u} h => by
    rw [← hH] at h
    obtain ⟨z1, z2, z3⟩ := scr_at h
    exact ⟨z1, z2, _, _, z3⟩
  have dict : ∀ {b : Addr} {m : Str → Option Value}, s₁.heap.Ns b m → (hidT s₁.heap H).Ns b m := fun {b m} ⟨o, es, ep, e, d, q⟩ => by
    refine ⟨o, es, ep, hidT_get e ?_, d, q⟩
    cases hz : H b with
    | none => rfl
    | some u =>
      obtain ⟨rfl, _⟩ := only hz
      rw [ha] at e
      cases e
      cases d
  have inB : K.In (hidT s₁.heap H) := fun b o e => hidT_get (KX b o e) (by
    cases hz : H b with
    | none => rfl
    | some u =>
      obtain ⟨rfl, z, _⟩ := only hz
      rw [z] at e
      cases e)
  obtain ⟨mc, l1, l2⟩ := hlim
  have start : Env0 P w K mg (hidT s₁.heap H) callerA [] s₁ H := ⟨rfl, ⟨inB, dict hns, ⟨mb, dict hb, hbb⟩, mc, dict l1, l2⟩, fun b o e => of_hidT e, Nat.le_of_eq (hidT_size _ _), trivial, fun b z => absurd (show b ∈ ([] : List Addr) from z) (by simp), fine, .of_eq hg⟩
  refine codeAny_mono (F _ inB (dict hns) callerA [] s₁ H [.ref a] [.ref a] _ _ hn hr start (.cons rfl .nil) (hsp H seen)) fun r s' h => ?_
  cases r with
  | error e => exact False.elim h
  | ok fl =>
    cases fl with
    | next => exact False.elim h
    | brk => exact False.elim h
    | cont => exact False.elim h
    | ret u =>
      obtain ⟨v, H', os, bare, un, fine', rv, q⟩ := h
      obtain rfl : v = .bl true := q
      obtain rfl : u = Value.bool true := rv
      refine ⟨rfl, OldK.of_keep fun b o e => ?_, os, bare⟩
      cases hz : H b with
      | none => exact un.keep b o e hz (fun z => absurd (show b ∈ ([] : List Addr) from z) (by simp)) (by simp)
      | some u =>
        obtain ⟨_, _, ob, xs, rfl⟩ := only hz
        have e1 := (fine b _ hz).1
        have e2 := (fine' b _ (un.frzs b ob _ hz)).1
        rw [e] at e1
        cases e1
        exact e2
end TK
end
section
set_option Elab.async false
set_option maxRecDepth 100000
set_option linter.all false
namespace TK
open PySem PySem.W PySem.W.X PySem.Spec PyProof.Rows L2 TH
theorem ofPys_ints : ∀ ns : List Int, ofPys (ns.map PyData.int) = ns.map WData.int
  | [] => by simp [ofPys]
  | n :: ns => by
    rw [List.map_cons, List.map_cons, ofPys, ofPys_ints ns]
    rfl
theorem end_nk {l : OpenLaw} {w : World} {s₀ s₁ : Shared} {args : List WData} {vals : List Value} {as : List Addr} {fa : Addr} {K : PySem.W.Frag} {mg mb : Str → Option Value} {cl : Str → Option Addr} {mean : ExcName → Option Value} {tk n k : Nat} {sp : Sp}
    (hr : Room k callerA) (hsp : ∀ (a : Addr) (ns : List Int) (H : Hp), SqL K H a (ns.map V.int) → sp [.ref a] H (fun v _ => v = .bl true) fun _ _ _ => False)
    (hm : l.most = some 63) (KX : K.In s₁.heap) (hns : s₁.heap.Ns mainGlobals mg) (hb : s₁.heap.Ns builtinsNs mb) (hbb : ∀ x : Str, x ≠ "__name__" → mb x = bootBuiltins x) (hlim : s₁.heap.NoLimit) (hg : s₁.gens = #[])
    (L : Laid l.row.toRowW.records w s₀ s₁ args vals as) (ZT : s₀.toks = tk) (hn : n ≤ tk) (hpre : l.row.toRowW.claim.pre args = true) (hwl : WellAll w.params s₁.heap vals args)
    (F : ∀ base : Heap, K.In base → base.Ns mainGlobals mg → FnRn n l.row.toRowW.prog w K mg base CX0 k fa sp) :
    wpAny (model l.row.toRowW.prog w) callerA (PySem.call (.ref fa) vals) (fun v s' => GoodWG l.row.toRowW.claim cl mean args s₁ (.ok (.ret v)) s') (fun e s' => GoodWG l.row.toRowW.claim cl mean args s₁ (.error e) s') s₁ := by
  obtain ⟨a, vs, ns, rfl, rfl, hobj, hints, hlen⟩ := Att.script_of hm hpre hwl
  have L' : Laid l.row.toRowW.records w s₀ s₁ [ofPy (PyData.list (ns.map PyData.int))] [.ref a] as := by
    rw [show ofPy (PyData.list (ns.map PyData.int)) = WData.list (ns.map WData.int) by rw [ofPy, ofPys_ints]]
    exact L
  have htk := script_toks L' ZT
  refine enter_call (codeAny_mono (law_n (k := k) KX hns hb hbb hlim hg (Nat.le_trans hn htk) hobj (vals_ints hints) (Nat.le_trans hlen (by decide)) hr F fun H hS => hsp a ns H hS) fun r s' hq => ?_)
  obtain ⟨rfl, h2, h3, h4⟩ := hq
  exact ⟨.inl ⟨.bool true, .bool true, [], rfl, fun _ => rfl, .bool true, Att.post_true l _, fun _ => ⟨List.Pairwise.nil, fun _ hm => (nomatch hm)⟩⟩, h2, h3, h4⟩
end TK
end
set_option Elab.async false
open PySem PySem.W PySem.W.X PySem.W.ZRun PyProof.Rows
set_option maxRecDepth 100000 in
set_option maxHeartbeats 0 in
theorem PySem.Challenge.cw_tiltheap_k20_whole_blocks_and_replays_holds : PySem.Challenge.rw_tiltheap_k20_whole_blocks_and_replays.Holds := by
  w_on; o_law; z_head; (case hw => w_witness2)
  k_fill
  intro w s₀ s₁ mg mb G y fa o pm cd doc dV kV ho hd hcd hD hmg hg args vals as L hpre hlay hrd hwl hlo
  z_open y L KX ZH ZN ZT
  have hmg' : mg (PySem.Str.ofString "law") = some (Value.ref fa) := hmg
  clear y ZH ZN hlay hrd hlo hd hcd hD ho hmg
  refine' TK.end_nk (k := 10) (l := PySem.Challenge.rw_tiltheap_k20_whole_blocks_and_replays) ⟨rfl, by decide, by decide⟩ (fun a ns H hS => ⟨a, ns, rfl, hS, fun _ => rfl⟩) rfl KX G.T.g G.T.b G.T.builtins G.T.nolimit hg L ZT ?hn hpre hwl (TI.all_mk KX G.T.g hmg' ?aC ?pgC ?hdC ?poC ?saC ?mkC ?kcC ?rdC ?gaC ?aD ?pgD ?hdD ?poD ?saD ?mkD ?kcD ?rdD ?gaD ?cAR ?cAC ?cEM ?cLE ?cMS ?nT ?nR ?ih ?in_ ?itk ?im ?ihD ?imD ?mx ?b_len ?b_isinstance ?b_str ?b_enumerate ?b_set ?b_zip ?b_tuple ?b_int ?b_range ?b_min ?b_list ?b_bool ?b_sorted ?b_divmod ?b_super ?aIt ?lIt ?cIt ?kIt ?aFw ?lFw ?cFw ?kFw ?aWi ?iWi ?lWi ?cWi ?kWi ?pWt ?pgtWt ?ptkWt ?aWt ?lWt ?cWt ?kWt ?aTi ?iTi ?lTi ?cTi ?kTi ?pTo ?aTo ?fiTo ?lTo ?cTo ?kTo ?aRs ?iRs ?lRs ?cRs ?kRs ?aFc ?lFc ?cFc ?kFc ?aIr ?lIr ?cIr ?kIr ?aTd ?lTd ?cTd ?kTd ?aSl ?lSl ?cSl ?kSl ?pTr ?pgtTr ?ptkTr ?aTr ?lTr ?cTr ?kTr ?aTe ?iTe ?lTe ?cTe ?kTe ?pMb ?pgtMb ?ptkMb ?aMb ?lMb ?cMb ?kMb ?pWd ?pgtWd ?ptkWd ?aWd ?lWd ?cWd ?kWd ?pHt ?pgtHt ?ptkHt ?aHt ?lHt ?cHt ?kHt ?aTc ?iTc ?lTc ?cTc ?kTc ?aCl ?iCl ?lCl ?cCl ?kCl ?fnCl ?aNu ?lNu ?cNu ?kNu ?aPl ?lPl ?cPl ?kPl ?aCv ?lCv ?cCv ?kCv ?aAt ?iAt ?lAt ?cAt ?kAt ?sf ?nc ?nm ?n1 ?n2 ?n3 ?n4 ?aV ?pgV ?hdV ?poV ?saV ?mkV ?kcV ?rdV ?gaV ?nVs ?nVb ?aIl ?lIl ?cIl ?kIl ?aWc ?lWc ?cWc ?kWc ?aAk ?lAk ?cAk ?kAk ?aAp ?lAp ?cAp ?kAp ?aAl ?lAl ?cAl ?kAl ?aIo ?lIo ?cIo ?kIo ?pPr ?pgtPr ?ptkPr ?aPr ?lPr ?cPr ?kPr ?aEs ?iEs ?lEs ?cEs ?kEs ?aMt ?iMt ?lMt ?cMt ?kMt ?aMp ?iMp ?lMp ?cMp ?kMp ?aMk ?iMk ?lMk ?cMk ?kMk ?aUn ?iUn ?lUn ?cUn ?kUn ?pHi ?pgtHi ?ptkHi ?aHi ?lHi ?cHi ?kHi ?aLv ?iLv ?lLv ?cLv ?kLv ?pRp ?aRp ?fiRp ?lRp ?cRp ?kRp ?aLx ?iLx ?lLx ?cLx ?kLx ?aRe ?iRe ?lRe ?cRe ?kRe ?aAy ?iAy ?lAy ?cAy ?kAy ?bgAy ?btAy ?bfAy ?caA ?laA ?haA ?vaAtilt ?vaAput ?vaAtake ?caS ?laS ?haS ?vaStilt ?vaSput ?vaStake ?nSys ?aEn ?iEn ?lEn ?cEn ?kEn ?aXt ?iXt ?lXt ?cXt ?kXt ?aLn ?iLn ?lLn ?cLn ?kLn ?aTa ?iTa ?lTa ?cTa ?kTa ?aTk ?lTk ?cTk ?kTk ?aRw ?lRw ?cRw ?kRw ?aTy ?lTy ?cTy ?kTy ?aFr ?lFr ?cFr ?kFr ?aDe ?lDe ?cDe ?kDe ?aDn ?lDn ?cDn ?kDn ?aLw ?lLw ?cLw ?kLw ?ge2 ?xL2 ?xb2 ?xsa2 ?xex2 ?xty2 ?xk2 ?aIx2 ?tIx2 ?lIx2 ?cIx2 ?kx12 ?kx22 ?kx32 ?kx42 ?kx52 ?kx62 ?kx72 ?nI3 ?kx8 ?kx9 ?ge3 ?q3 ?k3 ?t3 ?hs_3 ?eAR ?eAC ?eEM ?eLE ?eMS ?eMX ?eaStilt ?eaSput ?eaStake ?hDC ?h0)
  (case aC => k_is)
  (case pgC => k_is)
  (case hdC => k_is)
  (case poC => k_is)
  (case saC => k_is)
  (case mkC => k_is)
  (case kcC => k_is)
  (case rdC => k_is)
  (case gaC => k_is)
  (case aD => k_is)
  (case pgD => k_is)
  (case hdD => k_is)
  (case poD => k_is)
  (case saD => k_is)
  (case mkD => k_is)
  (case kcD => k_is)
  (case rdD => k_is)
  (case gaD => k_is)
  (case cAR => k_is)
  (case cAC => k_is)
  (case cEM => k_is)
  (case cLE => k_is)
  (case cMS => k_is)
  (case nT => k_is)
  (case nR => k_is)
  (case ih => k_is)
  (case in_ => k_is)
  (case itk => k_is)
  (case im => k_is)
  (case ihD => k_is)
  (case imD => k_is)
  (case mx => k_is)
  (case b_len => k_is)
  (case b_isinstance => k_is)
  (case b_str => k_is)
  (case b_enumerate => k_is)
  (case b_set => k_is)
  (case b_zip => k_is)
  (case b_tuple => k_is)
  (case b_int => k_is)
  (case b_range => k_is)
  (case b_min => k_is)
  (case b_list => k_is)
  (case b_bool => k_is)
  (case b_sorted => k_is)
  (case b_divmod => k_is)
  (case b_super => k_is)
  (case aIt => k_is)
  (case lIt => k_is)
  (case cIt => k_is)
  (case kIt => k_is)
  (case aFw => k_is)
  (case lFw => k_is)
  (case cFw => k_is)
  (case kFw => k_is)
  (case aWi => k_is)
  (case iWi => k_is)
  (case lWi => k_is)
  (case cWi => k_is)
  (case kWi => k_is)
  (case pWt => k_is)
  (case pgtWt => k_is)
  (case ptkWt => k_is)
  (case aWt => k_is)
  (case lWt => k_is)
  (case cWt => k_is)
  (case kWt => k_is)
  (case aTi => k_is)
  (case iTi => k_is)
  (case lTi => k_is)
  (case cTi => k_is)
  (case kTi => k_is)
  (case pTo => k_is)
  (case aTo => k_is)
  (case fiTo => k_is)
  (case lTo => k_is)
  (case cTo => k_is)
  (case kTo => k_is)
  (case aRs => k_is)
  (case iRs => k_is)
  (case lRs => k_is)
  (case cRs => k_is)
  (case kRs => k_is)
  (case aFc => k_is)
  (case lFc => k_is)
  (case cFc => k_is)
  (case kFc => k_is)
  (case aIr => k_is)
  (case lIr => k_is)
  (case cIr => k_is)
  (case kIr => k_is)
  (case aTd => k_is)
  (case lTd => k_is)
  (case cTd => k_is)
  (case kTd => k_is)
  (case aSl => k_is)
  (case lSl => k_is)
  (case cSl => k_is)
  (case kSl => k_is)
  (case pTr => k_is)
  (case pgtTr => k_is)
  (case ptkTr => k_is)
  (case aTr => k_is)
  (case lTr => k_is)
  (case cTr => k_is)
  (case kTr => k_is)
  (case aTe => k_is)
  (case iTe => k_is)
  (case lTe => k_is)
  (case cTe => k_is)
  (case kTe => k_is)
  (case pMb => k_is)
  (case pgtMb => k_is)
  (case ptkMb => k_is)
  (case aMb => k_is)
  (case lMb => k_is)
  (case cMb => k_is)
  (case kMb => k_is)
  (case pWd => k_is)
  (case pgtWd => k_is)
  (case ptkWd => k_is)
  (case aWd => k_is)
  (case lWd => k_is)
  (case cWd => k_is)
  (case kWd => k_is)
  (case pHt => k_is)
  (case pgtHt => k_is)
  (case ptkHt => k_is)
  (case aHt => k_is)
  (case lHt => k_is)
  (case cHt => k_is)
  (case kHt => k_is)
  (case aTc => k_is)
  (case iTc => k_is)
  (case lTc => k_is)
  (case cTc => k_is)
  (case kTc => k_is)
  (case aCl => k_is)
  (case iCl => k_is)
  (case lCl => k_is)
  (case cCl => k_is)
  (case kCl => k_is)
  (case fnCl => k_is)
  (case aNu => k_is)
  (case lNu => k_is)
  (case cNu => k_is)
  (case kNu => k_is)
  (case aPl => k_is)
  (case lPl => k_is)
  (case cPl => k_is)
  (case kPl => k_is)
  (case aCv => k_is)
  (case lCv => k_is)
  (case cCv => k_is)
  (case kCv => k_is)
  (case aAt => k_is)
  (case iAt => k_is)
  (case lAt => k_is)
  (case cAt => k_is)
  (case kAt => k_is)
  (case sf => k_is)
  (case nc => k_is)
  (case nm => rfl)
  (case n1 => k_is)
  (case n2 => k_is)
  (case n3 => k_is)
  (case n4 => k_is)
  (case aV => k_is)
  (case pgV => k_is)
  (case hdV => k_is)
  (case poV => k_is)
  (case saV => k_is)
  (case mkV => k_is)
  (case kcV => k_is)
  (case rdV => k_is)
  (case gaV => k_is)
  (case nVs => k_is)
  (case nVb => k_is)
  (case aIl => k_is)
  (case lIl => k_is)
  (case cIl => k_is)
  (case kIl => k_is)
  (case aWc => k_is)
  (case lWc => k_is)
  (case cWc => k_is)
  (case kWc => k_is)
  (case aAk => k_is)
  (case lAk => k_is)
  (case cAk => k_is)
  (case kAk => k_is)
  (case aAp => k_is)
  (case lAp => k_is)
  (case cAp => k_is)
  (case kAp => k_is)
  (case aAl => k_is)
  (case lAl => k_is)
  (case cAl => k_is)
  (case kAl => k_is)
  (case aIo => k_is)
  (case lIo => k_is)
  (case cIo => k_is)
  (case kIo => k_is)
  (case pPr => k_is)
  (case pgtPr => k_is)
  (case ptkPr => k_is)
  (case aPr => k_is)
  (case lPr => k_is)
  (case cPr => k_is)
  (case kPr => k_is)
  (case aEs => k_is)
  (case iEs => k_is)
  (case lEs => k_is)
  (case cEs => k_is)
  (case kEs => k_is)
  (case aMt => k_is)
  (case iMt => k_is)
  (case lMt => k_is)
  (case cMt => k_is)
  (case kMt => k_is)
  (case aMp => k_is)
  (case iMp => k_is)
  (case lMp => k_is)
  (case cMp => k_is)
  (case kMp => k_is)
  (case aMk => k_is)
  (case iMk => k_is)
  (case lMk => k_is)
  (case cMk => k_is)
  (case kMk => k_is)
  (case aUn => k_is)
  (case iUn => k_is)
  (case lUn => k_is)
  (case cUn => k_is)
  (case kUn => k_is)
  (case pHi => k_is)
  (case pgtHi => k_is)
  (case ptkHi => k_is)
  (case aHi => k_is)
  (case lHi => k_is)
  (case cHi => k_is)
  (case kHi => k_is)
  (case aLv => k_is)
  (case iLv => k_is)
  (case lLv => k_is)
  (case cLv => k_is)
  (case kLv => k_is)
  (case pRp => k_is)
  (case aRp => k_is)
  (case fiRp => k_is)
  (case lRp => k_is)
  (case cRp => k_is)
  (case kRp => k_is)
  (case aLx => k_is)
  (case iLx => k_is)
  (case lLx => k_is)
  (case cLx => k_is)
  (case kLx => k_is)
  (case aRe => k_is)
  (case iRe => k_is)
  (case lRe => k_is)
  (case cRe => k_is)
  (case kRe => k_is)
  (case aAy => k_is)
  (case iAy => k_is)
  (case lAy => k_is)
  (case cAy => k_is)
  (case kAy => k_is)
  (case bgAy => k_is)
  (case btAy => k_is)
  (case bfAy => k_is)
  (case caA => k_is)
  (case laA => k_is)
  (case haA => exact ⟨⟨_, _, rfl, rfl⟩, ⟨_, _, rfl, rfl⟩, ⟨_, _, rfl, rfl⟩, trivial⟩)
  (case vaAtilt => k_is)
  (case vaAput => k_is)
  (case vaAtake => k_is)
  (case caS => k_is)
  (case laS => k_is)
  (case haS => exact ⟨⟨_, _, rfl, rfl⟩, ⟨_, _, rfl, rfl⟩, ⟨_, _, rfl, rfl⟩, trivial⟩)
  (case vaStilt => k_is)
  (case vaSput => k_is)
  (case vaStake => k_is)
  (case nSys => first | rfl | decide)
  (case aEn => k_is)
  (case iEn => k_is)
  (case lEn => k_is)
  (case cEn => k_is)
  (case kEn => k_is)
  (case aXt => k_is)
  (case iXt => k_is)
  (case lXt => k_is)
  (case cXt => k_is)
  (case kXt => k_is)
  (case aLn => k_is)
  (case iLn => k_is)
  (case lLn => k_is)
  (case cLn => k_is)
  (case kLn => k_is)
  (case aTa => k_is)
  (case iTa => k_is)
  (case lTa => k_is)
  (case cTa => k_is)
  (case kTa => k_is)
  (case aTk => k_is)
  (case lTk => k_is)
  (case cTk => k_is)
  (case kTk => k_is)
  (case aRw => k_is)
  (case lRw => k_is)
  (case cRw => k_is)
  (case kRw => k_is)
  (case aTy => k_is)
  (case lTy => k_is)
  (case cTy => k_is)
  (case kTy => k_is)
  (case aFr => k_is)
  (case lFr => k_is)
  (case cFr => k_is)
  (case kFr => k_is)
  (case aDe => k_is)
  (case lDe => k_is)
  (case cDe => k_is)
  (case kDe => k_is)
  (case aDn => k_is)
  (case lDn => k_is)
  (case cDn => k_is)
  (case kDn => k_is)
  (case aLw => k_is)
  (case lLw => k_is)
  (case cLw => k_is)
  (case kLw => k_is)
  (case ge2 => k_is)
  (case xL2 => k_is)
  (case xb2 => first | rfl | decide +kernel)
  (case xsa2 => k_is)
  (case xex2 => k_is)
  (case xty2 => k_is)
  (case xk2 => k_is)
  (case aIx2 => k_is)
  (case tIx2 => k_is)
  (case lIx2 => k_is)
  (case cIx2 => k_is)
  (case kx12 => k_is)
  (case kx22 => rfl)
  (case kx32 => first | rfl | decide +kernel)
  (case kx42 => k_is)
  (case kx52 => k_is)
  (case kx62 => kernel_rfl)
  (case kx72 => k_is)
  (case nI3 => k_is)
  (case kx8 => k_is)
  (case kx9 => first | rfl | decide +kernel)
  (case ge3 => k_is)
  (case q3 => kernel_rfl)
  (case k3 => k_is)
  (case t3 => k_is)
  (case hs_3 => k_is)
  (case eAR => first | rfl | decide +kernel)
  (case eAC => first | rfl | decide +kernel)
  (case eEM => first | rfl | decide +kernel)
  (case eLE => first | rfl | decide +kernel)
  (case eMS => first | rfl | decide +kernel)
  (case eMX => first | rfl | decide +kernel)
  (case eaStilt => first | rfl | decide +kernel)
  (case eaSput => first | rfl | decide +kernel)
  (case eaStake => first | rfl | decide +kernel)
  (case hDC => first | decide | omega)
  (case h0 => first | decide | omega)
  (case hn => first | decide | omega)
