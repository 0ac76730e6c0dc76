import PyProof.Rows.All
import Wide.All
import OpenK.AllK
import Wide.FinOn
import HandS.GenList
import KE.GoesMore
import KE.KStar
import HandS.ForMost
import HandS.Star
import HandS.Walk
import HandS.SlotsOwn
import HandS.ClsMeth
import HandS.Property
import HandS.OwnEq
import KE.KOpsOwn
import HandS.Text
import HandS.Replace
import HandS.Codes
import HandS.IsInst
import HandS.SetKeys
import HandS.Comp
import PyProof.Rows.StrPadFill
import PyProof.Rows.StrStrike
import HandS.ExcInit
import HandS.Nested
import HandS.FStr
import KE.KExcSuper
import KE.KSuper
import HandS.WordsExc
import HandS.ExcIs
import HandS.ExcField
import HandS.Lambda
import KE.KExcIs
import HandS.TupSets
import PyProof.InstNe
import HandS.ExcOwn
import PyProof.ExcBaseAll.ValueError
import HandS.StrMore
import HandS.DictComp
import PyProof.StrBlock2
import PyProof.ListStr
import HandS.Dict
import KE.KMathG
import HandS.Gcd
import HandS.DictTup
import HandS.Conv
import HandS.SortRule
import KE.LtData
import KE.KDictCopyH
import PyProof.CollectStr
import PyProof.ConsumeS
import PyProof.MinMaxWalk
import PyProof.SeqI3
import HandS.Style
import KE.KDictZip
import HandS.ExcValue
import HandS.RaiseMore
import HandS.Small
import HandS.More
import HandS.Ends
import HandS.EndTab
import KE.SortData
import KE.KDictPairs
import KE.KNestM
import PyProof.Rows.StrCountLaw
import HandS.WordsDict
import HandS.SortInts
import HandS.Deep
import PySem.Challenge.RW_tiltheap_k07_fewest_tilts
section
set_option Elab.async false
set_option maxRecDepth 100000
set_option linter.all false
namespace TG
open PySem
open Sem (wp)
def isRet : Frame → Bool
  | .ret .. => true
  | .gen .. => false
def Clean (fs : List Frame) : Prop := ∀ f ∈ fs, isRet f = true
def CleanSt : GenState → Prop
  | .suspended _ _ _ _ fs _ => Clean fs
  | _ => True
def CleanEnd : End → Prop
  | .susp _ _ _ _ _ _ fs => Clean fs
  | _ => True
theorem CleanEnd.st {e : End} (h : CleanEnd e) : CleanSt e.genState := by
  cases e with
  | ret _ => trivial
  | susp => exact h
theorem clean_split : ∀ {fs : List Frame}, Clean fs → splitAtGen fs = none
  | [], _ => rfl
  | .ret .. :: r, h => by
    show (splitAtGen r).map _ = none
    rw [clean_split fun f hf => h f (List.mem_cons_of_mem _ hf)]
    rfl
  | .gen .. :: _, h => by have := h _ List.mem_cons_self; cases this
/-- asleep -/
def Sus : GenState → Bool
  | .suspended .. => true
  | _ => false
/-- the same to look at, but nobody can wake it -/
def mal : GenState → GenState
  | .suspended _ l c p fs cl => .suspended (fun _ => .unsupported "") l c p fs cl
  | st => st
theorem mal_seen (st : GenState) : (mal st).seen = st.seen := by cases st <;> rfl
theorem mal_bare (st : GenState) : (mal st).bare = st.bare := by cases st <;> rfl
theorem no_run0 {M : Model} {Γ : Ctx} {p : Pos} {w : String} {s s' : Shared} {e : End} (h : Runs M Γ p (.unsupported w) [] s e s') : False := by
  cases h
theorem no_run {M : Model} {Γ : Ctx} {p : Pos} {w : String} {fs : List Frame} {s s' : Shared} {e : End} (h : Runs M Γ p (.unsupported w) fs s e s') : False := by
  cases fs with
  | nil => exact no_run0 h
  | cons F fs =>
    cases h with
    | segRet a _ => exact no_run0 a
    | segGen a _ => exact no_run0 a
    | segSuspOut _ a => exact no_run0 a
    | segSuspGen _ a _ _ => exact no_run0 a
/-- X: the table of a run in which A's sleepers cannot be woken; G: the true one -/
structure Rel (A X G : Array GenState) : Prop where
  size : X.size = G.size
  held : ∀ (i : Nat) (st : GenState), A[i]? = some st → Sus st = true → X[i]? = some (mal st) ∧ G[i]? = some st
  free : ∀ i : Nat, (∀ st, A[i]? = some st → Sus st = false) → X[i]? = G[i]? ∧ ∀ st, X[i]? = some st → CleanSt st
theorem rel_two {A : Array GenState} (i : Nat) : (∃ st, A[i]? = some st ∧ Sus st = true) ∨ ∀ st, A[i]? = some st → Sus st = false := by
  cases e : A[i]? with
  | none => exact .inr fun st h => by cases h
  | some st =>
    cases q : Sus st with
    | true => exact .inl ⟨st, rfl, q⟩
    | false => exact .inr fun st' h => by cases h; exact q
theorem Rel.start {A : Array GenState} (h : ∀ st ∈ A, True) : Rel A (A.map mal) A where
  size := Array.size_map ..
  held := fun i st e _ => ⟨by rw [Array.getElem?_map, e]; rfl, e⟩
  free := fun i hf => by
    rw [Array.getElem?_map]
    cases e : A[i]? with
    | none => exact ⟨rfl, fun st h => by cases h⟩
    | some st =>
      have q := hf st e
      have : mal st = st := by cases st <;> first | rfl | cases q
      refine ⟨by show some (mal st) = _; rw [this], fun st' h => ?_⟩
      have h : some (mal st) = some st' := h
      rw [this] at h
      cases h
      cases st <;> first | trivial | cases q
theorem Rel.set {A X G : Array GenState} (h : Rel A X G) {g : Nat} {st : GenState} (hg : ∀ u, A[g]? = some u → Sus u = false) (hc : CleanSt st) : Rel A (X.setIfInBounds g st) (G.setIfInBounds g st) where
  size := by rw [Array.size_setIfInBounds, Array.size_setIfInBounds, h.size]
  held := fun i u e q => by
    have ne : g ≠ i := fun z => by subst z; rw [hg u e] at q; cases q
    rw [Array.getElem?_setIfInBounds_ne ne, Array.getElem?_setIfInBounds_ne ne]
    exact h.held i u e q
  free := fun i hf => by
    by_cases z : g = i
    · subst z
      rw [Array.getElem?_setIfInBounds_self, Array.getElem?_setIfInBounds_self, h.size]
      refine ⟨rfl, fun u e => ?_⟩
      split at e
      · cases e; exact hc
      · cases e
    · rw [Array.getElem?_setIfInBounds_ne z, Array.getElem?_setIfInBounds_ne z]
      exact h.free i hf
theorem Rel.push {A X G : Array GenState} (h : Rel A X G) {c : Code} : Rel A (X.push (.fresh c)) (G.push (.fresh c)) where
  size := by rw [Array.size_push, Array.size_push, h.size]
  held := fun i u e q => by
    obtain ⟨a, b⟩ := h.held i u e q
    have l1 := (Array.getElem?_eq_some_iff.mp a).1
    have l2 := (Array.getElem?_eq_some_iff.mp b).1
    exact ⟨by rw [Array.getElem?_push_lt l1, ← Array.getElem?_eq_getElem l1]; exact a, by rw [Array.getElem?_push_lt l2, ← Array.getElem?_eq_getElem l2]; exact b⟩
  free := fun i hf => by
    rw [Array.getElem?_push, Array.getElem?_push, h.size]
    obtain ⟨a, b⟩ := h.free i hf
    split
    · exact ⟨rfl, fun st e => by cases e; trivial⟩
    · exact ⟨a, b⟩
theorem Rel.look {A X G : Array GenState} (R : Rel A X G) {g : Nat} {st : GenState} (q : X[g]? = some st) : (∃ u, A[g]? = some u ∧ Sus u = true ∧ st = mal u ∧ G[g]? = some u) ∨ ((∀ u, A[g]? = some u → Sus u = false) ∧ G[g]? = some st ∧ CleanSt st) := by
  rcases rel_two (A := A) g with ⟨u, e1, e2⟩ | hf
  · obtain ⟨z1, z2⟩ := R.held g u e1 e2
    rw [z1] at q
    exact .inl ⟨u, e1, e2, (Option.some.inj q).symm, z2⟩
  · exact .inr ⟨hf, (R.free g hf).1.symm.trans q, (R.free g hf).2 st q⟩
theorem mal_not {u st : GenState} (h : st = mal u) (q : Sus u = true) : ∃ l c p fs cl, st = .suspended (fun _ => .unsupported "") l c p fs cl := by
  cases u with
  | suspended k l c p fs cl => exact ⟨l, c, p, fs, cl, h⟩
  | _ => cases q
/-- the state with another table -/
abbrev wg (s : Shared) (G : Array GenState) : Shared := { s with gens := G }
theorem mirror {M : Model} {A : Array GenState} {Γ : Ctx} {p : Pos} {t : Sem PySem.Fin} {fs : List Frame} {x x' : Shared} {e : End} (h : Runs M Γ p t fs x e x') : ∀ G, Rel A x.gens G → Clean fs → ∃ G', Runs M Γ p t fs (wg x G) e (wg x' G') ∧ Rel A x'.gens G' ∧ CleanEnd e := by
  induction h with
  | done => exact fun G R _ => ⟨G, .done, R, trivial⟩
  | raise => exact fun G R _ => ⟨G, .raise, R, trivial⟩
  | again q _ ih => exact fun G R c => let ⟨G', a, b⟩ := ih G R c; ⟨G', .again q a, b⟩
  | rule _ ih => exact fun G R c => let ⟨G', a, b⟩ := ih G R c; ⟨G', .rule a, b⟩
  | «at» _ ih => exact fun G R c => let ⟨G', a, b⟩ := ih G R c; ⟨G', .at a, b⟩
  | load q _ ih => exact fun G R c => let ⟨G', a, b⟩ := ih G R c; ⟨G', .load q a, b⟩
  | update q _ ih => exact fun G R c => let ⟨G', a, b⟩ := ih G R c; ⟨G', .update q a, b⟩
  | loadIfAlive _ ih => exact fun G R c => let ⟨G', a, b⟩ := ih G R c; ⟨G', .loadIfAlive a, b⟩
  | point _ ih => exact fun G R c => let ⟨G', a, b⟩ := ih G R c; ⟨G', .point a, b⟩
  | alloc _ ih => exact fun G R c => let ⟨G', a, b⟩ := ih G R c; ⟨G', .alloc a, b⟩
  | fresh _ ih => exact fun G R c => let ⟨G', a, b⟩ := ih G R c; ⟨G', .fresh a, b⟩
  | ask _ ih => exact fun G R c => let ⟨G', a, b⟩ := ih G R c; ⟨G', .ask a, b⟩
  | choose q _ ih => exact fun G R c => let ⟨G', a, b⟩ := ih G R c; ⟨G', .choose q a, b⟩
  | os _ ih => exact fun G R c => let ⟨G', a, b⟩ := ih G R c; ⟨G', .os a, b⟩
  | handled _ ih => exact fun G R c => let ⟨G', a, b⟩ := ih G R c; ⟨G', .handled a, b⟩
  | stack _ ih => exact fun G R c => let ⟨G', a, b⟩ := ih G R c; ⟨G', .stack a, b⟩
  | thread _ ih => exact fun G R c => let ⟨G', a, b⟩ := ih G R c; ⟨G', .thread a, b⟩
  | genState q _ ih =>
    intro G R c
    obtain ⟨G', a, b⟩ := ih G R c
    rcases R.look q with ⟨u, e1, e2, e3, e4⟩ | ⟨_, e4, _⟩
    · rw [e3, mal_seen] at a
      exact ⟨G', .genState e4 a, b⟩
    · exact ⟨G', .genState e4 a, b⟩
  | newGen _ ih =>
    intro G R c
    obtain ⟨G', a, b⟩ := ih _ R.push c
    rw [R.size] at a
    exact ⟨G', .newGen a, b⟩
  | call _ _ i1 i2 =>
    intro G R c
    obtain ⟨G1, a1, b1, _⟩ := i1 G R c
    obtain ⟨G2, a2, b2⟩ := i2 G1 b1 c
    exact ⟨G2, .call a1 a2, b2⟩
  | callSusp _ ih =>
    intro G R c
    obtain ⟨G1, a1, b1, c1⟩ := ih G R c
    exact ⟨G1, .callSusp a1, b1, fun f hf => (List.mem_append.mp hf).elim (fun z => c1 f z) fun z => by rw [List.mem_singleton.mp z]; rfl⟩
  | «yield» => exact fun G R _ => ⟨G, .yield, R, fun f hf => nomatch hf⟩
  | resumeFresh q _ qt _ i1 i2 =>
    intro G R hc
    rcases R.look q with ⟨u, e1, e2, e3, e4⟩ | ⟨hf, e4, _⟩
    · obtain ⟨_, _, _, _, _, z⟩ := mal_not e3 e2
      cases z
    · obtain ⟨G1, a1, b1, c1⟩ := i1 _ (R.set (st := .running) hf trivial) (fun f hf => nomatch hf)
      obtain ⟨G2, a2, b2⟩ := i2 _ (b1.set hf c1.st) hc
      exact ⟨G2, .resumeFresh e4 a1 qt a2, b2⟩
  | resumeSuspended q w qt _ i1 i2 =>
    intro G R hc
    rcases R.look q with ⟨u, e1, e2, e3, e4⟩ | ⟨hf, e4, cl⟩
    · obtain ⟨_, _, _, _, _, z⟩ := mal_not e3 e2
      cases z
      exact (no_run w).elim
    · obtain ⟨G1, a1, b1, c1⟩ := i1 _ (R.set (st := .running) hf trivial) cl
      obtain ⟨G2, a2, b2⟩ := i2 _ (b1.set hf c1.st) hc
      exact ⟨G2, .resumeSuspended e4 a1 qt a2, b2⟩
  | resumeJustStarted q nn _ ih =>
    intro G R hc
    obtain ⟨G', a, b⟩ := ih G R hc
    rcases R.look q with ⟨u, e1, e2, e3, e4⟩ | ⟨hf, e4, _⟩
    · obtain ⟨_, _, _, _, _, z⟩ := mal_not e3 e2
      cases z
    · exact ⟨G', .resumeJustStarted e4 nn a, b⟩
  | resumeThrowFresh q _ ih =>
    intro G R hc
    rcases R.look q with ⟨u, e1, e2, e3, e4⟩ | ⟨hf, e4, _⟩
    · obtain ⟨_, _, _, _, _, z⟩ := mal_not e3 e2
      cases z
    · obtain ⟨G', a, b⟩ := ih _ (R.set (st := .finished) hf trivial) hc
      exact ⟨G', .resumeThrowFresh e4 a, b⟩
  | resumeRunning q _ ih =>
    intro G R hc
    obtain ⟨G', a, b⟩ := ih G R hc
    rcases R.look q with ⟨u, e1, e2, e3, e4⟩ | ⟨hf, e4, _⟩
    · obtain ⟨_, _, _, _, _, z⟩ := mal_not e3 e2
      cases z
    · exact ⟨G', .resumeRunning e4 a, b⟩
  | resumeFinished q _ ih =>
    intro G R hc
    obtain ⟨G', a, b⟩ := ih G R hc
    rcases R.look q with ⟨u, e1, e2, e3, e4⟩ | ⟨hf, e4, _⟩
    · obtain ⟨_, _, _, _, _, z⟩ := mal_not e3 e2
      cases z
    · exact ⟨G', .resumeFinished e4 a, b⟩
  | segRet _ _ i1 i2 =>
    intro G R c
    obtain ⟨G1, a1, b1, _⟩ := i1 G R fun f hf => nomatch hf
    obtain ⟨G2, a2, b2⟩ := i2 G1 b1 fun f hf => c f (List.mem_cons_of_mem _ hf)
    exact ⟨G2, .segRet a1 a2, b2⟩
  | segGen _ _ _ _ =>
    intro G R c
    have := c _ List.mem_cons_self
    cases this
  | segSuspOut q _ ih =>
    intro G R c
    obtain ⟨G1, a1, b1, c1⟩ := ih G R fun f hf => nomatch hf
    exact ⟨G1, .segSuspOut q a1, b1, fun f hf => (List.mem_append.mp hf).elim (fun z => c1 f z) fun z => c f z⟩
  | segSuspGen q _ _ _ _ _ =>
    intro G R c
    rw [clean_split c] at q
    cases q
end TG
end
section
set_option Elab.async false
set_option maxRecDepth 100000
set_option linter.all false
namespace TG
open PySem
open Sem (wp)
open L2 PySem.Spec PyProof.Rows
theorem mirror_wakes {M : Model} {A : Array GenState} {Γ : PySem.Ctx} {p : Pos} {g : Nat} {r : Resume} {x x' : Shared} {res : GenResult} (h : Wakes M Γ p g r x res x') {G : Array GenState} (R : Rel A x.gens G) : ∃ G', Wakes M Γ p g r (wg x G) res (wg x' G') ∧ Rel A x'.gens G' := by
  unfold Wakes at h ⊢
  cases q : x.gens[g]? with
  | none => rw [q] at h; exact h.elim
  | some st =>
    rw [q] at h
    rcases R.look q with ⟨u, e1, e2, e3, e4⟩ | ⟨hf, e4, cl⟩
    · obtain ⟨l, c, p0, fs, c2, z⟩ := mal_not e3 e2
      subst z
      obtain ⟨e, s1, w, _⟩ := h
      exact (no_run w).elim
    · show ∃ G', (match G[g]? with | none => False | some (.fresh c) => _ | some (.suspended k₀ _ c₀ p₀ fs _) => _ | some .running => _ | some .finished => _) ∧ _
      rw [e4]
      cases st with
      | fresh c =>
        cases r with
        | send v =>
          cases v with
          | none =>
            obtain ⟨e, s1, w, qt, rfl, rfl⟩ := h
            obtain ⟨G1, a1, b1, c1⟩ := mirror w _ (R.set (st := .running) hf trivial) (fun f hf => nomatch hf)
            exact ⟨_, ⟨e, _, a1, qt, rfl, rfl⟩, b1.set hf c1.st⟩
          | _ =>
            obtain ⟨rfl, rfl⟩ := h
            exact ⟨G, ⟨rfl, rfl⟩, R⟩
        | throw v =>
          obtain ⟨rfl, rfl⟩ := h
          exact ⟨_, ⟨rfl, rfl⟩, R.set (st := .finished) hf trivial⟩
      | suspended k l c p0 fs c2 =>
        obtain ⟨e, s1, w, qt, rfl, rfl⟩ := h
        obtain ⟨G1, a1, b1, c1⟩ := mirror w _ (R.set (st := .running) hf trivial) cl
        exact ⟨_, ⟨e, _, a1, qt, rfl, rfl⟩, b1.set hf c1.st⟩
      | running =>
        obtain ⟨rfl, rfl⟩ := h
        exact ⟨G, ⟨rfl, rfl⟩, R⟩
      | finished =>
        obtain ⟨rfl, rfl⟩ := h
        exact ⟨G, ⟨rfl, rfl⟩, R⟩
/-- a run that started with sleepers nobody can wake: the true one -/
def Mir {α : Type} (A : Array GenState) (Q : α → Shared → Prop) (a : α) (s' : Shared) : Prop := ∃ x' G', s' = wg x' G' ∧ Rel A x'.gens G' ∧ Q a x'
theorem wp_mirror {α : Type} {M : Model} {Γ : PySem.Ctx} {A : Array GenState} (t : Sem α) : ∀ (Q : α → Pos → Shared → Prop) (E : Value → Pos → Shared → Prop) (p : Pos) (x : Shared) (G : Array GenState), Rel A x.gens G → wp M Γ t Q E p x →
    wp M Γ t (fun a p' => Mir A (fun a => Q a p') a) (fun e p' => Mir A (fun e => E e p') e) p (wg x G) := by
  induction t with
  | pure a => intro Q E p x G R h; exact ⟨x, G, rfl, R, h⟩
  | raise e => intro Q E p x G R h; exact ⟨x, G, rfl, R, h⟩
  | unsupported _ => intro Q E p x G _ h; exact h
  | finish _ => intro Q E p x G _ h; exact h
  | rule _ k ih => intro Q E p x G R h; exact ih () Q E p x G R h
  | «at» p' k ih => intro Q E p x G R h; exact ih () Q E p' x G R h
  | load a _ k ih => intro Q E p x G R h; obtain ⟨o, ho, h⟩ := h; exact ⟨o, ho, ih o Q E p x G R h⟩
  | update a _ f k ih => intro Q E p x G R h; exact ⟨h.1, ih () Q E p { x with heap := x.heap.update a f } G R h.2⟩
  | loadIfAlive a k ih => intro Q E p x G R h; exact ih _ Q E p x G R h
  | point _ k ih => intro Q E p x G R h; exact ih () Q E p x G R h
  | register _ _ => intro Q E p x G _ h; exact h
  | alloc o k ih => intro Q E p x G R h; exact ih _ Q E p { x with heap := x.heap.push o } G R h
  | fresh k ih => intro Q E p x G R h; exact ih _ Q E p { x with toks := x.toks + 1 } G R h
  | ask k ih => intro Q E p x G R h; exact ih _ Q E p _ G R h
  | choose src m k ih => intro Q E p x G R h; exact ⟨h.1, ih _ Q E p { x with drawn := x.drawn.bump src } G R h.2⟩
  | os q _ k ih => intro Q E p x G R h; exact ih _ Q E p { x with os := (Os.step x.os q).1 } G R h
  | call c hd _ _ k ih =>
    intro Q E p x G R h
    obtain ⟨r, s', hr, h⟩ := h
    obtain ⟨G1, a1, b1, _⟩ := mirror hr G R (fun f hf => nomatch hf)
    exact ⟨r, _, a1, ih r Q E p s' G1 b1 h⟩
  | handled own k ih => intro Q E p x G R h; exact ih _ Q E p x G R h
  | genState g k ih =>
    intro Q E p x G R h
    obtain ⟨st, q, h⟩ := h
    rcases R.look q with ⟨u, e1, e2, e3, e4⟩ | ⟨hf, e4, _⟩
    · rw [e3, mal_seen] at h
      exact ⟨u, e4, ih _ Q E p x G R h⟩
    · exact ⟨st, e4, ih _ Q E p x G R h⟩
  | newGen c k ih =>
    intro Q E p x G R h
    have h2 := ih _ Q E p _ _ (R.push (c := c)) h
    rw [R.size] at h2
    exact h2
  | resume g r _ k ih =>
    intro Q E p x G R h
    obtain ⟨res, s', hw, h⟩ := h
    obtain ⟨G1, a1, b1⟩ := mirror_wakes hw R
    exact ⟨res, _, a1, ih res Q E p s' G1 b1 h⟩
  | «yield» _ _ _ _ => intro Q E p x G _ h; exact h
  | stack k ih => intro Q E p x G R h; exact ih _ Q E p x G R h
  | fork _ _ => intro Q E p x G _ h; exact h
  | thread k ih => intro Q E p x G R h; exact ih _ Q E p x G R h
  | await _ _ _ _ _ => intro Q E p x G _ h; exact h
/-- the sleepers' places made unwakeable -/
abbrev lull (s : Shared) : Shared := wg s (s.gens.map mal)
theorem wpAny_mirror {α : Type} {M : Model} {A : Around} {t : Sem α} {Q : α → Shared → Prop} {E : Value → Shared → Prop} {s : Shared} (h : wpAny M A t Q E (lull s)) : wpAny M A t (Mir s.gens Q) (Mir s.gens E) s := fun Γ p hΓ =>
  wp_mirror t _ _ p (lull s) s.gens (Rel.start fun _ _ => trivial) (h Γ p hΓ)
theorem lull_bare {s : Shared} (h : AllBare s.gens) : AllBare (lull s).gens := fun st hst => by
  obtain ⟨u, hu, rfl⟩ := Array.mem_map.mp hst
  rw [mal_bare]
  exact h u hu
/-- the true table is bare, too -/
theorem Rel.bare {A X G : Array GenState} (R : Rel A X G) (hA : AllBare A) (hX : AllBare X) : AllBare G := fun st hst => by
  obtain ⟨i, hi, e⟩ := Array.mem_iff_getElem.mp hst
  have eg : G[i]? = some st := by rw [Array.getElem?_eq_getElem hi, e]
  rcases rel_two (A := A) i with ⟨u, e1, e2⟩ | hf
  · have := (R.held i u e1 e2).2
    rw [this] at eg
    cases eg
    exact hA _ (Array.mem_of_getElem? e1)
  · rw [← (R.free i hf).1] at eg
    exact hX _ (Array.mem_of_getElem? eg)
theorem Rel.keep {A X G : Array GenState} (R : Rel A X G) {i : Nat} {st : GenState} (e : A[i]? = some st) (q : Sus st = true) : G[i]? = some st := (R.held i st e q).2
end TG
end
section
set_option Elab.async false
set_option maxRecDepth 100000
set_option maxHeartbeats 4000000
namespace TH
open PySem PySem.Spec PyProof.Rows L2

/-- texts with their tokens -/
abbrev Tx := List (Str × Tok)
abbrev txv (ts : Tx) : List Value := ts.map fun v => .str v.1 v.2
abbrev txo (v : Str × Tok) : Obj := { cls := .type (strIterType v.1), data := .fields #[.str v.1 v.2, .int 0 0] }
def laid (h : Heap) : Tx → Heap
  | [] => h
  | v :: r => laid (h.push (txo v)) r
def refs (n : Nat) : Nat → List Value
  | 0 => []
  | k + 1 => .ref n :: refs (n + 1) k
theorem laid_size : ∀ (ts : Tx) (h : Heap), (laid h ts).objs.size = h.objs.size + ts.length
  | [], h => rfl
  | v :: r, h => by
    show (laid (h.push (txo v)) r).objs.size = _
    rw [laid_size r, Heap.size_push, List.length_cons]
    omega
theorem laid_old : ∀ (ts : Tx) (h : Heap) (b : Addr) (o : Obj), h.get? b = some o → (laid h ts).get? b = some o
  | [], _, _, _, e => e
  | _ :: r, _, b, o, e => laid_old r _ b o (Heap.get?_push_of_some _ e)
theorem laid_at : ∀ (ts : Tx) (h : Heap) (k : Nat) (v : Str × Tok), ts[k]? = some v → (laid h ts).get? (h.objs.size + k) = some (txo v)
  | [], _, k, _, e => by simp at e
  | u :: r, h, 0, v, e => by
    have e' : u = v := by simpa using e
    subst e'
    exact laid_old r _ _ _ (Heap.get?_push_size _ rfl)
  | u :: r, h, k + 1, v, e => by
    have z := laid_at r (h.push (txo u)) k v (by simpa using e)
    rw [Heap.size_push] at z
    have e2 : h.objs.size + 1 + k = h.objs.size + (k + 1) := by omega
    rw [e2] at z
    exact z
theorem refs_length (n : Nat) : ∀ k, (refs n k).length = k := fun k => by
  induction k generalizing n with
  | zero => rfl
  | succ k ih => show (refs (n + 1) k).length + 1 = k + 1; rw [ih]
theorem refs_at : ∀ (n k i : Nat), i < k → (refs n k)[i]? = some (.ref (n + i))
  | n, 0, i, h => absurd h (Nat.not_lt_zero _)
  | n, k + 1, 0, _ => rfl
  | n, k + 1, i + 1, h => by
    have z := refs_at (n + 1) k i (Nat.lt_of_succ_lt_succ h)
    have e : n + 1 + i = n + (i + 1) := by omega
    rw [e] at z
    simpa [refs] using z

section
variable {prog : Program} {w : World} {A : Around} {E : Value → Shared → Prop}
theorem iterAll_texts : ∀ (ts : Tx) (acc : Array Value) (s : Shared) (Q : Array Value → Shared → Prop), Q (acc ++ (refs s.heap.objs.size ts.length).toArray) { s with heap := laid s.heap ts } →
    wpAny (model prog w) A (forIn (txv ts) acc fun x r => (do let y ← holding r.toList (pyIter x); pure (ForInStep.yield (r.push y)))) Q E s
  | [], acc, s, Q, h => by
    rw [txv, List.map_nil, List.forIn_nil]
    refine wpAny_pure ?_
    simpa [refs, laid] using h
  | v :: r, acc, s, Q, h => by
    rw [txv, List.map_cons, List.forIn_cons]
    refine wpAny_bind (wpAny_bind (wpAny_holding (wpAny_pyIter_strU (wpAny_pure ?_))))
    refine iterAll_texts r _ _ Q ?_
    have e : acc.push (.ref s.heap.objs.size) ++ (refs (s.heap.push (txo v)).objs.size r.length).toArray = acc ++ (refs s.heap.objs.size (r.length + 1)).toArray := by
      rw [Heap.size_push]
      apply Array.toList_inj.mp
      simp [refs]
    show Q (acc.push (.ref s.heap.objs.size) ++ (refs (s.heap.push (txo v)).objs.size r.length).toArray) _
    rw [e]
    exact h
theorem iterAll_ok (ts : Tx) {s : Shared} {Q : List Value → Shared → Prop} (h : Q (refs s.heap.objs.size ts.length) { s with heap := laid s.heap ts }) :
    wpAny (model prog w) A (Builtin.SmallTypes.iterAll (txv ts)) Q E s := by
  unfold Builtin.SmallTypes.iterAll
  refine wpAny_bind (iterAll_texts ts #[] s _ ?_)
  refine wpAny_pure ?_
  simpa using h
end
end TH
end
section
set_option Elab.async false
set_option maxRecDepth 100000
set_option maxHeartbeats 4000000
namespace TH
open PySem PySem.Spec PyProof.Rows L2

abbrev tupO (l : List Value) : Obj := { cls := .type "tuple", data := .seq l.toArray }
abbrev zipO (f0 f1 : Value) (TI TO : Addr) : Obj := { cls := .type "zip", data := .fields #[f0, f1, .bool false, .ref TI, .ref TO] }
def zheap (h : Heap) (ts : Tx) : Heap :=
  (((laid h ts).push (tupO (refs h.objs.size ts.length))).push (tupO ((refs h.objs.size ts.length).map fun _ => .none))).push (zipO .none (.bool false) (h.objs.size + ts.length) (h.objs.size + ts.length + 1))

theorem argsOk_init : ∀ (obj : Value) (ts : Tx), ts.length ≤ 8 → argsOk "object.__init__" ⟨obj :: txv ts, []⟩
  | obj, [], _ => by show argsOk "object.__init__" ⟨[obj], []⟩; unfold argsOk; kernel_rfl
  | obj, [a], _ => by show argsOk "object.__init__" ⟨[obj, _], []⟩; unfold argsOk; kernel_rfl
  | obj, [a, b], _ => by show argsOk "object.__init__" ⟨[obj, _, _], []⟩; unfold argsOk; kernel_rfl
  | obj, [a, b, c], _ => by show argsOk "object.__init__" ⟨[obj, _, _, _], []⟩; unfold argsOk; kernel_rfl
  | obj, [a, b, c, d], _ => by show argsOk "object.__init__" ⟨[obj, _, _, _, _], []⟩; unfold argsOk; kernel_rfl
  | obj, [a, b, c, d, e], _ => by show argsOk "object.__init__" ⟨[obj, _, _, _, _, _], []⟩; unfold argsOk; kernel_rfl
  | obj, [a, b, c, d, e, f], _ => by show argsOk "object.__init__" ⟨[obj, _, _, _, _, _, _], []⟩; unfold argsOk; kernel_rfl
  | obj, [a, b, c, d, e, f, g], _ => by show argsOk "object.__init__" ⟨[obj, _, _, _, _, _, _, _], []⟩; unfold argsOk; kernel_rfl
  | obj, [a, b, c, d, e, f, g, h], _ => by show argsOk "object.__init__" ⟨[obj, _, _, _, _, _, _, _, _], []⟩; unfold argsOk; kernel_rfl
  | obj, _ :: _ :: _ :: _ :: _ :: _ :: _ :: _ :: _ :: r, h => by simp at h
theorem typeCall_zip : ∀ (ts : Tx), ts.length ≤ 8 → checkTypeCall "zip" ⟨txv ts, []⟩ = pure ()
  | [], _ => by show checkTypeCall "zip" ⟨[], []⟩ = pure (); kernel_rfl
  | [a], _ => by show checkTypeCall "zip" ⟨[_], []⟩ = pure (); kernel_rfl
  | [a, b], _ => by show checkTypeCall "zip" ⟨[_, _], []⟩ = pure (); kernel_rfl
  | [a, b, c], _ => by show checkTypeCall "zip" ⟨[_, _, _], []⟩ = pure (); kernel_rfl
  | [a, b, c, d], _ => by show checkTypeCall "zip" ⟨[_, _, _, _], []⟩ = pure (); kernel_rfl
  | [a, b, c, d, e], _ => by show checkTypeCall "zip" ⟨[_, _, _, _, _], []⟩ = pure (); kernel_rfl
  | [a, b, c, d, e, f], _ => by show checkTypeCall "zip" ⟨[_, _, _, _, _, _], []⟩ = pure (); kernel_rfl
  | [a, b, c, d, e, f, g], _ => by show checkTypeCall "zip" ⟨[_, _, _, _, _, _, _], []⟩ = pure (); kernel_rfl
  | [a, b, c, d, e, f, g, h], _ => by show checkTypeCall "zip" ⟨[_, _, _, _, _, _, _, _], []⟩ = pure (); kernel_rfl
  | _ :: _ :: _ :: _ :: _ :: _ :: _ :: _ :: _ :: r, h => by simp at h
theorem newCall_zip : ∀ (ts : Tx), ts.length ≤ 8 → checkBuiltinCall "zip.__new__" ⟨.type "zip" :: txv ts, []⟩ = pure ()
  | [], _ => by show checkBuiltinCall "zip.__new__" ⟨[_], []⟩ = pure (); kernel_rfl
  | [a], _ => by show checkBuiltinCall "zip.__new__" ⟨[_, _], []⟩ = pure (); kernel_rfl
  | [a, b], _ => by show checkBuiltinCall "zip.__new__" ⟨[_, _, _], []⟩ = pure (); kernel_rfl
  | [a, b, c], _ => by show checkBuiltinCall "zip.__new__" ⟨[_, _, _, _], []⟩ = pure (); kernel_rfl
  | [a, b, c, d], _ => by show checkBuiltinCall "zip.__new__" ⟨[_, _, _, _, _], []⟩ = pure (); kernel_rfl
  | [a, b, c, d, e], _ => by show checkBuiltinCall "zip.__new__" ⟨[_, _, _, _, _, _], []⟩ = pure (); kernel_rfl
  | [a, b, c, d, e, f], _ => by show checkBuiltinCall "zip.__new__" ⟨[_, _, _, _, _, _, _], []⟩ = pure (); kernel_rfl
  | [a, b, c, d, e, f, g], _ => by show checkBuiltinCall "zip.__new__" ⟨[_, _, _, _, _, _, _, _], []⟩ = pure (); kernel_rfl
  | [a, b, c, d, e, f, g, h], _ => by show checkBuiltinCall "zip.__new__" ⟨[_, _, _, _, _, _, _, _, _], []⟩ = pure (); kernel_rfl
  | _ :: _ :: _ :: _ :: _ :: _ :: _ :: _ :: _ :: r, h => by simp at h

theorem meets_zip_new (ts : Tx) (hl : ts.length ≤ 8) :
    Meets (Builtin.«zip.__new__» ⟨.type "zip" :: txv ts, []⟩) (fun _ R s => R (.ok (.ret (.ref (s.heap.objs.size + ts.length + 2)))) { s with heap := zheap s.heap ts }) :=
  .of_wp fun prog w A R s h => by
    obtain ⟨hp, g, d, tk, os⟩ := s
    have hsub := sub_zip
    have q1 : ∀ {A' : Around} {E : Value → Shared → Prop} {Q : List Value → Shared → Prop}, Q (refs hp.objs.size ts.length) ⟨laid hp ts, g, d, tk, os⟩ → wpAny (model prog w) A' (Builtin.SmallTypes.iterAll (txv ts)) Q E ⟨hp, g, d, tk, os⟩ :=
      fun q => iterAll_ok ts q
    have sz1 : (refs hp.objs.size ts.length).length ≤ sizeLine := by rw [refs_length]; exact Nat.le_trans hl (by decide)
    unfold Builtin.«zip.__new__»
    wp_walk using q1
    refine ⟨_, rfl, ?_⟩
    have z1 : (laid hp ts).objs.size = hp.objs.size + ts.length := laid_size ts hp
    have z2 : ((laid hp ts).push (tupO (refs hp.objs.size ts.length))).objs.size = hp.objs.size + ts.length + 1 := by rw [Heap.size_push, z1]
    have z3 : (((laid hp ts).push (tupO (refs hp.objs.size ts.length))).push (tupO ((refs hp.objs.size ts.length).map fun _ => .none))).objs.size = hp.objs.size + ts.length + 2 := by rw [Heap.size_push, z2]
    rw [z1, z2, z3]
    exact h

/-- what stands behind zip(..) over texts -/
structure ZAt (h : Heap) (b : Nat) (ts : Tx) (f0 f1 : Value) (i : Nat) : Prop where
  zip : h.get? (b + ts.length + 2) = some (zipO f0 f1 (b + ts.length) (b + ts.length + 1))
  its : h.get? (b + ts.length) = some (tupO (refs b ts.length))
  txt : ∀ (k : Nat) (v : Str × Tok), ts[k]? = some v → h.IsStrIter (b + k) (strIterType v.1) v.1 v.2 i
theorem zheap_old {h : Heap} {ts : Tx} {c : Addr} {o : Obj} (e : h.get? c = some o) : (zheap h ts).get? c = some o :=
  Heap.get?_push_of_some _ (Heap.get?_push_of_some _ (Heap.get?_push_of_some _ (laid_old ts h c o e)))
theorem zheap_at (h : Heap) (ts : Tx) : ZAt (zheap h ts) h.objs.size ts .none (.bool false) 0 ∧ ∃ l, l.length = ts.length ∧ (zheap h ts).get? (h.objs.size + ts.length + 1) = some (tupO l) := by
  have z1 : (laid h ts).objs.size = h.objs.size + ts.length := laid_size ts h
  have z2 : ((laid h ts).push (tupO (refs h.objs.size ts.length))).objs.size = h.objs.size + ts.length + 1 := by rw [Heap.size_push, z1]
  have z3 : (((laid h ts).push (tupO (refs h.objs.size ts.length))).push (tupO ((refs h.objs.size ts.length).map fun _ => .none))).objs.size = h.objs.size + ts.length + 2 := by rw [Heap.size_push, z2]
  have e1 : (zheap h ts).get? (h.objs.size + ts.length) = some (tupO (refs h.objs.size ts.length)) := by
    rw [← z1]
    exact Heap.get?_push_of_some _ (Heap.get?_push_of_some _ (Heap.get?_push_size _ rfl))
  have e2 : (zheap h ts).get? (h.objs.size + ts.length + 1) = some (tupO ((refs h.objs.size ts.length).map fun _ => .none)) := by
    rw [← z2]
    exact Heap.get?_push_of_some _ (Heap.get?_push_size _ rfl)
  have e3 : (zheap h ts).get? (h.objs.size + ts.length + 2) = some (zipO .none (.bool false) (h.objs.size + ts.length) (h.objs.size + ts.length + 1)) := by
    rw [← z3]
    exact Heap.get?_push_size _ rfl
  refine ⟨⟨e3, e1, fun k v hv => ?_⟩, _, ?_, e2⟩
  · exact ⟨_, Heap.get?_push_of_some _ (Heap.get?_push_of_some _ (Heap.get?_push_of_some _ (laid_at ts h k v hv))), rfl, rfl⟩
  · rw [List.length_map, refs_length]

theorem call_zip {prog : Program} {w : World} {A : Around} {E : Value → Shared → Prop} {s : Shared} {Q : Value → Shared → Prop} (ts : Tx) (hl : ts.length ≤ 8)
    (h : Q (.ref (s.heap.objs.size + ts.length + 2)) { s with heap := zheap s.heap ts }) : wpAny (model prog w) A (call (.type "zip") (txv ts)) Q E s := by
  refine callType_new F.called_zip (by decide) (typeCall_zip ts hl) (newCall_zip ts hl) (fun obj => argsOk_init obj ts hl) F.entry_zip_new (meets_zip_new ts hl) ?_
  have e3 := (zheap_at s.heap ts).1.zip
  exact ⟨⟨_, e3, rfl⟩, h⟩
end TH
end
section
set_option Elab.async false
set_option maxRecDepth 100000
set_option maxHeartbeats 4000000
namespace TH
open PySem PySem.Spec PyProof.Rows L2
theorem nn {x y : Nat} (h : x < y ∨ y < x) : x ≠ y := fun e => by subst e; omega
section
variable {prog : Program} {w : World} {A : Around} {E : Value → Shared → Prop}
/-- a loop over a list of the model's own, by what holds ahead of its k-th turn -/
theorem loop_inv {α β : Type} {f : α → β → Sem (ForInStep β)} {Q : β → Shared → Prop} (I : Nat → β → Shared → Prop) : ∀ (xs : List α) (n : Nat) (y : β) (s : Shared), I n y s →
    (∀ k x y s, xs[k]? = some x → I (n + k) y s → wpAny (model prog w) A (f x y) (fun r s' => ∃ y', r = .yield y' ∧ I (n + k + 1) y' s') E s) →
    (∀ y s, I (n + xs.length) y s → Q y s) → wpAny (model prog w) A (forIn xs y f) Q E s
  | [], n, y, s, h0, _, he => by
    rw [List.forIn_nil]
    exact wpAny_pure (he y s h0)
  | x :: r, n, y, s, h0, hs, he => by
    rw [List.forIn_cons]
    refine wpAny_bind (wpAny_mono (hs 0 x y s rfl h0) (fun r1 s1 hr => ?_) fun _ _ z => z)
    obtain ⟨y1, rfl, h1⟩ := hr
    refine loop_inv I r (n + 1) y1 s1 h1 (fun k x' y' s' hk hI => ?_) fun y' s' hI => he y' s' ?_
    · have z := hs (k + 1) x' y' s' (by simpa using hk) (by
        have e : n + 1 + k = n + (k + 1) := by omega
        rw [e] at hI
        exact hI)
      have e : n + (k + 1) + 1 = n + 1 + k + 1 := by omega
      rw [e] at z
      exact z
    · have e : n + 1 + r.length = n + (r.length + 1) := by omega
      rw [e] at hI
      exact hI

/-- the signs of the texts at place i -/
def ColAt (ts : Tx) (i : Nat) (l : List Value) : Prop := l.length = ts.length ∧ ∀ (k : Nat) (v : Str × Tok), ts[k]? = some v → ∃ (c : Nat) (u : Tok), v.1.cps[i]? = some c ∧ l[k]? = some (Value.str ⟨#[c]⟩ u)
/-- outside b .. b + n all stands -/
def Out (b n : Nat) (h h' : Heap) : Prop := h'.objs.size = h.objs.size ∧ ∀ (c : Nat) (o : Obj), (c < b ∨ b + n < c) → h.get? c = some o → h'.get? c = some o
/-- k of the iterators have gone on -/
structure Mid (hp : Heap) (b : Nat) (ts : Tx) (f0 : Value) (i k : Nat) (h : Heap) : Prop where
  out : Out b (ts.length + 2) hp h
  zip : ∃ f1, h.get? (b + ts.length + 2) = some (zipO f0 f1 (b + ts.length) (b + ts.length + 1))
  its : h.get? (b + ts.length) = some (tupO (refs b ts.length))
  txt : ∀ (j : Nat) (v : Str × Tok), ts[j]? = some v → h.IsStrIter (b + j) (strIterType v.1) v.1 v.2 (if j < k then i + 1 else i)
theorem strIter_other {h h' : Heap} {a c : Addr} {ty : String} {x : Str} {t : Tok} {i : Nat} (q : h.IsStrIter a ty x t i) (sb : Heap.SameBut c h h') (hne : a ≠ c) : h'.IsStrIter a ty x t i := by
  obtain ⟨o, ho, r⟩ := q
  exact ⟨o, (sb.2 a hne).trans ho, r⟩
theorem Mid.step {hp h h' : Heap} {b : Nat} {ts : Tx} {f0 : Value} {i k : Nat} {v : Str × Tok} (M : Mid hp b ts f0 i k h) (hk : ts[k]? = some v) (sb : Heap.SameBut (b + k) h h') (st : h'.IsStrIter (b + k) (strIterType v.1) v.1 v.2 (i + 1)) : Mid hp b ts f0 i (k + 1) h' := by
  have hkl : k < ts.length := (List.getElem?_eq_some_iff.mp hk).1
  obtain ⟨f1, hz⟩ := M.zip
  refine ⟨⟨sb.1.trans M.out.1, fun c o hc e => (sb.2 c (nn (by omega))).trans (M.out.2 c o hc e)⟩, ⟨f1, (sb.2 (b + ts.length + 2) (nn (by omega))).trans hz⟩, (sb.2 (b + ts.length) (nn (by omega))).trans M.its, fun j u hj => ?_⟩
  by_cases hjk : j = k
  · subst hjk
    rw [if_pos (Nat.lt_succ_self _)]
    rw [hk] at hj
    cases hj
    exact st
  · have z := strIter_other (M.txt j u hj) sb (nn (x := b + j) (y := b + k) (by omega))
    by_cases hlt : j < k
    · rw [if_pos hlt] at z
      rw [if_pos (show j < k + 1 by omega)]
      exact z
    · rw [if_neg hlt] at z
      rw [if_neg (show ¬ j < k + 1 by omega)]
      exact z
theorem Mid.other {hp h h' : Heap} {b : Nat} {ts : Tx} {f0 : Value} {i k : Nat} (M : Mid hp b ts f0 i k h) (sb : Heap.SameBut (b + ts.length + 1) h h') : Mid hp b ts f0 i k h' := by
  obtain ⟨f1, hz⟩ := M.zip
  refine ⟨⟨sb.1.trans M.out.1, fun c o hc e => (sb.2 c (nn (by omega))).trans (M.out.2 c o hc e)⟩, ⟨f1, (sb.2 (b + ts.length + 2) (nn (by omega))).trans hz⟩, (sb.2 (b + ts.length) (nn (by omega))).trans M.its, fun j u hj => ?_⟩
  have hjl : j < ts.length := (List.getElem?_eq_some_iff.mp hj).1
  exact strIter_other (M.txt j u hj) sb (nn (x := b + j) (y := b + ts.length + 1) (by omega))
theorem Mid.start {hp h : Heap} {b : Nat} {ts : Tx} {f0 g0 f1 : Value} {i : Nat} (Z : ZAt hp b ts f0 f1 i) (sb : Heap.SameBut (b + ts.length + 2) hp h) (hz : ∃ f1, h.get? (b + ts.length + 2) = some (zipO g0 f1 (b + ts.length) (b + ts.length + 1))) : Mid hp b ts g0 i 0 h := by
  refine ⟨⟨sb.1, fun c o hc e => (sb.2 c (nn (by omega))).trans e⟩, hz, (sb.2 (b + ts.length) (nn (by omega))).trans Z.its, fun j u hj => ?_⟩
  have hjl : j < ts.length := (List.getElem?_eq_some_iff.mp hj).1
  rw [if_neg (Nat.not_lt_zero _)]
  exact strIter_other (Z.txt j u hj) sb (nn (x := b + j) (y := b + ts.length + 2) (by omega))
theorem Mid.fin {hp h : Heap} {b : Nat} {ts : Tx} {f0 : Value} {i : Nat} (M : Mid hp b ts f0 i ts.length h) : ∃ f1, ZAt h b ts f0 f1 (i + 1) := by
  obtain ⟨f1, hz⟩ := M.zip
  refine ⟨f1, hz, M.its, fun j v hj => ?_⟩
  have z := M.txt j v hj
  rw [if_pos (List.getElem?_eq_some_iff.mp hj).1] at z
  exact z
/-- the k-th iterator goes on -/
theorem draw_ok {hp : Heap} {s : Shared} {b : Nat} {ts : Tx} {f0 : Value} {i k : Nat} {v : Str × Tok} {Q : Value → Shared → Prop} (hh : A.handled = none) (M : Mid hp b ts f0 i k s.heap) (hk : ts[k]? = some v) (hi : i < v.1.cps.size)
    (hQ : ∀ c u h' tk, v.1.cps[i]? = some c → Mid hp b ts f0 i (k + 1) h' → Heap.SameBut (b + k) s.heap h' → Q (.str ⟨#[c]⟩ u) { s with heap := h', toks := tk }) :
    wpAny (model prog w) A (Builtin.SmallTypes.nextOf (.ref (b + k))) Q E s := by
  have st := M.txt k v hk
  rw [if_neg (Nat.lt_irrefl _)] at st
  refine (Draws.text (prog := prog) (w := w) hh (b + k) v.1 v.2).item i s _ _ hi st fun x h' tk hx st' sb => ?_
  obtain ⟨c, u, hc, rfl⟩ := hx
  exact hQ c u h' tk hc (M.step hk sb st') sb
end
end TH
end
section
set_option Elab.async false
set_option maxRecDepth 100000
set_option maxHeartbeats 4000000
namespace TH
open PySem PySem.Spec PyProof.Rows L2
section
variable {prog : Program} {w : World} {A : Around} {E : Value → Shared → Prop}
theorem refs_ne {b n : Nat} (h : 0 < n) : (refs b n).toArray.isEmpty = false := by
  cases n with
  | zero => exact absurd h (Nat.lt_irrefl _)
  | succ n => rfl
theorem refs_get {b n k : Nat} {x : Value} (h : (refs b n)[k]? = some x) : k < n ∧ x = .ref (b + k) := by
  have hk : k < n := by
    have z := (List.getElem?_eq_some_iff.mp h).1
    rw [refs_length] at z
    exact z
  have z := refs_at b n k hk
  rw [z] at h
  exact ⟨hk, (Option.some.inj h).symm⟩
theorem alive_any {s : Shared} {a : Addr} {Q : Option Obj → Shared → Prop} (h : Q (s.heap.get? a) s) : wpAny (model prog w) A (loadIfAlive a) Q E s := fun _ _ _ => h
/-- what stands between the turns -/
structure Bet (h : Heap) (b : Nat) (ts : Tx) (i : Nat) : Prop where
  at_ : ∃ (f0 : Value) (fb : Bool), ZAt h b ts f0 (.bool fb) i ∧ (f0 = .none ∨ ∃ T : Nat, f0 = rawInt T)
  own : ∃ l : List Value, h.get? (b + ts.length + 1) = some (tupO l) ∧ l.length = ts.length
/-- what a turn hands on -/
def Nxt (hp : Heap) (g : Array GenState) (d : Drawn) (os : OsState) (b : Nat) (ts : Tx) (i : Nat) (Q : Value → Shared → Prop) : Prop :=
  ∀ (us : List Value) (h' : Heap) (tk' : Nat), ColAt ts i us → Bet h' b ts (i + 1) → h'.get? hp.objs.size = some (tupO us) →
    (∀ (c : Nat) (o : Obj), (c < b ∨ b + (ts.length + 2) < c) → hp.get? c = some o → h'.get? c = some o) → Q (.ref hp.objs.size) ⟨h', g, d, tk', os⟩
theorem is_free {s : Shared} {b : Nat} {ts : Tx} {i : Nat} {f0 : Value} {fb : Bool} {Q : Bool → Shared → Prop} (Z : ZAt s.heap b ts f0 (.bool fb) i) (hf : f0 = .none ∨ ∃ T : Nat, f0 = rawInt T)
    (h1 : Q true s) (h2 : ∀ (h' : Heap), Heap.SameBut (b + ts.length + 2) s.heap h' → h'.get? (b + ts.length + 2) = some (zipO f0 (.bool true) (b + ts.length) (b + ts.length + 1)) → Q false { s with heap := h' }) :
    wpAny (model prog w) A (Builtin.SmallTypes.ownedTupleIsFree (.ref (b + ts.length + 2))) Q E s := by
  unfold Builtin.SmallTypes.ownedTupleIsFree
  refine wpAny_bind (wpAny_field Z.zip rfl (x := f0) rfl ?_)
  rcases hf with rfl | ⟨T, rfl⟩
  · exact wpAny_pure h1
  · show wpAny _ _ (loadIfAlive ((T : Int).toNat) >>= _) _ _ _
    rw [Int.toNat_natCast]
    refine wpAny_bind (alive_any ?_)
    cases hT : s.heap.get? T with
    | none => exact wpAny_pure h1
    | some o =>
      simp only [Option.isNone_some, Bool.false_eq_true, if_false]
      refine wpAny_bind (wpAny_field Z.zip rfl (x := .bool fb) rfl ?_)
      cases fb with
      | true => exact wpAny_pure (h2 s.heap (Heap.SameBut.refl _ _) Z.zip)
      | false => exact wpAny_bind (wpAny_setField_rec Z.zip (by simp) fun h' hz hs => wpAny_pure (h2 h' hs hz))
/-- a turn -/
theorem next_item {hp : Heap} {g : Array GenState} {d : Drawn} {tk : Nat} {os : OsState} {b : Nat} {ts : Tx} {i : Nat} {Q : Value → Shared → Prop} (hh : A.handled = none) (B : Bet hp b ts i) (h1 : 0 < ts.length) (h8 : ts.length ≤ 8)
    (hi : ∀ (k : Nat) (v : Str × Tok), ts[k]? = some v → i < v.1.cps.size) (hQ : Nxt hp g d os b ts i Q) :
    wpAny (model prog w) A (Builtin.«zip.__next__» ⟨[.ref (b + ts.length + 2)], []⟩) (fun fin s' => ∃ v, fin = .done (.ret v) ∧ Q v s') E ⟨hp, g, d, tk, os⟩ := by
  obtain ⟨⟨f0, fb, Z, hf⟩, l, hT, hl⟩ := B
  show wpAny _ _ (field (.ref _) 2 >>= _) _ _ _
  refine wpAny_bind (wpAny_field Z.zip rfl (x := .bool false) rfl ?_)
  show wpAny _ _ (field (.ref _) 3 >>= _) _ _ _
  refine wpAny_bind (wpAny_field Z.zip rfl (x := .ref (b + ts.length)) rfl ?_)
  refine wpAny_bind (wpAny_seqItems Z.its rfl ?_)
  dsimp only
  rw [if_neg (by rw [refs_ne h1]; exact Bool.false_ne_true)]
  refine wpAny_bind (is_free Z hf ?_ fun hA hs0 hz0 => ?_)
  · rw [if_pos rfl]
    refine wpAny_bind (wpAny_rule ?_)
    refine wpAny_bind (wpAny_field Z.zip rfl (x := .ref (b + ts.length + 1)) rfl ?_)
    refine wpAny_bind (wpAny_setField_rec Z.zip (by simp) fun g0 hz0 hs0 => ?_)
    replace hs0 : Heap.SameBut (b + ts.length + 2) hp g0 := hs0
    have M0 : Mid hp b ts .ellipsis i 0 g0 := Mid.start Z hs0 ⟨_, hz0⟩
    have hT0 : g0.get? (b + ts.length + 1) = some (tupO l) := (hs0.2 (b + ts.length + 1) (nn (by omega))).trans hT
    refine wpAny_bind (loop_inv (I := fun k y s => y = (none, ()) ∧ (∃ (h : Heap) (tk' : Nat) (us : List Value), s = ⟨h, g, d, tk', os⟩ ∧ Mid hp b ts .ellipsis i k h ∧ h.get? (b + ts.length + 1) = some (tupO us) ∧ us.length = ts.length ∧
        ∀ (j : Nat) (v : Str × Tok), j < k → ts[j]? = some v → ∃ (c : Nat) (u : Tok), v.1.cps[i]? = some c ∧ us[j]? = some (Value.str ⟨#[c]⟩ u))) _ 0 _ _ ⟨rfl, g0, tk, l, rfl, M0, hT0, hl, fun j v hj => absurd hj (Nat.not_lt_zero _)⟩ ?_ ?_)
    · rintro k ⟨x, k'⟩ y s hk ⟨rfl, h, tk', us, rfl, M, hU, hul, hgot⟩
      simp only [Nat.zero_add] at M hgot ⊢
      rw [List.getElem?_zipIdx] at hk
      cases hx : (refs b ts.length)[k]? with
      | none => simp [hx] at hk
      | some x' =>
        simp [hx] at hk
        obtain ⟨e1, e2⟩ := hk
        obtain ⟨hkl, ex⟩ := refs_get hx
        subst e1
        subst ex
        subst e2
        have hv : ts[k]? = some ts[k] := List.getElem?_eq_getElem hkl
        refine wpAny_bind (wpAny_onRaise ?_)
        show wpAny _ _ (Builtin.SmallTypes.nextOf (.ref (b + k)) >>= _) _ _ ⟨h, g, d, tk', os⟩
        refine wpAny_bind (draw_ok hh M hv (hi k _ hv) fun c u h' tk2 hc M' sb => wpAny_pure ?_)
        have hU' : h'.get? (b + ts.length + 1) = some (tupO us) := (sb.2 (b + ts.length + 1) (nn (by omega))).trans hU
        refine wpAny_bind (wpAny_seqItems (s := ⟨h', g, d, tk2, os⟩) hU' rfl ?_)
        refine wpAny_bind (wpAny_updateSeq (s := ⟨h', g, d, tk2, os⟩) hU' rfl ?_)
        refine wpAny_bind (wpAny_letGo (wpAny_pure ⟨_, rfl, rfl, _, _, us.set k (.str ⟨#[c]⟩ u), rfl, M'.other (Heap.SameBut.update ..), ?_, ?_, ?_⟩))
        · rw [Heap.get?_update_self _ hU' rfl]
          simp [Obj.mapSeq]
        · rw [List.length_set]
          exact hul
        · intro j v hj hjv
          by_cases hjk : j = k
          · subst hjk
            rw [hv] at hjv
            cases hjv
            exact ⟨c, u, hc, List.getElem?_set_self (by rw [hul]; exact hkl)⟩
          · obtain ⟨c', u', e1, e2⟩ := hgot j v (by omega) hjv
            exact ⟨c', u', e1, by rw [List.getElem?_set_ne (fun e => hjk e.symm)]; exact e2⟩
    · rintro y s ⟨rfl, h, tk', us, rfl, M, hU, hul, hgot⟩
      have el : 0 + (refs b ts.length).toArray.toList.zipIdx.length = ts.length := by
        simp [refs_length]
      rw [el] at M hgot
      refine wpAny_bind (wpAny_seqItems (s := ⟨h, g, d, tk', os⟩) hU rfl ?_)
      refine wpAny_bind (wpAny_newTuple ?_ (by simp; rw [hul]; exact Nat.le_trans h8 (by decide)))
      obtain ⟨f1, Z1⟩ := M.fin
      have hsz : h.objs.size = hp.objs.size := M.out.1
      have hz1 : (h.push (tupO us)).get? (b + ts.length + 2) = some (zipO .ellipsis f1 (b + ts.length) (b + ts.length + 1)) := Heap.get?_push_of_some _ Z1.zip
      have hzl : b + ts.length + 2 < h.objs.size := Heap.lt_size Z1.zip
      show wpAny _ _ (Builtin.SmallTypes.ownedTupleHandOut (.ref _) (.ref h.objs.size) >>= _) _ _ ⟨h.push (tupO us), g, d, tk', os⟩
      refine wpAny_bind ?_
      unfold Builtin.SmallTypes.ownedTupleHandOut
      refine wpAny_bind (wpAny_setField_rec hz1 (by simp) fun h7 hz7 hs7 => ?_)
      replace hz7 : h7.get? (b + ts.length + 2) = some (zipO (rawInt h.objs.size) f1 (b + ts.length) (b + ts.length + 1)) := hz7
      replace hs7 : Heap.SameBut (b + ts.length + 2) (h.push (tupO us)) h7 := hs7
      refine wpAny_setField_rec hz7 (by simp) fun h8' hz8 hs8 => ?_
      replace hz8 : h8'.get? (b + ts.length + 2) = some (zipO (rawInt h.objs.size) (.bool false) (b + ts.length) (b + ts.length + 1)) := hz8
      replace hs8 : Heap.SameBut (b + ts.length + 2) h7 h8' := hs8
      have up : ∀ (c : Nat) (o : Obj), c ≠ b + ts.length + 2 → h.get? c = some o → h8'.get? c = some o := fun c o hc e => (hs8.2 c hc).trans ((hs7.2 c hc).trans (Heap.get?_push_of_some _ e))
      refine wpAny_pure ⟨_, rfl, ?_⟩
      rw [hsz] at hz8 ⊢
      refine hQ us h8' tk' ⟨hul, fun k v hk => hgot k v (List.getElem?_eq_some_iff.mp hk).1 hk⟩ ⟨⟨_, false, ⟨hz8, up _ _ (nn (by omega)) Z1.its, fun k v hk => ?_⟩, .inr ⟨_, rfl⟩⟩, _, up _ _ (nn (by omega)) hU, hul⟩ ?_ fun c o hc e => ?_
      · have hkl : k < ts.length := (List.getElem?_eq_some_iff.mp hk).1
        obtain ⟨o, ho, r⟩ := Z1.txt k v hk
        exact ⟨o, up _ _ (nn (x := b + k) (y := b + ts.length + 2) (by omega)) ho, r⟩
      · rw [← hsz]
        exact (hs8.2 h.objs.size (nn (by omega))).trans ((hs7.2 h.objs.size (nn (by omega))).trans (Heap.get?_push_size _ rfl))
      · exact up c o (nn (by omega)) (M.out.2 c o hc e)
  · rw [if_neg Bool.false_ne_true]
    have M0 : Mid hp b ts f0 i 0 hA := Mid.start Z hs0 ⟨_, hz0⟩
    have hT0 : hA.get? (b + ts.length + 1) = some (tupO l) := (hs0.2 (b + ts.length + 1) (nn (by omega))).trans hT
    have hz0' : hA.get? (b + ts.length + 2) = some (zipO f0 (.bool true) (b + ts.length) (b + ts.length + 1)) := hz0
    dsimp only
    rw [List.forIn_toArray]
    refine wpAny_bind (loop_inv (I := fun k y s => ∃ (h : Heap) (tk' : Nat) (us : List Value), y = (none, us.toArray) ∧ s = ⟨h, g, d, tk', os⟩ ∧ Mid hp b ts f0 i k h ∧ h.get? (b + ts.length + 2) = some (zipO f0 (.bool true) (b + ts.length) (b + ts.length + 1)) ∧
        h.get? (b + ts.length + 1) = some (tupO l) ∧ us.length = k ∧
        ∀ (j : Nat) (v : Str × Tok), j < k → ts[j]? = some v → ∃ (c : Nat) (u : Tok), v.1.cps[i]? = some c ∧ us[j]? = some (Value.str ⟨#[c]⟩ u)) _ 0 _ _ ⟨hA, tk, [], rfl, rfl, M0, hz0', hT0, rfl, fun j v hj => absurd hj (Nat.not_lt_zero _)⟩ ?_ ?_)
    · rintro k x y s hk ⟨h, tk', us, rfl, rfl, M, hz, hU, hul, hgot⟩
      simp only [Nat.zero_add] at M hgot hul ⊢
      obtain ⟨hkl, ex⟩ := refs_get hk
      subst ex
      have hv : ts[k]? = some ts[k] := List.getElem?_eq_getElem hkl
      refine wpAny_bind (wpAny_holding ?_)
      show wpAny _ _ (Builtin.SmallTypes.nextOf (.ref (b + k)) >>= _) _ _ ⟨h, g, d, tk', os⟩
      refine wpAny_bind (draw_ok hh M hv (hi k _ hv) fun c u h' tk2 hc M' sb => wpAny_pure ?_)
      refine wpAny_pure ⟨_, rfl, h', tk2, us ++ [.str ⟨#[c]⟩ u], by simp, rfl, M', (sb.2 (b + ts.length + 2) (nn (by omega))).trans hz, (sb.2 (b + ts.length + 1) (nn (by omega))).trans hU, by rw [List.length_append, hul]; rfl, fun j v hj hjv => ?_⟩
      by_cases hjk : j = k
      · subst hjk
        rw [hv] at hjv
        cases hjv
        exact ⟨c, u, hc, by rw [List.getElem?_append_right (by omega), hul]; simp⟩
      · obtain ⟨c', u', e1, e2⟩ := hgot j v (by omega) hjv
        exact ⟨c', u', e1, by rw [List.getElem?_append_left (by omega)]; exact e2⟩
    · rintro y s ⟨h, tk', us, rfl, rfl, M, hz, hU, hul, hgot⟩
      have el : 0 + (refs b ts.length).length = ts.length := by
        simp [refs_length]
      rw [el] at M hgot hul
      refine wpAny_bind (wpAny_newTuple (wpAny_pure ⟨_, rfl, ?_⟩) (by simp; rw [hul]; exact Nat.le_trans h8 (by decide)))
      obtain ⟨f1, Z1⟩ := M.fin
      have hsz : h.objs.size = hp.objs.size := M.out.1
      have hzl : b + ts.length + 2 < h.objs.size := Heap.lt_size Z1.zip
      have up : ∀ (c : Nat) (o : Obj), h.get? c = some o → (h.push (tupO us)).get? c = some o := fun c o e => Heap.get?_push_of_some _ e
      show Q (.ref h.objs.size) ⟨h.push (tupO us), g, d, tk', os⟩
      have hnew : (h.push (tupO us)).get? h.objs.size = some (tupO us) := Heap.get?_push_size _ rfl
      rw [hsz] at hnew ⊢
      refine hQ us _ tk' ⟨hul, fun k v hk => hgot k v (List.getElem?_eq_some_iff.mp hk).1 hk⟩ ⟨⟨_, true, ⟨up _ _ hz, up _ _ Z1.its, fun k v hk => ?_⟩, hf⟩, _, up _ _ hU, hl⟩ hnew fun c o hc e => up c o (M.out.2 c o hc e)
      obtain ⟨o, ho, r⟩ := Z1.txt k v hk
      exact ⟨o, up _ _ ho, r⟩
end
end TH
end
section
set_option Elab.async false
set_option maxRecDepth 100000
set_option maxHeartbeats 4000000
namespace TH
open PySem PySem.Spec PyProof.Rows L2
section
variable {prog : Program} {w : World} {A : Around} {E : Value → Shared → Prop}
theorem loop_first {α β : Type} {f : α → β → Sem (ForInStep β)} {Q : β → Shared → Prop} {x : α} {r : List α} {y : β} {s : Shared} (h : wpAny (model prog w) A (f x y) (fun _ _ => False) E s) : wpAny (model prog w) A (forIn (x :: r) y f) Q E s := by
  rw [List.forIn_cons]
  exact wpAny_bind (wpAny_mono h (fun _ _ z => z.elim) fun _ _ z => z)
/-- the first iterator is at its end -/
theorem draw_end {s : Shared} {a : Addr} {v : Str × Tok} {Q : Value → Shared → Prop} (hh : A.handled = none) (st : s.heap.IsStrIter a (strIterType v.1) v.1 v.2 v.1.cps.size)
    (hE : ∀ (h' : Heap) (e : Addr), Heap.ExtBut a s.heap h' → (∃ o, h'.get? e = some o ∧ o.cls = .type "StopIteration") → E (.ref e) { s with heap := h' }) : wpAny (model prog w) A (Builtin.SmallTypes.nextOf (.ref a)) Q E s :=
  (Draws.text (prog := prog) (w := w) hh a v.1 v.2).done s _ _ st hE
theorem next_end {hp : Heap} {g : Array GenState} {d : Drawn} {tk : Nat} {os : OsState} {b : Nat} {v : Str × Tok} {ts : Tx} {Q : Fin → Shared → Prop} (hh : A.handled = none) (B : Bet hp b (v :: ts) v.1.cps.size)
    (hE : ∀ (h' : Heap) (e : Addr), (∀ (c : Nat) (o : Obj), (c < b ∨ b + ((v :: ts).length + 2) < c) → hp.get? c = some o → h'.get? c = some o) → (∃ o, h'.get? e = some o ∧ o.cls = .type "StopIteration") → E (.ref e) ⟨h', g, d, tk, os⟩) :
    wpAny (model prog w) A (Builtin.«zip.__next__» ⟨[.ref (b + (v :: ts).length + 2)], []⟩) Q E ⟨hp, g, d, tk, os⟩ := by
  obtain ⟨⟨f0, fb, Z, hf⟩, l, hT, hl⟩ := B
  show wpAny _ _ (field (.ref _) 2 >>= _) _ _ _
  refine wpAny_bind (wpAny_field Z.zip rfl (x := .bool false) rfl ?_)
  show wpAny _ _ (field (.ref _) 3 >>= _) _ _ _
  refine wpAny_bind (wpAny_field Z.zip rfl (x := .ref (b + (v :: ts).length)) rfl ?_)
  refine wpAny_bind (wpAny_seqItems Z.its rfl ?_)
  dsimp only
  rw [if_neg (by rw [refs_ne (by simp)]; exact Bool.false_ne_true)]
  refine wpAny_bind (is_free Z hf ?_ fun hA hs0 hz0 => ?_)
  · rw [if_pos rfl]
    refine wpAny_bind (wpAny_rule ?_)
    refine wpAny_bind (wpAny_field Z.zip rfl (x := .ref (b + (v :: ts).length + 1)) rfl ?_)
    refine wpAny_bind (wpAny_setField_rec Z.zip (by simp) fun g0 hz0 hs0 => ?_)
    replace hs0 : Heap.SameBut (b + (v :: ts).length + 2) hp g0 := hs0
    have st := strIter_other (Z.txt 0 v rfl) hs0 (nn (x := b + 0) (y := b + (v :: ts).length + 2) (by omega))
    refine wpAny_bind ?_
    show wpAny _ _ (forIn ((Value.ref b, 0) :: (refs (b + 1) ts.length).zipIdx 1) _ _) _ _ _
    refine loop_first (wpAny_bind (wpAny_onRaise ?_))
    show wpAny _ _ (Builtin.SmallTypes.nextOf (.ref (b + 0)) >>= _) _ _ ⟨g0, g, d, tk, os⟩
    refine wpAny_bind (draw_end hh st fun q e hq he => ?_)
    replace hq : Heap.ExtBut (b + 0) g0 q := hq
    obtain ⟨oe, hoe, hce⟩ := he
    have hzq : q.get? (b + (v :: ts).length + 2) = some (zipO .ellipsis (.bool fb) (b + (v :: ts).length) (b + (v :: ts).length + 1)) := hq _ _ (nn (x := b + (v :: ts).length + 2) (y := b + 0) (by omega)) hz0
    have hez : e ≠ b + (v :: ts).length + 2 := fun x => by subst x; rw [hzq] at hoe; cases hoe; simp at hce
    refine wpAny_setField_rec (s := ⟨q, g, d, tk, os⟩) hzq (by simp) fun q' _ hq' => ?_
    replace hq' : Heap.SameBut (b + (v :: ts).length + 2) q q' := hq'
    exact hE q' e (fun c o hc x => (hq'.2 c (nn (by omega))).trans (hq _ _ (nn (x := c) (y := b + 0) (by omega)) ((hs0.2 c (nn (by omega))).trans x))) ⟨oe, (hq'.2 e hez).trans hoe, hce⟩
  · rw [if_neg Bool.false_ne_true]
    replace hs0 : Heap.SameBut (b + (v :: ts).length + 2) hp hA := hs0
    have st := strIter_other (Z.txt 0 v rfl) hs0 (nn (x := b + 0) (y := b + (v :: ts).length + 2) (by omega))
    dsimp only
    rw [List.forIn_toArray]
    refine wpAny_bind ?_
    show wpAny _ _ (forIn (Value.ref b :: refs (b + 1) ts.length) _ _) _ _ _
    refine loop_first (wpAny_bind (wpAny_holding ?_))
    show wpAny _ _ (Builtin.SmallTypes.nextOf (.ref (b + 0)) >>= _) _ _ ⟨hA, g, d, tk, os⟩
    refine wpAny_bind (draw_end hh st fun q e hq he => ?_)
    replace hq : Heap.ExtBut (b + 0) hA q := hq
    exact hE q e (fun c o hc x => hq _ _ (nn (x := c) (y := b + 0) (by omega)) ((hs0.2 c (nn (by omega))).trans x)) he
theorem pyNext_item {s : Shared} {b : Nat} {ts : Tx} {i : Nat} {Q : Option Value → Shared → Prop} (hh : A.handled = none) (B : Bet s.heap b ts i) (h1 : 0 < ts.length) (h8 : ts.length ≤ 8)
    (hi : ∀ (k : Nat) (v : Str × Tok), ts[k]? = some v → i < v.1.cps.size) (hQ : Nxt s.heap s.gens s.drawn s.os b ts i (fun v s' => Q (some v) s')) : wpAny (model prog w) A (pyNext (.ref (b + ts.length + 2))) Q E s := by
  obtain ⟨⟨f0, fb, Z, hf⟩, l, hT, hl⟩ := id B
  have hty : s.TypeIs (.ref (b + ts.length + 2)) "zip" := ⟨_, Z.zip, rfl⟩
  unfold pyNext
  refine wpAny_bind (wpAny_attempt (wpAny_callSpecial?_slot (name := Str.ofString "__next__") hty F.slot_zip_next
    (wpAny_call_entry F.slot_zip_next hty F.entry_zip_next (next_item (A := A.in1) hh B h1 h8 hi fun us h' tk' c1 c2 c3 c4 => wpAny_pure (hQ us h' tk' c1 c2 c3 c4)) (F.args_zip_next_1 _))))
theorem pyNext_end {s : Shared} {b : Nat} {v : Str × Tok} {ts : Tx} {Q : Option Value → Shared → Prop} (hh : A.handled = none) (B : Bet s.heap b (v :: ts) v.1.cps.size)
    (hQ : ∀ (h' : Heap), (∀ (c : Nat) (o : Obj), (c < b ∨ b + ((v :: ts).length + 2) < c) → s.heap.get? c = some o → h'.get? c = some o) → Q none { s with heap := h' }) : wpAny (model prog w) A (pyNext (.ref (b + (v :: ts).length + 2))) Q E s := by
  obtain ⟨⟨f0, fb, Z, hf⟩, l, hT, hl⟩ := id B
  have hty : s.TypeIs (.ref (b + (v :: ts).length + 2)) "zip" := ⟨_, Z.zip, rfl⟩
  unfold pyNext
  refine wpAny_bind (wpAny_attempt (wpAny_callSpecial?_slot (name := Str.ofString "__next__") hty F.slot_zip_next
    (wpAny_call_entry F.slot_zip_next hty F.entry_zip_next (next_end (A := A.in1) hh B fun h' e hk he => ?_) (F.args_zip_next_1 _))))
  obtain ⟨o, ho, hc⟩ := he
  refine wpAny_bind (wpAny_isInstance (T := "StopIteration") (b := true) ⟨o, ho, hc⟩ isSubtype_stop ?_)
  exact wpAny_pure (hQ _ hk)
end
end TH
end
section
set_option Elab.async false
set_option maxRecDepth 100000
set_option maxHeartbeats 4000000
namespace TH
open PySem PySem.Spec PyProof.Rows L2
/-- the texts xs, m signs each: at turn i a new tuple of their signs there -/
def Itzs (xs : List Str) (m : Nat) : It :=
  ⟨fun i _ => i < m, fun i H x H' => ∃ (T : Addr) (cs : List Nat), x = .ref T ∧ H T = none ∧ H' = upd H T (.tup (cs.map fun c => V.str ⟨#[c]⟩)) ∧ cs.length = xs.length ∧ ∀ (k : Nat) (y : Str), xs[k]? = some y → ∃ c, y.cps[i]? = some c ∧ cs[k]? = some c, fun i _ => i = m⟩
def Tn (xs : List Str) (b : Nat) (i : Nat) (h : Heap) : Prop := ∃ ts : Tx, ts.map Prod.fst = xs ∧ Bet h b ts i
theorem fp_le {b n c : Nat} (h : c ∈ (List.range (n + 3)).map (b + ·)) : b ≤ c ∧ c ≤ b + n + 2 := by
  obtain ⟨k, hk, rfl⟩ := List.mem_map.mp h
  have := List.mem_range.mp hk
  omega
theorem fp_in {b n c : Nat} (h : b ≤ c ∧ c ≤ b + n + 2) : c ∈ (List.range (n + 3)).map (b + ·) := List.mem_map.mpr ⟨c - b, List.mem_range.mpr (by omega), by omega⟩
theorem Bet.kept {h h' : Heap} {b : Nat} {ts : Tx} {i : Nat} (B : Bet h b ts i) (k : ∀ (c : Nat), b ≤ c ∧ c ≤ b + ts.length + 2 → ∀ o, h.get? c = some o → h'.get? c = some o) : Bet h' b ts i := by
  obtain ⟨⟨f0, fb, Z, hf⟩, l, hT, hl⟩ := B
  refine ⟨⟨f0, fb, ⟨k _ (by omega) _ Z.zip, k _ (by omega) _ Z.its, fun j v hj => ?_⟩, hf⟩, l, k _ (by omega) _ hT, hl⟩
  have hjl : j < ts.length := (List.getElem?_eq_some_iff.mp hj).1
  obtain ⟨o, ho, r⟩ := Z.txt j v hj
  exact ⟨o, k (b + j) (by omega) _ ho, r⟩
theorem Bet.obj {h : Heap} {b : Nat} {ts : Tx} {i : Nat} (B : Bet h b ts i) (c : Nat) (hc : b ≤ c ∧ c ≤ b + ts.length + 2) : ∃ o, h.get? c = some o ∧ ∀ v, o.data ≠ .cell v := by
  obtain ⟨⟨f0, fb, Z, hf⟩, l, hT, hl⟩ := B
  by_cases h1 : c = b + ts.length + 2
  · subst h1
    exact ⟨_, Z.zip, fun v q => nomatch q⟩
  · by_cases h2 : c = b + ts.length + 1
    · subst h2
      exact ⟨_, hT, fun v q => nomatch q⟩
    · by_cases h3 : c = b + ts.length
      · subst h3
        exact ⟨_, Z.its, fun v q => nomatch q⟩
      · have hk : c - b < ts.length := by omega
        obtain ⟨o, ho, _, hd⟩ := Z.txt (c - b) _ (List.getElem?_eq_getElem hk)
        have e : b + (c - b) = c := by omega
        rw [e] at ho
        exact ⟨o, ho, fun v q => by rw [hd] at q; cases q⟩
theorem sgn_vals : ∀ (us : List Value) (cs : List Nat), us.length = cs.length → (∀ (k c : Nat), cs[k]? = some c → ∃ u, us[k]? = some (Value.str ⟨#[c]⟩ u)) → Vals (cs.map fun c => V.str ⟨#[c]⟩) us
  | [], [], _, _ => .nil
  | [], _ :: _, e, _ => by simp at e
  | _ :: _, [], e, _ => by simp at e
  | x :: us, c :: cs, e, h => by
    obtain ⟨u, hu⟩ := h 0 c rfl
    have hx : x = Value.str ⟨#[c]⟩ u := by simpa using hu
    refine .cons ⟨u, hx⟩ (sgn_vals us cs (by simpa using e) fun k c' hk => ?_)
    simpa using h (k + 1) c' (by simpa using hk)
/-- the signs that a column holds -/
theorem col_signs : ∀ (ts : Tx) (i : Nat) (us : List Value), ColAt ts i us → ∃ cs : List Nat, us.length = cs.length ∧ (∀ (k c : Nat), cs[k]? = some c → ∃ u, us[k]? = some (Value.str ⟨#[c]⟩ u)) ∧ cs.length = ts.length ∧ ∀ (k : Nat) (v : Str × Tok), ts[k]? = some v → ∃ c, v.1.cps[i]? = some c ∧ cs[k]? = some c
  | [], i, us, ⟨h1, h2⟩ => ⟨[], h1, fun k c hk => by simp at hk, rfl, fun k v hk => by simp at hk⟩
  | v :: ts, i, [], ⟨h1, h2⟩ => by simp at h1
  | v :: ts, i, x :: us, ⟨h1, h2⟩ => by
    obtain ⟨c, u, hc, hx⟩ := h2 0 v rfl
    obtain ⟨cs, e1, e2, e3, e4⟩ := col_signs ts i us ⟨by simpa using h1, fun k w hk => by simpa using h2 (k + 1) w (by simpa using hk)⟩
    refine ⟨c :: cs, by simp [e1], fun k c' hk => ?_, by simp [e3], fun k w hk => ?_⟩
    · cases k with
      | zero =>
        have : c = c' := by simpa using hk
        subst this
        exact ⟨u, by simpa using hx⟩
      | succ k => simpa using e2 k c' (by simpa using hk)
    · cases k with
      | zero =>
        have : v = w := by simpa using hk
        subst this
        exact ⟨c, hc, rfl⟩
      | succ k => simpa using e4 k w (by simpa using hk)
theorem self_zip {prog : Program} {w : World} {A : Around} {E : Value → Shared → Prop} {s : Shared} {z TI TO : Addr} {f0 f1 : Value} {Q : Value → Shared → Prop} (hz : s.heap.get? z = some (zipO f0 f1 TI TO)) (h : Q (.ref z) s) : wpAny (model prog w) A (pyIter (.ref z)) Q E s := by
  have ty : s.TypeIs (.ref z) "zip" := ⟨_, hz, rfl⟩
  refine wpAny_pyIter_slot ty F.slot_zip_iter (wpAny_call_entry F.slot_zip_iter ty F.entry_zip_iter (show wpAny _ _ (ret (.ref z)) _ _ s from ?_) (F.args_zip_iter_1 _))
  exact wpAny_pure ⟨_, rfl, "zip", _, ty, F.slot_zip_next.lookup, h⟩
theorem turn_zips {P : Program} {w : World} {K : PySem.W.Frag} {nm : Str} {np : Pos} {xs : List Str} {m b : Nat} (h1 : 0 < xs.length) (h8 : xs.length ≤ 8) (hm : ∀ x ∈ xs, x.cps.size = m) :
    Turn P w K (.Name nm np) (Itzs xs m) ((List.range (xs.length + 3)).map (b + ·)) (b + xs.length + 2) (Tn xs b) where
  mem := fp_in (by omega)
  obj := fun i h st c hc => by
    obtain ⟨ts, rfl, B⟩ := st
    have q := fp_le hc
    rw [List.length_map] at q
    exact B.obj c q
  keep := fun i h h' st k => by
    obtain ⟨ts, rfl, B⟩ := st
    refine ⟨ts, rfl, B.kept fun c hc o e => k c (fp_in ?_) o e⟩
    rw [List.length_map]
    exact hc
  item := by
    intro X hP hw hK hc i pins s σ H E I hf st hg
    subst hP hw hK
    obtain ⟨ts, rfl, B⟩ := st
    rw [List.length_map] at h1 h8 hf ⊢
    have hin : ∀ (c : Nat), b ≤ c ∧ c ≤ b + ts.length + 2 → c ∈ (List.range (ts.length + 3)).map (b + ·) := fun c q => fp_in q
    refine pyNext_item (I.ok.hd hc) B h1 h8 (fun k v hk => ?_) fun us h' tk' cu B' hT kp => ?_
    · rw [hm v.1 (List.mem_map.mpr ⟨v, List.mem_of_getElem? hk, rfl⟩)]
      exact hg
    · obtain ⟨cs, e1, e2, e3, e4⟩ := col_signs ts i us cu
      refine ⟨_, rfl, wpAny_pure ?_⟩
      have hlen : cs.length ≤ sizeLine := Nat.le_trans (by rw [e3]; exact h8) (by decide)
      have new : ObjOk X.prog X.w (upd H s.heap.objs.size (.tup (cs.map fun c => V.str ⟨#[c]⟩))) h' s.heap.objs.size (.tup (cs.map fun c => V.str ⟨#[c]⟩)) :=
        ⟨by rw [List.length_map]; exact hlen, us, sgn_vals us cs e1 e2, ⟨_, hT, rfl, _, rfl⟩⟩
      have I1 : Inv X pins σ (upd H s.heap.objs.size (.tup (cs.map fun c => V.str ⟨#[c]⟩))) { s with heap := h', toks := tk' } :=
        I.turnedNew (t' := tk') (ch := (List.range (ts.length + 3)).map (b + ·)) (fun c o hc q => kp c o (Classical.byContradiction fun z => hc (hin c (by omega))) q) hf (Nat.le_refl _) new
      refine ⟨.ref s.heap.objs.size, _, I1, rfl, ⟨_, cs, rfl, I.hok.fresh (Nat.le_refl _), rfl, by rw [List.length_map]; exact e3, fun k y hk => ?_⟩, ⟨ts, rfl, B'⟩, fun c hcm => ?_⟩
      · rw [List.getElem?_map] at hk
        cases hv : ts[k]? with
        | none => simp [hv] at hk
        | some v =>
          simp [hv] at hk
          subst hk
          exact e4 k v hv
      · obtain ⟨o, ho, _⟩ := B.obj c (fp_le hcm)
        rw [upd_ne (Nat.ne_of_lt (Heap.lt_size ho))]
        exact (hf c hcm).1
  done := by
    intro X hP hw hK hc i pins s σ H E I hf st hg
    subst hP hw hK
    obtain ⟨ts, rfl, B⟩ := st
    cases ts with
    | nil => exact absurd h1 (by simp)
    | cons v ts =>
      have hv : v.1.cps.size = m := hm v.1 (by simp)
      have hi : i = v.1.cps.size := by rw [hv]; exact hg
      subst hi
      rw [List.length_map] at hf ⊢
      refine pyNext_end (I.ok.hd hc) B fun h' kp => ⟨rfl, I.turnedL (t' := s.toks) (ch := (List.range ((v :: ts).length + 3)).map (b + ·)) (fun c o hc q => kp c o (Classical.byContradiction fun z => hc (fp_in (by omega))) q) hf⟩
  self := fun A i s Q E st h => by
    obtain ⟨ts, rfl, ⟨f0, fb, Z, hf⟩, l, hT, hl⟩ := st
    rw [List.length_map] at h ⊢
    exact self_zip Z.zip h
/-- zip(*e), e a tuple or a list of texts of one length -/
def iZips (K : PySem.W.Frag) (te : TE) : TI := fun σ H R => te σ H fun y H1 => ∃ (a : Addr) (xs : List Str) (m : Nat), y = .ref a ∧ (SqT K H1 a (xs.map V.str) ∨ SqL K H1 a (xs.map V.str)) ∧ 0 < xs.length ∧ xs.length ≤ 8 ∧ (∀ x ∈ xs, x.cps.size = m) ∧ R (Itzs xs m) H1
theorem tx_of : ∀ (xs : List Str) (us : List Value), Vals (xs.map V.str) us → ∃ ts : Tx, us = txv ts ∧ ts.map Prod.fst = xs
  | [], us, h => by cases h; exact ⟨[], rfl, rfl⟩
  | x :: xs, us, h => by
    cases h with
    | @cons _ u _ ur ru rr =>
      obtain ⟨t, rfl⟩ := ru
      obtain ⟨ts, rfl, e⟩ := tx_of xs ur rr
      exact ⟨(x, t) :: ts, rfl, by rw [List.map_cons, e]⟩
theorem pi_zips {X : Cx} {nm : Str} {np : Pos} {e : Expr} {te : TE} {p sp pos : Pos} (hg : Gl X "zip") (hm : X.mg "zip" = none) (he : PE X e te) (hst : starEach [.Starred e sp] X.env = [(true, eval e X.env)] := by rfl) :
    PI X (.Name nm np) (.Call (.Name "zip" p) [.Starred e sp] [] pos) (iZips X.K te) := by
  refine ⟨fun pins s σ H R I h => ?_⟩
  refine wpAny_Call_Name_kw (ld_blt I hg hm PyProof.Rows.boot_zip ?_)
  rw [hst]
  refine PySem.W.ks_call (P := fun _ => True) rfl (fun hp _ => ⟨Keeper.machine, .inr (.inl rfl), PySem.W.Looks.of_pure rfl⟩) (PySem.W.ks_lone (thn (he.run pins s σ H _ I h) fun v s1 ⟨y, H1, I1, ry, a, xs, m, ey, hx, h1, h8, hm', q⟩ => ?_))
  subst ey
  obtain rfl : v = Value.ref a := ry
  refine StX.star_any I1 hx fun us s2 I2 rv => ⟨trivial, ?_⟩
  obtain ⟨ts, rfl, ex⟩ := tx_of xs us rv
  have hl : ts.length = xs.length := by rw [← ex, List.length_map]
  refine call_zip ts (by rw [hl]; exact h8) ?_
  have old : ∀ c o, s2.heap.get? c = some o → (zheap s2.heap ts).get? c = some o := fun c o e => zheap_old e
  have I3 : Inv X pins σ H1 { s2 with heap := zheap s2.heap ts } := I2.kept (t' := s2.toks) old
  obtain ⟨Z, l, hl2, hT⟩ := zheap_at s2.heap ts
  refine self_zip Z.zip ?_
  refine ⟨s2.heap.objs.size + ts.length + 2, (List.range (xs.length + 3)).map (s2.heap.objs.size + ·), Tn xs s2.heap.objs.size, Itzs xs m, H1, rfl, I3, ?_, ⟨ts, ex, ⟨⟨_, false, Z, .inl rfl⟩, l, hT, hl2⟩⟩, fun c hc => ?_, q⟩
  · rw [hl]
    exact turn_zips h1 h8 hm'
  · have hle := (fp_le hc).1
    exact I2.fpOk hle (I2.hok.fresh hle)
end TH
end
section
set_option Elab.async false
set_option maxRecDepth 100000
set_option maxHeartbeats 4000000
set_option linter.all false
namespace TH
open PySem PySem.Spec PyProof.Rows L2
theorem meets_enum_any {v : Value} {o : Obj} {H : Heap → Prop} (B : Begins v o H) :
    Meets (Builtin.«enumerate.__new__» ⟨[.type "enumerate", v], []⟩) (fun _ R s => H s.heap ∧
      R (.ok (.ret (.ref (s.heap.push o).objs.size))) { s with heap := (s.heap.push o).push { cls := .type "enumerate", data := .fields #[.none, .bool false, .ref s.heap.objs.size, rawInt 0, .none, .none] } }) :=
  .of_wp fun prog w A R s hR => by
    obtain ⟨hp, g, d, tk, os⟩ := s
    obtain ⟨hH, hR⟩ := hR
    have hsub := sub_enumerate
    have it1 : ∀ {A' : Around} {E : Value → Shared → Prop} {Q : Value → Shared → Prop}, Q (.ref hp.objs.size) ⟨hp.push o, g, d, tk, os⟩ → wpAny (model prog w) A' (pyIter v) Q E ⟨hp, g, d, tk, os⟩ :=
      fun q => B.iter prog w _ _ ⟨hp, g, d, tk, os⟩ _ hH q
    wp_walk using it1
    refine wpAny_stack_any fun st => wpAny_pure ?_
    split
    · rename_i c _ _ _ _ _
      cases (c == Value.type "enumerate")
      all_goals
        wp_walk using it1
        exact ⟨_, rfl, hR⟩
    · wp_walk using it1
      exact ⟨_, rfl, hR⟩
theorem enum_any {prog : Program} {w : World} {A : Around} {E : Value → Shared → Prop} {s : Shared} {v : Value} {o : Obj} {H : Heap → Prop} {Q : Value → Shared → Prop} (B : Begins v o H) (hH : H s.heap)
    (h : ∀ h', IsEnum h' (s.heap.objs.size + 1) s.heap.objs.size 0 .none → h'.get? s.heap.objs.size = some o → (∀ b o, s.heap.get? b = some o → h'.get? b = some o) → Q (.ref (s.heap.objs.size + 1)) { s with heap := h' }) :
    wpAny (model prog w) A (call (.type "enumerate") [v]) Q E s := by
  refine callType_new F.called_enumerate (by decide) (F.typeCall_enumerate_1 _) (F.newCall_enumerate_1 _) (fun obj => F.args_object_init_2 obj _) F.entry_enumerate_new (meets_enum_any B) ⟨hH, ?_⟩
  have sz : (s.heap.push o).objs.size = s.heap.objs.size + 1 := Heap.size_push ..
  have at1 := Heap.get?_push_size (s.heap.push o) (o := { cls := .type "enumerate", data := .fields #[.none, .bool false, .ref s.heap.objs.size, rawInt 0, .none, .none] }) rfl
  rw [sz] at at1
  show _ ∧ _
  rw [sz]
  exact ⟨⟨_, at1, rfl⟩, h _ at1 (Heap.get?_push_of_some _ (Heap.get?_push_size _ B.free)) fun b o x => Heap.get?_push_of_some _ (Heap.get?_push_of_some _ x)⟩

/-- the signs of a text with their places -/
def Ites (x : Str) : It := ⟨fun i _ => i < x.cps.size, fun i H v H' => ∃ (T : Addr) (c : Nat), v = .ref T ∧ H T = none ∧ H' = upd H T (.tup [.int (i : Nat), .str ⟨#[c]⟩]) ∧ x.cps[i]? = some c, fun i _ => i = x.cps.size⟩
/-- the items of the tuple at a with their places -/
def Itet (K : PySem.W.Frag) (a : Addr) : It :=
  ⟨fun i H => ∃ xs y, SqT K H a xs ∧ xs[i]? = some y, fun i H v H' => ∃ (T : Addr) (y : V), v = .ref T ∧ H T = none ∧ H' = upd H T (.tup [.int (i : Nat), y]) ∧ ∀ xs, SqT K H a xs → xs[i]? = some y, fun i H => ∃ xs, SqT K H a xs ∧ i = xs.length⟩
section
variable {P : Program} {w : World} {K : PySem.W.Frag} {elts : List Expr} {kk : Nat} {tpos : Pos}
theorem turn_enums {x : Str} {t : Tok} (e it : Addr) (hne : e ≠ it) :
    Turn P w K (.Tuple elts kk tpos) (Ites x) [e, it] e (fun i h => (∃ old, IsEnum h e it ((i : Nat) : Int) old) ∧ h.IsStrIter it (strIterType x) x t i) where
  mem := by simp
  obj := fun i h st b hb => by
    obtain ⟨⟨old, he⟩, ⟨o, ho, hc, hd⟩⟩ := st
    rcases (show b = e ∨ b = it by simpa using hb) with z | z
    · rw [z]
      exact ⟨_, he, fun v q => nomatch q⟩
    · rw [z]
      exact ⟨o, ho, fun v q => by rw [hd] at q; cases q⟩
  keep := fun i h h' st k => by
    obtain ⟨⟨old, he⟩, ⟨o, ho, r⟩⟩ := st
    exact ⟨⟨old, k e (by simp) _ he⟩, ⟨o, k it (by simp) _ ho, r⟩⟩
  item := by
    intro X hP hw hK hc i pins s σ H E I hf st hg
    subst hP hw hK
    obtain ⟨⟨old, he⟩, hit⟩ := st
    have hel : e < s.heap.objs.size := Heap.lt_size he
    have hil : it < s.heap.objs.size := by obtain ⟨_, q, _⟩ := hit; exact Heap.lt_size q
    refine wpAny_pyNext_enum_itemD (Draws.text (A := X.A.in1) (I.ok.hd hc) it x t) he hit hg hne (by simpa using hne) fun y h' tk hy ho hit' hT hsz hk => ?_
    obtain ⟨c, u, hcx, rfl⟩ := hy
    refine ⟨_, rfl, wpAny_letOwnedTupleGo_enum (s := { s with heap := h', toks := tk + 1 }) ho fun h'' he' sb => ?_⟩
    have hT2 : h''.get? s.heap.objs.size = some { cls := .type "tuple", data := .seq #[.int i tk, .str ⟨#[c]⟩ u] } := (sb.2 _ (Nat.ne_of_gt hel)).trans hT
    have new : ObjOk X.prog X.w (upd H s.heap.objs.size (.tup [.int (i : Nat), .str ⟨#[c]⟩])) h'' s.heap.objs.size (.tup [.int (i : Nat), .str ⟨#[c]⟩]) :=
      ⟨by show 2 ≤ sizeLine; decide, [.int i tk, .str ⟨#[c]⟩ u], .cons ⟨_, rfl⟩ (.cons ⟨_, rfl⟩ .nil), ⟨_, hT2, rfl, _, rfl⟩⟩
    have I1 : Inv X pins σ (upd H s.heap.objs.size (.tup [.int (i : Nat), .str ⟨#[c]⟩])) { s with heap := h'', toks := tk + 1 } :=
      I.turnedNew (ch := [e, it]) (fun b ob hb q => (sb.2 b (fun z => hb (by simp [z]))).trans (hk b ob (fun z => hb (by simp [z])) (fun z => hb (by simp [z])) q)) hf (Nat.le_refl _) new
    refine ⟨.ref s.heap.objs.size, _, I1, rfl, ⟨_, c, rfl, I.hok.fresh (Nat.le_refl _), rfl, hcx⟩, ⟨⟨Value.str ⟨#[c]⟩ u, ?_⟩, strIter_other hit' sb (Ne.symm hne)⟩, fun b hb => ?_⟩
    · have e1 : ((i + 1 : Nat) : Int) = (i : Int) + 1 := by omega
      rw [e1]
      exact he'
    · have hb' : b < s.heap.objs.size := by
        rcases (show b = e ∨ b = it by simpa using hb) with z | z
        · rw [z]; exact hel
        · rw [z]; exact hil
      rw [upd_ne (Nat.ne_of_lt hb')]
      exact (hf b hb).1
  done := by
    intro X hP hw hK hc i pins s σ H E I hf st hg
    subst hP hw hK
    obtain ⟨⟨old, he⟩, hit⟩ := st
    obtain ⟨f0, f1, f2, f3, f4, f5⟩ := hf it (by simp)
    have hi : i = x.cps.size := hg
    subst hi
    exact wpAny_pyNext_enum_endD (Draws.text (A := X.A.in1) (I.ok.hd hc) it x t) he hit fun h' eb => ⟨rfl, I.turned (t' := s.toks) (fun b o hb q => eb b o hb q) f0 f1 f3 f4 f5⟩
  self := fun A i s Q E st h => by
    obtain ⟨⟨_, he⟩, _⟩ := st
    exact wpAny_pyIter_enum he h
theorem turn_enumt {a : Addr} (e it : Addr) (hne : e ≠ it) (hae : a ≠ e) (hai : a ≠ it) :
    Turn P w K (.Tuple elts kk tpos) (Itet K a) [e, it] e (fun i h => (∃ old, IsEnum h e it ((i : Nat) : Int) old) ∧ h.IsTupleIter it a i) where
  mem := by simp
  obj := fun i h st b hb => by
    obtain ⟨⟨old, he⟩, ⟨o, ho, hc, hd⟩⟩ := st
    rcases (show b = e ∨ b = it by simpa using hb) with z | z
    · rw [z]
      exact ⟨_, he, fun v q => nomatch q⟩
    · rw [z]
      exact ⟨o, ho, fun v q => by rw [hd] at q; cases q⟩
  keep := fun i h h' st k => by
    obtain ⟨⟨old, he⟩, ⟨o, ho, r⟩⟩ := st
    exact ⟨⟨old, k e (by simp) _ he⟩, ⟨o, k it (by simp) _ ho, r⟩⟩
  item := by
    intro X hP hw hK hc i pins s σ H E I hf st hg
    subst hP hw hK
    obtain ⟨⟨old, he⟩, hit⟩ := st
    obtain ⟨xs, y, hq, hx⟩ := hg
    obtain ⟨its, rv, p, hz⟩ := I.tuple hq
    obtain ⟨u, hu, ru⟩ := rv.get hx
    have hel : e < s.heap.objs.size := Heap.lt_size he
    have hil : it < s.heap.objs.size := by obtain ⟨_, q, _⟩ := hit; exact Heap.lt_size q
    have hlt : i < its.toArray.size := by rw [List.size_toArray]; exact (List.getElem?_eq_some_iff.mp hu).1
    refine wpAny_pyNext_enum_itemD (St := fun i h => h.IsTupleIter it a i ∧ h.IsTuple a its.toArray) (Draws.tuple (A := X.A.in1) (I.ok.hd hc) it a hai its.toArray) he ⟨hit, p⟩ hlt hne (by simp [hne, Ne.symm hae]) fun y' h' tk hy ho hit' hT hsz hk => ?_
    have ey : y' = u := by
      have hy' : its.toArray[i]? = some y' := hy
      rw [List.getElem?_toArray, hu] at hy'
      exact (Option.some.inj hy').symm
    subst ey
    refine ⟨_, rfl, wpAny_letOwnedTupleGo_enum (s := { s with heap := h', toks := tk + 1 }) ho fun h'' he' sb => ?_⟩
    have hT2 : h''.get? s.heap.objs.size = some { cls := .type "tuple", data := .seq #[.int i tk, y'] } := (sb.2 _ (Nat.ne_of_gt hel)).trans hT
    have new : ObjOk X.prog X.w (upd H s.heap.objs.size (.tup [.int (i : Nat), y])) h'' s.heap.objs.size (.tup [.int (i : Nat), y]) :=
      ⟨by show 2 ≤ sizeLine; decide, [.int i tk, y'], .cons ⟨_, rfl⟩ (.cons ru .nil), ⟨_, hT2, rfl, _, rfl⟩⟩
    have I1 : Inv X pins σ (upd H s.heap.objs.size (.tup [.int (i : Nat), y])) { s with heap := h'', toks := tk + 1 } :=
      I.turnedNew (ch := [e, it]) (fun b ob hb q => (sb.2 b (fun z => hb (by simp [z]))).trans (hk b ob (fun z => hb (by simp [z])) (fun z => hb (by simp [z])) q)) hf (Nat.le_refl _) new
    refine ⟨.ref s.heap.objs.size, _, I1, rfl, ⟨_, y, rfl, I.hok.fresh (Nat.le_refl _), rfl, fun ys hy => by rw [I.tuple_inj hy hq]; exact hx⟩, ⟨⟨y', ?_⟩, ?_⟩, fun b hb => ?_⟩
    · have e1 : ((i + 1 : Nat) : Int) = (i : Int) + 1 := by omega
      rw [e1]
      exact he'
    · obtain ⟨o, ho2, r⟩ := hit'.1
      exact ⟨o, (sb.2 it (Ne.symm hne)).trans ho2, r⟩
    · have hb' : b < s.heap.objs.size := by
        rcases (show b = e ∨ b = it by simpa using hb) with z | z
        · rw [z]; exact hel
        · rw [z]; exact hil
      rw [upd_ne (Nat.ne_of_lt hb')]
      exact (hf b hb).1
  done := by
    intro X hP hw hK hc i pins s σ H E I hf st hg
    subst hP hw hK
    obtain ⟨⟨old, he⟩, hit⟩ := st
    obtain ⟨f0, f1, f2, f3, f4, f5⟩ := hf it (by simp)
    obtain ⟨xs, hq, hi⟩ := hg
    obtain ⟨its, rv, p, hz⟩ := I.tuple hq
    have hi2 : i = its.toArray.size := by rw [List.size_toArray, hi, rv.length]
    subst hi2
    exact wpAny_pyNext_enum_endD (St := fun i h => h.IsTupleIter it a i ∧ h.IsTuple a its.toArray) (Draws.tuple (A := X.A.in1) (I.ok.hd hc) it a hai its.toArray) he ⟨hit, p⟩ fun h' eb => ⟨rfl, I.turned (t' := s.toks) (fun b o hb q => eb b o hb q) f0 f1 f3 f4 f5⟩
  self := fun A i s Q E st h => by
    obtain ⟨⟨_, he⟩, _⟩ := st
    exact wpAny_pyIter_enum he h
end
def iEnumS (ta : TA) : TI := fun σ H R => ta σ H fun vs H1 => ∃ x, vs = [.str x] ∧ R (Ites x) H1
def iEnumT (K : PySem.W.Frag) (ta : TA) : TI := fun σ H R => ta σ H fun vs H1 => ∃ a xs, vs = [.ref a] ∧ SqT K H1 a xs ∧ R (Itet K a) H1
section
variable {X : Cx} {e : Expr} {ta : TA} {p pos tpos : Pos} {elts : List Expr} {kk : Nat}
theorem pi_enumS (hg : Gl X "enumerate") (hm : X.mg "enumerate" = none) (ha : PA X [e] ta) (hs : starEach [e] X.env = [(false, eval e X.env)] := by rfl) : PI X (.Tuple elts kk tpos) (.Call (.Name "enumerate" p) [e] [] pos) (iEnumS ta) := by
  refine ⟨fun pins s σ H R I h => ?_⟩
  refine Call_ (ld_blt I hg hm boot_enumerate (PyProof.Rows.callWith_type1 (thn (ha.run pos pins s σ H _ I h) fun us s1 ⟨vs, H1, I1, r1, x, ex, q⟩ => ?_) hs rfl))
  subst ex
  cases r1 with
  | @cons _ u _ _ r rr =>
    cases rr
    obtain ⟨t, rfl⟩ := r
    refine enum_any (begins_text x t) trivial fun h' he hit hk => wpAny_pyIter_enum he ?_
    have I2 : Inv X pins σ H1 { s1 with heap := h' } := I1.kept (t' := s1.toks) hk
    refine ⟨s1.heap.objs.size + 1, [s1.heap.objs.size + 1, s1.heap.objs.size], _, _, H1, rfl, I2, turn_enums (x := x) (t := t) _ _ (Nat.succ_ne_self _), ⟨⟨.none, he⟩, ⟨_, hit, rfl, rfl⟩⟩, fun b hb => ?_, q⟩
    have hle : s1.heap.objs.size ≤ b := by
      rcases (show b = s1.heap.objs.size + 1 ∨ b = s1.heap.objs.size by simpa using hb) with z | z
      · rw [z]; exact Nat.le_add_right _ _
      · rw [z]; exact Nat.le_refl _
    exact I1.fpOk hle (I1.hok.fresh hle)
theorem pi_enumT (hg : Gl X "enumerate") (hm : X.mg "enumerate" = none) (ha : PA X [e] ta) (hs : starEach [e] X.env = [(false, eval e X.env)] := by rfl) : PI X (.Tuple elts kk tpos) (.Call (.Name "enumerate" p) [e] [] pos) (iEnumT X.K ta) := by
  refine ⟨fun pins s σ H R I h => ?_⟩
  refine Call_ (ld_blt I hg hm boot_enumerate (PyProof.Rows.callWith_type1 (thn (ha.run pos pins s σ H _ I h) fun us s1 ⟨vs, H1, I1, r1, a, xs, ex, hq, q⟩ => ?_) hs rfl))
  subst ex
  cases r1 with
  | @cons _ u _ _ r rr =>
    cases rr
    obtain rfl : u = Value.ref a := r
    obtain ⟨its, rv, p', hz⟩ := I1.tuple hq
    have hal : a < s1.heap.objs.size := by obtain ⟨_, z, _⟩ := p'; exact Heap.lt_size z
    refine enum_any (begins_tuple a its.toArray) p' fun h' he hit hk => wpAny_pyIter_enum he ?_
    have I2 : Inv X pins σ H1 { s1 with heap := h' } := I1.kept (t' := s1.toks) hk
    refine ⟨s1.heap.objs.size + 1, [s1.heap.objs.size + 1, s1.heap.objs.size], _, _, H1, rfl, I2, turn_enumt (a := a) _ _ (Nat.succ_ne_self _) (Nat.ne_of_lt (Nat.lt_succ_of_lt hal)) (Nat.ne_of_lt hal), ⟨⟨.none, he⟩, ⟨_, hit, rfl, rfl⟩⟩, fun b hb => ?_, q⟩
    have hle : s1.heap.objs.size ≤ b := by
      rcases (show b = s1.heap.objs.size + 1 ∨ b = s1.heap.objs.size by simpa using hb) with z | z
      · rw [z]; exact Nat.le_add_right _ _
      · rw [z]; exact Nat.le_refl _
    exact I1.fpOk hle (I1.hok.fresh hle)
end
/-- enumerate in a for: an instance of Walk -/
theorem walk_enumS {x : Str} : Walk (Ites x) x.cps.size (fun _ => True) (fun i H v H' => ∃ (T : Addr) (c : Nat), v = .ref T ∧ H T = none ∧ H' = upd H T (.tup [.int (i : Nat), .str ⟨#[c]⟩]) ∧ x.cps[i]? = some c) :=
  ⟨fun i H hi _ => hi, fun H _ => rfl, fun i H v H' hi _ y => y⟩
theorem walk_enumT {K : PySem.W.Frag} {a : Addr} {xs : List V} : Walk (Itet K a) xs.length (fun H => SqT K H a xs) (fun i H v H' => ∃ (T : Addr) (y : V), v = .ref T ∧ H T = none ∧ H' = upd H T (.tup [.int (i : Nat), y]) ∧ xs[i]? = some y) :=
  ⟨fun i H hi g => ⟨xs, xs[i], g, List.getElem?_eq_getElem hi⟩, fun H g => ⟨xs, g, rfl⟩, fun i H v H' hi g ⟨T, y, e1, e2, e3, e4⟩ => ⟨T, y, e1, e2, e3, e4 xs g⟩⟩
theorem walk_zips {xs : List Str} {m : Nat} : Walk (Itzs xs m) m (fun _ => True) (fun i H x H' => ∃ (T : Addr) (cs : List Nat), x = .ref T ∧ H T = none ∧ H' = upd H T (.tup (cs.map fun c => V.str ⟨#[c]⟩)) ∧ cs.length = xs.length ∧ ∀ (k : Nat) (y : Str), xs[k]? = some y → ∃ c, y.cps[i]? = some c ∧ cs[k]? = some c) :=
  ⟨fun i H hi _ => hi, fun H _ => rfl, fun i H v H' hi _ y => y⟩
end TH
end
section
set_option Elab.async false
set_option maxRecDepth 100000
set_option maxHeartbeats 4000000
set_option linter.all false
namespace TH
open PySem PySem.Spec PyProof.Rows L2
section
open PySem.W
variable {prog : Program} {w : World} {M : Model} {A : Around} {E : Value → Shared → Prop} {s : Shared} {K : Frag} {x C D f : Addr} {ox : Obj} {od : Option Obj} {nm : String}
/-- the class at D, straight over object, knows nothing of the operator -/
structure NoOp (K : Frag) (D : Addr) (nm : String) : Prop where
  cls : ∃ cd, clsIn K D = some cd ∧ cd.mro = [.ref D, .type "object"]
  f1 : findIn K (.ref D) (PySem.dunder nm) = some none
  r1 : findIn K (.ref D) (dunderR nm) = some none
  f0 : findIn K (.type "object") (PySem.dunder nm) = some none
  r0 : findIn K (.type "object") (dunderR nm) = some none
theorem NoOp.fills {h : Heap} (N : NoOp K D nm) (X : K.In h) : Looks M h (fillsNumberSlot (.ref D) nm) false := by
  intro A Q E s k q
  obtain ⟨cd, hcd, hm⟩ := N.cls
  have X' : K.In s.heap := X.keeps k
  have L1 : Looks M s.heap (typeLookup (.ref D) (PySem.dunder nm)) none := looks_findIn X' N.f1
  have L2 : Looks M s.heap (typeLookup (.ref D) (dunderR nm)) none := looks_findIn X' N.r1
  have L3 : Looks M s.heap (typeLookup (.type "object") (PySem.dunder nm)) none := looks_findIn X' N.f0
  have L4 : Looks M s.heap (typeLookup (.type "object") (dunderR nm)) none := looks_findIn X' N.r0
  unfold fillsNumberSlot
  refine wpAny_bind ((looks_clsIn X' hcd).andThen (f := fun cd => pure cd.mro) .now A _ E s (fun _ _ e => e) ?_)
  rw [hm, List.anyM_cons]
  refine wpAny_bind ?_
  show wpAny M A (List.anyM _ [PySem.dunder nm, dunderR nm]) _ _ _
  rw [List.anyM_cons]
  refine wpAny_bind (wpAny_bind (L1.here (wpAny_pure ?_)))
  rw [if_neg Bool.false_ne_true, List.anyM_cons]
  refine wpAny_bind (wpAny_bind (L2.here (wpAny_pure ?_)))
  rw [if_neg Bool.false_ne_true, List.anyM_nil]
  refine wpAny_pure ?_
  rw [if_neg Bool.false_ne_true, List.anyM_cons]
  refine wpAny_bind (wpAny_bind (L3.here (wpAny_bind (L4.here (wpAny_pure ?_)))))
  show wpAny M A (if false = true then _ else _) _ _ _
  rw [if_neg Bool.false_ne_true, List.anyM_nil]
  exact wpAny_pure q
theorem binop_two {op : Operator} {b : Value} {Q : Value → Shared → Prop} (X : K.In s.heap) (I : InstAt s.heap x ox C od) (hb : Looks (model prog w) s.heap (typeOf b) (.ref D)) (hCD : C ≠ D) (hc : selfFirst K C = true) (N : NoOp K D op.info.2)
    (hs : findIn K (.ref C) (PySem.dunder op.info.2) = some (some (.ref f))) (hf : isFn K (.ref f) = true)
    (h : wpAny (model prog w) A (call (.ref f) [.ref x, b]) (PySem.W.CmpBack Q) E s) : wpAny (model prog w) A (binaryOp op (.ref x) b) Q E s := by
  obtain ⟨cd, rest, hcd, hm⟩ := ksp_first hc
  have hne : (Value.ref C == Value.ref D) = false := by simp [hCD]
  unfold binaryOp
  refine wpAny_holding (wpAny_bind ?_)
  unfold binaryOp1
  refine wpAny_bind (I.type.here (wpAny_bind (hb.here (wpAny_bind ((fills_K X hcd hm hs).here ?_)))))
  simp only [hne, Bool.false_eq_true, if_false]
  refine wpAny_bind ((N.fills X).here ?_)
  simp only [Bool.and_false, Bool.false_eq_true, if_false, Bool.false_and]
  refine wpAny_bind (wpAny_pure ?_)
  simp only [Bool.false_eq_true, if_false, if_true]
  refine wpAny_bind (m := tryMethod (.ref x) _ b) ?_
  unfold tryMethod
  refine wpAny_bind (special_fn X I hs (beq_iff_eq.mp hf) (wpAny_mono h (fun v s' hv => ?_) fun _ _ e => e))
  cases v <;> first | exact hv.elim | exact wpAny_pure (wpAny_pure (wpAny_pure hv))
end
/-- a op b: a an instance of C whose def for it is at g, b one of D -/
def rTwo (C D : Addr) (sp : Sp) (E : XK) : R2 := fun x y H Q => ∃ a dx fs b dy gs, x = .ref a ∧ y = .ref b ∧ H a = some (.ins C dx fs) ∧ H b = some (.ins D dy gs) ∧ sp [x, y] H Q E
/-- C(*e), the class by its name; c(*e), the class in a slot -/
def tMakeS (K : PySem.W.Frag) (C : Addr) (sp : Sp) (E : XK) (te : TE) : TE := fun σ H Q => te σ H fun y H1 => ∃ a xs, y = V.ref a ∧ (SqT K H1 a xs ∨ SqL K H1 a xs) ∧ ∀ x dx, H1 x = Option.none → H1 dx = Option.none → dx ≠ x →
  sp (V.ref x :: xs) (upd (upd H1 dx (.own x)) x (.ins C dx [])) (fun v H2 => v = .non ∧ Q (.ref x) H2) E
section
variable {X : Cx} {CX : CXT} {k : Nat} {f C : Addr} {sp : Sp} {E : XK} {x : Str} {e : Expr} {te tf : TE} {p spo pos : Pos}
theorem pe_makeS (M : Mk X.K C f) (F : FnR X.prog X.w X.K X.mg X.base CX k f sp) (hr : Room (k + 1) X.A) (hg : Gl X x) (hm : X.mg x = some (.ref C)) (hx : Passes CX X E) (he : PE X e te) (hdb : (x == ("__debug__" : Str)) = false := by decide)
    (hst : starEach [.Starred e spo] X.env = [(true, eval e X.env)] := by rfl) : PE X (.Call (.Name x p) [.Starred e spo] [] pos) (tMakeS X.K C sp E te) := by
  refine ⟨fun pins s σ H Q I h => ?_⟩
  refine wpAny_Call_Name_kw (ld_glob I hg hm ?_ hdb)
  refine PySem.W.callWith_S (h₀ := X.base) I.ok.mod.kin M.kp (thn (he.run pins s σ H _ I h) fun v s1 ⟨y, H1, I1, ry, a, xs, ey, hxs, q⟩ => ?_) hst
  subst ey
  obtain rfl : v = Value.ref a := ry
  exact StX.star_any I1 hxs fun us s2 I2 rv => ⟨I2.kIn, StX.run_makeR M F hr hx I2 rv q⟩
/-- the class is what the name of the def holds -/
theorem pe_makeSv (M : Mk X.K C f) (F : FnR X.prog X.w X.K X.mg X.base CX k f sp) (hr : Room (k + 1) X.A) (hf : PE X (.Name x p) tf) (hx : Passes CX X E) (he : PE X e te)
    (hst : starEach [.Starred e spo] X.env = [(true, eval e X.env)] := by rfl) : PE X (.Call (.Name x p) [.Starred e spo] [] pos) (fun σ H Q => tf σ H fun c H1 => c = .ref C ∧ tMakeS X.K C sp E te σ H1 Q) := by
  refine ⟨fun pins s σ H Q I h => ?_⟩
  refine wpAny_Call_Name_kw (thn (hf.run pins s σ H _ I h) fun u s0 ⟨c, H0, I0, rc, ec, h⟩ => ?_)
  subst ec
  obtain rfl : u = Value.ref C := rc
  refine PySem.W.callWith_S (h₀ := X.base) I.ok.mod.kin M.kp (thn (he.run pins s0 σ H0 _ I0 h) fun v s1 ⟨y, H1, I1, ry, a, xs, ey, hxs, q⟩ => ?_) hst
  subst ey
  obtain rfl : v = Value.ref a := ry
  exact StX.star_any I1 hxs fun us s2 I2 rv => ⟨I2.kIn, StX.run_makeR M F hr hx I2 rv q⟩
end
end TH
end
section
set_option Elab.async false
set_option maxRecDepth 100000
set_option maxHeartbeats 4000000
set_option linter.all false
namespace TH
open PySem PySem.Spec PyProof.Rows L2
theorem thnN {α : Type} {n : Nat} {t : Sem α} {Q Q' : α → Shared → Prop} {M : Model} {A : Around} {E : Value → Shared → Prop} {s : Shared} (hn : n ≤ s.toks) (h : wpAny M A t Q E s) (hQ : ∀ a s', n ≤ s'.toks → Q a s' → Q' a s') : wpAny M A t Q' E s :=
  wpAny_mono (wpAny_toks_of hn h) (fun a s' z => hQ a s' z.1 z.2) fun _ _ z => z.2
def PEn (n : Nat) (X : Cx) (e : Expr) (t : TE) : Prop :=
  ∀ (pins : List (Addr × Obj)) (s : Shared) (σ : L2.St) (H : Hp) (Q : VK), n ≤ s.toks → Inv X pins σ H s → t σ H Q → wpAny (model X.prog X.w) X.A (eval e X.env) (EP X pins σ Q) X.xe s
def PTn (n : Nat) (X : Cx) (e : Expr) (t : TT) : Prop :=
  ∀ (pins : List (Addr × Obj)) (s : Shared) (σ : L2.St) (H : Hp) (Q : Bool → Hp → Prop), n ≤ s.toks → Inv X pins σ H s → t σ H Q → wpAny (model X.prog X.w) X.A (isTrue e X.env (eval e X.env)) (TP X pins σ Q) X.xe s
def PAn (n : Nat) (X : Cx) (es : List Expr) (t : TA) : Prop :=
  ∀ (pos : Pos) (pins : List (Addr × Obj)) (s : Shared) (σ : L2.St) (H : Hp) (Q : List V → Hp → Prop), n ≤ s.toks → Inv X pins σ H s → t σ H Q → wpAny (model X.prog X.w) X.A (spliced (backTo pos (starEach es X.env))) (AP X pins σ Q) X.xe s
def PSn (n : Nat) (X : Cx) (st : Stmt) (t : TS) : Prop :=
  ∀ (pins : List (Addr × Obj)) (s : Shared) (σ : L2.St) (H : Hp) (D : Ends), n ≤ s.toks → Inv X pins σ H s → t D σ H → wpAny (model X.prog X.w) X.A (exec st X.env) (SP X pins D) X.xe s
def PSsn (n : Nat) (X : Cx) (st : List Stmt) (t : TS) : Prop :=
  ∀ (pins : List (Addr × Obj)) (s : Shared) (σ : L2.St) (H : Hp) (D : Ends), n ≤ s.toks → Inv X pins σ H s → t D σ H → wpAny (model X.prog X.w) X.A (execs st X.env) (SP X pins D) X.xe s
def OpRn (n : Nat) (X : Cx) (f : Value → Value → Sem Value) (r : R2) : Prop :=
  ∀ (pins : List (Addr × Obj)) (s : Shared) (σ : L2.St) (H : Hp) (x y : V) (v u : Value) (Q : VK), n ≤ s.toks → Inv X pins σ H s → RelV x v → RelV y u → r x y H Q → wpAny (model X.prog X.w) X.A (f v u) (EP X pins σ Q) X.xe s
/-- a def called, its promise kept wherever n tokens are out -/
def FnRn (n : Nat) (P : Program) (w : World) (K : PySem.W.Frag) (mg : Str → Option Value) (base : Heap) (CX : CXT) (k : Nat) (f : Addr) (sp : Sp) : Prop :=
  ∀ (A : Around) (outer : List Env) (s : Shared) (H : Hp) (us : List Value) (vs : List V) (Q : VK) (E : XK), n ≤ s.toks → Room k A → Env0 P w K mg base A outer s H → Vals vs us → sp vs H Q E →
    codeAny (model P w) A (.call (.ref f) ⟨us, []⟩) (CR CX outer P w H s Q E) s
section
variable {X : Cx} {n : Nat}
theorem _root_.L2.PE.up {e : Expr} {t : TE} (h : PE X e t) : PEn n X e t := fun pins s σ H Q _ I q => h.run pins s σ H Q I q
theorem _root_.L2.PT.up {e : Expr} {t : TT} (h : PT X e t) : PTn n X e t := fun pins s σ H Q _ I q => h.run pins s σ H Q I q
theorem _root_.L2.PA.up {es : List Expr} {t : TA} (h : PA X es t) : PAn n X es t := fun pos pins s σ H Q _ I q => h.run pos pins s σ H Q I q
theorem _root_.L2.PS.up {st : Stmt} {t : TS} (h : PS X st t) : PSn n X st t := fun pins s σ H D _ I q => h.run pins s σ H D I q
theorem _root_.L2.PSs.up {st : List Stmt} {t : TS} (h : PSs X st t) : PSsn n X st t := fun pins s σ H D _ I q => h.run pins s σ H D I q
theorem pssn_cons {st : Stmt} {rest : List Stmt} {t u : TS} (h1 : PSn n X st t) (h2 : PSsn n X rest u) : PSsn n X (st :: rest) (tSeq t u) := by
  intro pins s σ H D hn I h
  refine wpAny_execs_cons (thnN hn (h1 pins s σ H { D with nx := u D } hn I h) fun f s1 hn1 q => ?_)
  cases f with
  | next =>
    obtain ⟨σ1, H1, I1, q1⟩ := q
    exact h2 pins s1 σ1 H1 D hn1 I1 q1
  | ret v => exact q
  | brk => exact q
  | cont => exact q
theorem pssn_one {st : Stmt} {t : TS} (h1 : PSn n X st t) : PSsn n X [st] t := by
  intro pins s σ H D hn I h
  refine wpAny_execs_cons (thnN hn (h1 pins s σ H D hn I h) fun f s1 _ q => ?_)
  cases f with
  | next => exact wpAny_execs_nil q
  | ret v => exact q
  | brk => exact q
  | cont => exact q
theorem psn_ret {e : Expr} {te : TE} {pos : Pos} (he : PEn n X e te) : PSn n X (.Return (some e) pos) (tRet te) := fun pins s σ H D hn I h =>
  wpAny_Return_some (thn (he pins s σ H _ hn I h) fun _ _ ⟨x, H1, I1, r1, q1⟩ => ⟨x, σ, H1, I1, r1, q1⟩)
theorem psn_if {c : Expr} {a b : List Stmt} {tc : TT} {t u : TS} {pos : Pos} (hc : PTn n X c tc) (ha : PSsn n X a t) (hb : PSsn n X b u) : PSn n X (.If c a b pos) (tIfS tc t u) := by
  intro pins s σ H D hn I h
  refine wpAny_If (thnN hn (hc pins s σ H _ hn I h) fun d s1 hn1 ⟨H1, I1, q1⟩ => ?_)
  cases d with
  | true => exact ha pins s1 σ H1 D hn1 I1 q1
  | false => exact hb pins s1 σ H1 D hn1 I1 q1
theorem psn_set {i : Nat} {x : Str} {e : Expr} {te : TE} {pos pos' : Pos} (hN : X.N.Nodup) (hi : X.N[i]? = some x) (hx : Loc X.env.scope x) (he : PEn n X e te) (hs : swapsWith e (some (.Name x pos')) pos.line X.env = pure false := by rfl)
    (hf : X.fn x = true ∨ X.env.scope.names.lookup x = some .local := by first | exact .inl rfl | exact .inr rfl | assumption) : PSn n X (.Assign [.Name x pos'] e pos) (tAsg te (gName i)) := fun pins s σ H D hn I h =>
  wpAny_Assign_Name (thn (he pins s σ H _ hn I h) fun _ s1 ⟨y, H1, I1, r1, q1⟩ => store_ok I1 hN hi hx r1 (fun _ I2 => ⟨_, H1, I2, q1⟩) hf) hs
theorem pan_nil : PAn n X [] tNil := pa_nil.up
theorem pan_cons {e : Expr} {es : List Expr} {te : TE} {ta : TA} (he : PEn n X e te) (hr : PAn n X es ta) (hs : starEach (e :: es) X.env = (false, eval e X.env) :: starEach es X.env := by rfl) : PAn n X (e :: es) (tCons te ta) := by
  intro pos pins s σ H Q hn I h
  rw [hs]
  refine Calls.spliced_cons (thnN hn (he pins s σ H _ hn I h) fun v s1 hn1 ⟨x, H1, I1, r1, q1⟩ => ?_)
  exact thn (hr pos pins s1 σ H1 _ hn1 I1 q1) fun us s2 ⟨vs, H2, I2, r2, q2⟩ => ⟨x :: vs, H2, I2, .cons r1 r2, q2⟩
theorem run_fnRn {pins : List (Addr × Obj)} {σ : L2.St} {H : Hp} {s : Shared} {CX : CXT} {k : Nat} {f : Addr} {sp : Sp} {E : XK} {Q : VK} {us : List Value} {vs : List V} (hn : n ≤ s.toks) (F : FnRn n X.prog X.w X.K X.mg X.base CX k f sp) (hr : Room k X.A) (hx : Passes CX X E) (I : Inv X pins σ H s) (r : Vals vs us) (h : sp vs H Q E) :
    codeAny (model X.prog X.w) X.A (.call (.ref f) ⟨us, []⟩) (fun r s' => match r with | .ok (.ret v) => EP X pins σ Q v s' | .ok _ => False | .error e => X.xe e s') s := by
  refine codeAny_mono (F X.A X.stack s H us vs Q E hn hr I.env0 r h) fun r s' hq => ?_
  cases r with
  | error e => exact hx pins σ H s e s' I hq
  | ok fl =>
    cases fl with
    | ret u => exact I.after hq
    | next => exact False.elim hq
    | brk => exact False.elim hq
    | cont => exact False.elim hq
/-- x(e, ..), x a def of the module -/
def tCal (sp : Sp) (E : XK) (t : TA) : TE := fun σ H Q => t σ H fun vs H1 => sp vs H1 Q E
theorem pen_call {CX : CXT} {k : Nat} {f : Addr} {sp : Sp} {E : XK} {x : Str} {e : Expr} {es : List Expr} {t : TA} {p pos : Pos} (F : FnRn n X.prog X.w X.K X.mg X.base CX k f sp) (hr : Room k X.A) (hg : Gl X x) (hm : X.mg x = some (.ref f)) (hk : PySem.W.keepIn X.K (.ref f) = true) (hx : Passes CX X E)
    (ha : PAn n X (e :: es) t) (hdb : (x == ("__debug__" : Str)) = false := by decide) (he : starEach (e :: es) X.env = (false, eval e X.env) :: starEach es X.env := by rfl) (hpl : (backTo pos (starEach es X.env)).any (·.1) = false := by rfl) :
    PEn n X (.Call (.Name x p) (e :: es) [] pos) (tCal sp E t) := by
  intro pins s σ H Q hn I h
  refine wpAny_Call_Name_kw (ld_glob I hg hm ?_ hdb)
  exact PySem.W.callWith_K (h₀ := X.base) I.ok.mod.kin hk (thnN hn (ha pos pins s σ H _ hn I h) fun us s1 hn1 ⟨vs, H1, I1, r, q⟩ => ⟨I1.kIn, wpAny_call (run_fnRn hn1 F hr hx I1 r q)⟩) he hpl
theorem pen_callTy {T : String} {r : List V → Hp → VK → Prop} {x : Str} {e : Expr} {es : List Expr} {t : TA} {p pos : Pos} (hc : CallR X (.type T) r) (hg : Gl X x) (hm : X.mg x = none) (hv : bootBuiltins x = some (.type T)) (ha : PAn n X (e :: es) t) (hne : x ≠ "__name__" := by decide) (hdb : (x == ("__debug__" : Str)) = false := by decide)
    (he : starEach (e :: es) X.env = (false, eval e X.env) :: starEach es X.env := by rfl) (hpl : (backTo pos (starEach es X.env)).any (·.1) = false := by rfl) : PEn n X (.Call (.Name x p) (e :: es) [] pos) (tCB r t) := by
  intro pins s σ H Q hn I h
  refine wpAny_Call_Name_kw (ld_blt I hg hm hv ?_ hne hdb)
  exact PyProof.Rows.callWith_type1 (thn (ha pos pins s σ H _ hn I h) fun us s1 ⟨vs, H1, I1, r1, q1⟩ => hc pins s1 σ H1 vs us Q I1 r1 q1) he hpl
theorem pen_op {op : Operator} {r : R2} {a b : Expr} {ta tb : TE} {pos : Pos} (ho : OpRn n X (binaryOp op) r) (ha : PEn n X a ta) (hb : PEn n X b tb) : PEn n X (.BinOp a op b pos) (tOp r ta tb) := fun pins s σ H Q hn I h =>
  wpAny_BinOp (thnN hn (ha pins s σ H _ hn I h) fun v s1 hn1 ⟨x, H1, I1, rx, q1⟩ => thnN hn1 (hb pins s1 σ H1 _ hn1 I1 q1) fun u s2 hn2 ⟨y, H2, I2, ry, q2⟩ => ho pins s2 σ H2 x y v u Q hn2 I2 rx ry q2)
theorem ptn_cmpR {op : CmpOp} {r : R2} {a b : Expr} {ta tb : TE} {pos : Pos} (ho : OpR X (compareOp op) r) (ha : PEn n X a ta) (hb : PEn n X b tb) (hm : behindInMarks op b = false) : PTn n X (.Compare a [op] [b] pos) (tTest (tOp r ta tb)) := by
  intro pins s σ H Q hn I h
  refine wpAny_isTrue_Compare1 (thnN hn (ha pins s σ H _ hn I h) fun v s1 hn1 ⟨x, H1, I1, r1, q1⟩ => thn (hb pins s1 σ H1 _ hn1 I1 q1) fun u s2 ⟨y, H2, I2, r2, q2⟩ => thn (ho pins s2 σ H2 x y v u _ I2 r1 r2 q2) fun c s3 ⟨z, H3, I3, r3, k, e, q3⟩ => ?_) hm
  subst e
  cases r3
  exact wpAny_truthy_bool ⟨H3, I3, q3⟩
theorem ptn_val {e : Expr} {t : TE} (h : PEn n X e t) (he : ∀ whole, isTrue e X.env whole = (do let v ← whole; standAt e.pos; holding [v] (truthy v)) := by intro _; rfl) : PTn n X e (tB t) := by
  intro pins s σ H Q hn I hw
  rw [he]
  refine wpAny_bind (thn (h pins s σ H _ hn I hw) fun v s1 ⟨x, H1, I1, r1, c, e1, q1⟩ => ?_)
  subst e1
  cases r1
  exact wpAny_bind (wpAny_standAt (wpAny_holding (wpAny_truthy_bool ⟨H1, I1, q1⟩)))
end
/-- nothing raised: whatever is wished of what is raised -/
theorem pssn_nox {X : Cx} {n : Nat} {st : List Stmt} {t : TS} (h : PSsn n X.nox st t) : PSsn n X st t := fun pins s σ H D hn I q =>
  wpAny_mono (h pins s σ H D hn (I.wish _) q) (fun _ _ z => z.unwish) fun _ _ z => False.elim z
theorem fn_n {CX : CXT} {P : Program} {w : World} {K : PySem.W.Frag} {mg : Str → Option Value} {base : Heap} {n k : Nat} {f : Addr} {x qual : Str} {st : Stmt} {fd : FuncData} {N ps : List Str} {sp : Sp} (F : L2.Fun K x qual st f fd) (b : Binds K fd ps []) (S : FnScope N ps (defScope st)) (len : ∀ vs H Q E, sp vs H Q E → vs.length = ps.length)
    (hbody : ∀ (cdv : Value) (A : Around) (outer : List Env) (s : Shared) (H : Hp) (vs : List V) (Q : VK) (E : XK), Room k (A.deeper (envOfC qual (defScope st) s.heap.objs.size f cdv)) → sp vs H Q E →
      ∃ t, PSsn n (cxOf CX P w K mg base N qual (defScope st) f cdv A outer s H E).nox (defBody st) t ∧ t { nx := fun _ H' => Q .non H', rt := Q } (start N vs) H) : FnRn n P w K mg base CX (k + 1) f sp := by
  obtain ⟨oc, od, kV, doc, pm, an, cdv, ct, osl, rfl, lk, hcd⟩ := F.ex
  intro A outer s H us vs Q E hn hr e0 r hsp
  have hl : vs.length = ps.length := len vs H Q E hsp
  have KX : K.In s.heap := e0.mod.kin.keeps fun b o e => (e0.bs b o e).1
  have lim : s.heap.NoLimit := e0.mod.nolimit.keeps fun b o e => (e0.bs b o e).1
  have hkind : ∀ y ∈ ps.zip us, (defScope st).names.lookup y.1 = some .local ∨ ((defScope st).names.lookup y.1 = some .cell ∧ ((cellsFrom (s.heap.objs.size + 1) (defScope st).names []).lookup y.1).isSome = true) := fun ⟨m, v⟩ hy => by
    rcases S.par m (List.of_mem_zip hy).1 with q | q
    · exact .inl q
    · exact .inr ⟨q, PySem.W.cellsFrom_some _ _ _ (.inl q)⟩
  have hul : us.length = ps.length := by rw [← r.length]; exact hl
  have hb := b s us KX (by rw [List.append_nil]; exact hul)
  rw [List.append_nil] at hb
  refine codeAny_call_function hr.depth (KX _ _ lk) rfl S.co S.gen rfl (PySem.W.codeRec_of KX hcd) (hb _ _ _ _ ?_)
  refine wpAny_with_toks hn (wpAny_mono (wpAny_newFunctionEnv_cells (Q := fun env s1 => n ≤ s1.toks → _) S.kind hkind fun env he s1 x hn1 => ?_) (fun _ _ z => z) fun _ _ z _ => z)
  subst he
  refine ⟨lim.keeps x.toInCall.keep, codeAny_func ?_⟩
  obtain ⟨t, ht, hq⟩ := hbody cdv A outer s H vs Q E (hr.deeper _) hsp
  have I : Inv (cxOf CX P w K mg base N qual (defScope st) f cdv A outer s H E) [] (start N vs) H s1 := inv_start S hr.hd e0 hl r x
  refine wpAny_mono (pssn_nox ht [] s1 (start N vs) H _ hn1 I hq) (fun fl s' hs => ?_) fun e s' hs => hs
  have fin : ∀ {σ' : L2.St} {H' : Hp} {v : V} {u : Value}, Inv (cxOf CX P w K mg base N qual (defScope st) f cdv A outer s H E) [] σ' H' s' → RelV v u → Q v H' → CE outer P w H s Q u s' :=
    fun {σ' H' v u} J rv q => ⟨v, H', J.os, J.bare, J.base, J.hok, rv, q⟩
  cases fl with
  | ret u =>
    obtain ⟨v, σ', H', J, rv, q⟩ := hs
    exact fin J rv q
  | next =>
    obtain ⟨σ', H', J, q⟩ := hs
    exact fin (v := V.non) (u := Value.none) J rfl q
  | brk =>
    obtain ⟨_, _, _, q⟩ := hs
    exact False.elim q
  | cont =>
    obtain ⟨_, _, _, q⟩ := hs
    exact False.elim q
end TH
end
section
set_option Elab.async false
set_option maxRecDepth 100000
set_option maxHeartbeats 4000000
set_option linter.all false
namespace TH
open PySem PySem.Spec PyProof.Rows L2
section
variable {X : Cx} {n : Nat}
/-- what a turn leaves of the iterator's own objects -/
theorem turn_back {pins : List (Addr × Obj)} {fp : List Addr} {it : Addr} {tg : Expr} {J : It} {tn : Nat → Heap → Prop} {i : Nat} {h5 : Heap} {σ7 : L2.St} {H7 : Hp} {s7 : Shared} (T : Turn X.prog X.w X.K tg J fp it tn) (st5 : tn i h5)
    (I7 : Inv X (pins ++ pinsAt fp h5) σ7 H7 s7) : tn i s7.heap ∧ ∀ b ∈ fp, H7 b = none := by
  have key : ∀ b ∈ fp, ∀ o, h5.get? b = some o → s7.heap.get? b = some o ∧ H7 b = none := fun b hb o e => by
    obtain ⟨z1, z2, _⟩ := I7.pin (b, o) (List.mem_append_right _ (List.mem_append_right _ (mem_pinsAt hb e)))
    exact ⟨z1, z2⟩
  refine ⟨T.keep _ _ _ st5 fun b hb o e => (key b hb o e).1, fun b hb => ?_⟩
  obtain ⟨o, e, _⟩ := T.obj _ _ st5 b hb
  exact (key b hb o e).2
theorem psn_for {tg iter : Expr} {body : List Stmt} {wi : TI} {g : TG} {tb : TS} {pos : Pos} (hp : PassesOwn (model X.prog X.w) X.A X.env X.xe) (hc : X.calm = true) (hi : PI X tg iter wi) (hg : PG X tg g) (hb : PSsn n X body tb)
    (hs : ∀ x, foldedSetIterable iter X.env x = pure x := by intro _; rfl) : PSn n X (.For tg iter body [] pos) (tFor wi g tb) := by
  intro pins s σ H D hn I h
  refine wpAny_For (thnN hn (hi.run pins s σ H _ I h) fun v s1 hn1 h1 => thnN hn1 h1 fun itv s2 hn2 h2 => ?_) hs
  obtain ⟨it, fp, tn, J, H2, rfl, I2, T, st2, f2, W, ⟨m0, w0⟩, turn⟩ := h2
  refine codeAny_forLoop_any (fun m s' => n ≤ s'.toks ∧ ∃ i σ' H', Inv X pins σ' H' s' ∧ tn i s'.heap ∧ (∀ b ∈ fp, H' b = none) ∧ W i m σ' H') ?_ m0 ⟨hn2, 0, σ, H2, I2, st2, fun b hb => (f2 b hb).1, w0⟩
  rintro m s3 ⟨hn3, i, σ3, H3, I3, st3, fr3, w3⟩
  have ok3 : ∀ {H' : Hp}, (∀ b ∈ fp, H' b = none) → ∀ b ∈ fp, FpOk X pins H' b := fun z b hb => ⟨z b hb, (f2 b hb).2⟩
  rcases turn i m σ3 H3 w3 with ⟨stop, qn⟩ | ⟨go, N, hN, step⟩
  · refine wpAny_passesOwn hp (thn (T.done X rfl rfl rfl hc i pins s3 σ3 H3 X.xe I3 (ok3 fr3) st3 stop) fun r s4 hr => ?_)
    obtain ⟨rfl, I4⟩ := hr
    exact wpAny_execs_nil ⟨σ3, H3, I4, qn⟩
  · refine wpAny_passesOwn hp (thnN hn3 (T.item X rfl rfl rfl hc i pins s3 σ3 H3 X.xe I3 (ok3 fr3) st3 go) fun r s4 hn4 hr => ?_)
    obtain ⟨u, rfl, h4⟩ := hr
    refine wpAny_passesOwn hp (thnN hn4 h4 fun _ s5 hn5 ⟨x, H5, I5, r5, y5, st5, fr5⟩ => ?_)
    have J5 := I5.pinned (ok3 fr5) (T.obj _ _ st5)
    refine wpAny_passesOwn hp (thnN hn5 (hg.run _ s5 σ3 H5 x u _ J5 r5 (step x H5 y5)) fun _ s6 hn6 ⟨σ6, H6, I6, q6⟩ => ?_)
    refine wpAny_passesOwn hp (thnN hn6 (hb _ s6 σ6 H6 _ hn6 I6 q6) fun f s7 hn7 q7 => ?_)
    have more : ∀ {σ7 : L2.St} {H7 : Hp}, Inv X (pins ++ pinsAt fp s5.heap) σ7 H7 s7 → N σ7 H7 → ∃ m', m' < m ∧ (n ≤ s7.toks ∧ ∃ i σ' H', Inv X pins σ' H' s7 ∧ tn i s7.heap ∧ (∀ b ∈ fp, H' b = none) ∧ W i m' σ' H') := fun {σ7 H7} I7 z => by
      obtain ⟨m', hm, w7⟩ := hN σ7 H7 z
      obtain ⟨t1, t2⟩ := turn_back T st5 I7
      exact ⟨m', hm, hn7, i + 1, σ7, H7, I7.unpinned, t1, t2, w7⟩
    cases f with
    | next => obtain ⟨σ7, H7, I7, z⟩ := q7; exact more I7 z
    | cont => obtain ⟨σ7, H7, I7, z⟩ := q7; exact more I7 z
    | brk => obtain ⟨σ7, H7, I7, z⟩ := q7; exact ⟨σ7, H7, I7.unpinned, z⟩
    | ret v => obtain ⟨x7, σ7, H7, I7, r7, z⟩ := q7; exact ⟨x7, σ7, H7, I7.unpinned, r7, z⟩
theorem ptn_not {a : Expr} {tA : TT} {pos : Pos} (ha : PTn n X a tA) : PTn n X (.UnaryOp .Not a pos) (tNot tA) := fun pins s σ H Q hn I h => isTrue_not (ha pins s σ H (fun c H1 => Q (!c) H1) hn I h)
/-- where nothing may be raised -/
theorem thnFN {α : Type} {t : Sem α} {Q Q' : α → Shared → Prop} {M : Model} {A : Around} {E : Value → Shared → Prop} {s : Shared} (hn : n ≤ s.toks) (h : wpAny M A t Q (fun _ _ => False) s) (hQ : ∀ a s', n ≤ s'.toks → Q a s' → Q' a s') : wpAny M A t Q' E s :=
  wpAny_mono (wpAny_toks_of hn h) (fun a s' z => hQ a s' z.1 z.2) fun _ _ z => False.elim z.2
end
section
variable {X : Cx} {n : Nat} {pins : List (Addr × Obj)} {σ : L2.St}
/-- the loop's own context -/
abbrev blkE (X : Cx) (scope : Scope) (s : Shared) : Env := compEnvC scope (cellsFrom (s.heap.objs.size + 1) scope.names (cloFrom X.env.cells scope.names [])) s.heap.objs.size X.env
/-- the iterator's own objects, within the block: as they were, not tracked -/
theorem blk_fp {B : Cx} {fp : List Addr} (hx : ∀ b ∈ fp, b ∈ B.ex) (hp : B.pn = []) {σ' : L2.St} {H' : Hp} {s' : Shared} (J : Inv B [] σ' H' s') (z : ∀ b ∈ fp, H' b = none) : ∀ b ∈ fp, FpOk B [] H' b := fun b hb =>
  ⟨z b hb, (J.ok.exf b (hx b hb)).1, J.ok.exfs b (hx b hb), .inl (hx b hb), fun x c e => (J.ok.exf b (hx b hb)).2 x c e, fun p hp' => by
    rw [hp] at hp'
    cases hp'⟩
/-- a turn's end: the loop's word again -/
theorem blk_turn {B : Cx} {tg : Expr} {J : It} {fp : List Addr} {it : Addr} {tn : Nat → Heap → Prop} {i : Nat} {h7 : Heap} {vs : List Nat} {σ8 : L2.St} {H' : Hp} {s' : Shared} (T : Turn B.prog B.w B.K tg J fp it tn) (st : tn i h7)
    (w8 : wipe σ8 vs = wipe σ vs) (I' : Inv B ([] ++ pinsAt fp h7) σ8 H' s') : Inv B [] (wipe σ vs) H' s' ∧ tn i s'.heap ∧ ∀ b ∈ fp, H' b = none := by
  obtain ⟨t1, t2⟩ := turn_back T st I'
  refine ⟨(I'.unpinned (pins := [])).weak (by rw [← w8, wipe_length]) fun j v e => ?_, t1, t2⟩
  rw [← w8] at e
  exact (wipe_some e).1
/-- what a comprehension with `tYes` reads of its loop -/
abbrev LcW (g : TG) (te : TE) (vs : List Nat) (σ : L2.St) (J : It) (D : Addr) (W : Nat → Nat → Hp → Prop) (Qd : Hp → Prop) : Prop := ∀ i m H, W i m H →
  (J.stop i H ∧ Qd H) ∨ (J.go i H ∧ ∃ Nx : Hp → Prop, (∀ H', Nx H' → ∃ m', m' < m ∧ W (i + 1) m' H') ∧ ∀ x H', J.yld i H x H' → g x (wipe σ vs) H' fun σ2 H2 => wipe σ2 vs = wipe σ vs ∧ tYes σ2 H2 fun b H3 =>
    if b = true then te σ2 H3 fun y H4 => ∃ acc, H4 D = some (.lst acc) ∧ acc.length < sizeLine ∧ Nx (upd H4 D (.lst (acc ++ [y]))) else Nx H3)
/-- the loop of the block, in the block's own context B -/
theorem lcn_loop {B : Cx} {elt tg iter : Expr} {scope : Scope} {pos : Pos} {g : TG} {te : TE} {vs : List Nat} {J : It} {fp : List Addr} {it D : Addr} {tn : Nat → Heap → Prop} {W : Nat → Nat → Hp → Prop} {Qd : Hp → Prop} {R : Result → Shared → Prop} {H : Hp} {s : Shared} {m0 : Nat}
    (hx : ∀ b ∈ fp, b ∈ B.ex) (hpn : B.pn = []) (hxe : B.xe = fun _ _ => False) (hc : B.calm = true) (T : Turn B.prog B.w B.K tg J fp it tn) (pg : PG B tg g) (pe : PEn n B elt te) (turn : LcW g te vs σ J D W Qd)
    (fin : ∀ H' s', Inv B [] (wipe σ vs) H' s' → Qd H' → R (.ok .next) s') (hn : n ≤ s.toks) (I : Inv B [] (wipe σ vs) H s) (st : tn 0 s.heap) (hf : ∀ b ∈ fp, H b = none) (w0 : W 0 m0 H) :
    codeAny (model B.prog B.w) B.A (.compLoop (.ListComp elt [⟨tg, iter, [], 0⟩] scope pos) 0 (.ref it) (.ref D) B.env) R s := by
  refine compLoop_any (fun m t => n ≤ t.toks ∧ ∃ i H', Inv B [] (wipe σ vs) H' t ∧ tn i t.heap ∧ (∀ b ∈ fp, H' b = none) ∧ W i m H') ?_ m0 ⟨hn, 0, H, I, st, hf, w0⟩
  rintro m t ⟨hm, i, H1, I1, st1, f1, w1⟩
  rcases turn i m H1 w1 with ⟨stop, qd⟩ | ⟨go, Nx, hNx, step⟩
  · refine thnFN hm (T.done B rfl rfl rfl hc i [] t _ H1 (fun _ _ => False) I1 (blk_fp hx hpn I1 f1) st1 stop) fun r t2 _ ⟨e, I2⟩ => ?_
    rw [e]
    exact fin H1 t2 I2 qd
  · refine thnFN hm (T.item B rfl rfl rfl hc i [] t _ H1 (fun _ _ => False) I1 (blk_fp hx hpn I1 f1) st1 go) fun r t2 hm2 ⟨u, e, more⟩ => ?_
    rw [e]
    refine thnFN hm2 more fun _ t3 hm3 ⟨x, H3, I3, rx, y3, st3, f3⟩ => ?_
    have pinned := I3.pinned (blk_fp hx hpn I3 f3) (T.obj _ _ st3)
    have h4 := pg.run _ t3 _ H3 x u _ pinned rx (step x H3 y3)
    rw [hxe] at h4
    refine thnFN hm3 h4 fun _ t4 hm4 ⟨σ4, H4, I4, w4, q4⟩ => ?_
    refine wpAny_tests_nil ?_
    have h5 := pe _ t4 σ4 H4 _ hm4 I4 (show te σ4 H4 _ from q4)
    rw [hxe] at h5
    show if true = true then _ else _
    rw [if_pos rfl]
    refine thnFN hm4 h5 fun z t5 hm5 ⟨yv, H5, I5, r5, acc, hD, hz, nx⟩ => ?_
    refine thnFN hm5 (app_ok (X := B) (E := fun _ _ => False) (Q := fun _ t6 => ∃ H6, Inv B _ σ4 H6 t6 ∧ Nx H6) I5 hD hz r5 fun t6 I6 => ⟨_, I6, nx⟩) fun _ t6 hm6 ⟨H6, I6, nx6⟩ => ?_
    obtain ⟨m', lt, w6⟩ := hNx H6 nx6
    obtain ⟨k1, k2, k3⟩ := blk_turn T st3 w4 I6
    exact ⟨m', lt, hm6, i + 1, H6, k1, k2, k3, w6⟩
theorem lcn_core {s : Shared} {H : Hp} {Q : VK} {elt tg iter : Expr} {scope : Scope} {own : List (Str × Nat)} {pos pos' : Pos} {wi : TI} {g : TG} {te : TE} {use : Option (Value → Sem Unit)} {Qf : Value → Shared → Prop}
    (hc : X.calm = true) (hN : X.N.Nodup) (hn : n ≤ s.toks) (I : Inv X pins σ H s) (hi : PI X tg iter wi) (ok : BlkOk X.N X.env.scope scope own)
    (hg : ∀ (s : Shared) (H : Hp) (C : Addr) (cl : List (Str × Addr)) (fp : List Addr), PG (X.blk s H scope (compEnvC scope cl C X.env) fp) tg g)
    (he : ∀ (s : Shared) (H : Hp) (C : Addr) (cl : List (Str × Addr)) (fp : List Addr), PEn n (X.blk s H scope (compEnvC scope cl C X.env) fp) elt te) (hs : ∀ x, foldedSetIterable iter X.env x = pure x)
    (h : tLc wi g tYes te (own.map (·.2)) σ H Q)
    (hRR : ∀ D C s' m H', Inv X pins σ H' s' → Q (.ref D) H' → s'.heap.Ns C m → FpOk X pins H' C → compPost (model X.prog X.w) X.A X.xe use Qf (.ref D) C (.ok .next) s') :
    wpAny (model X.prog X.w) X.A (comprehension (.ListComp elt [⟨tg, iter, [], 0⟩] scope pos) scope X.env pos' (newList []) false (eval iter X.env) use) Qf X.xe s := by
  have known : ∀ y ∈ scope.names, y.2 = .free → ∃ c, X.env.cells.lookup y.1 = some c := fun y hy e => (ok.free y hy e).elim (fun k => I.ok.has _ (.inl k)) fun k => I.ok.has _ (.inr k)
  refine wpAny_comprehension_free (use := use) rfl hs (closure_ok known) ok.kind (fun y hy e => by rw [ok.uniq y hy, e]) ?_
  refine thnN hn (hi.run pins s σ H _ I h) fun xv s1 hn1 hx => thnN hn1 hx fun itv s2 hn2 h2 => ?_
  obtain ⟨it, fp, tn, J, H2, rfl, I2, T, st2, f2, q⟩ := h2
  refine wpAny_newObj_type (newEnv_comp ?_) (by show 0 ≤ sizeLine; decide)
  have free2 : H2 s2.heap.objs.size = none := I2.hok.fresh (Nat.le_refl _)
  have below : ∀ b ∈ fp, b < s2.heap.objs.size := fun b hb => by
    obtain ⟨o, e, _⟩ := T.obj _ _ st2 b hb
    exact Heap.lt_size e
  have laid3 : Inv X pins σ (upd H2 s2.heap.objs.size (.lst [])) { s2 with heap := s2.heap.push { cls := .type "list", data := .seq ([] : List Value).toArray } } :=
    I2.laid (t' := s2.toks) (fun b o e => Heap.get?_push_of_some _ e) (Nat.le_refl _) ⟨Nat.zero_le _, [], 0, .nil, Heap.get?_push_size _ rfl⟩
  have st3 : tn 0 (s2.heap.push { cls := .type "list", data := .seq ([] : List Value).toArray }) := T.keep _ _ _ st2 fun b _ o e => Heap.get?_push_of_some _ e
  obtain ⟨W, ⟨m0, w0⟩, turn⟩ := q _ free2
  generalize hD : s2.heap.objs.size = D at free2 below laid3 turn w0 ⊢
  generalize hH3 : upd H2 D (.lst []) = H3 at laid3 w0
  have f3 : ∀ b ∈ fp, FpOk X pins H3 b ∧ b < ({ s2 with heap := s2.heap.push { cls := .type "list", data := .seq ([] : List Value).toArray } } : Shared).heap.objs.size := fun b hb => by
    have lt := below b hb
    refine ⟨⟨?_, (f2 b hb).2⟩, ?_⟩
    · rw [← hH3, upd_ne (Nat.ne_of_lt lt)]
      exact (f2 b hb).1
    · show b < (s2.heap.push _).objs.size
      rw [Heap.size_push, hD]
      exact Nat.lt_succ_of_lt lt
  generalize hs3 : ({ s2 with heap := s2.heap.push { cls := .type "list", data := .seq ([] : List Value).toArray } } : Shared) = s3 at laid3 f3
  have h3 : s2.heap.push { cls := .type "list", data := .seq ([] : List Value).toArray } = s3.heap := by rw [← hs3]
  have hn3 : n ≤ s3.toks := by rw [← hs3]; exact hn2
  rw [h3] at st3
  have I4 := block_start laid3 ok hN f3
  have st4 : tn 0 (pushCells (s3.heap.push { cls := .type "dict", data := .dict #[] }) scope.names) := T.keep _ _ _ st3 fun b _ o e => pushCells_keeps _ _ _ _ (Heap.get?_push_of_some _ e)
  show codeAny _ _ (.compStart (.ListComp elt [⟨tg, iter, [], 0⟩] scope pos) 0 (.ref it) (.ref D) (blkE X scope s3)) (compPost (model X.prog X.w) X.A X.xe use Qf (.ref D) s3.heap.objs.size) { s3 with heap := pushCells (s3.heap.push { cls := .type "dict", data := .dict #[] }) scope.names }
  have loop : codeAny (model X.prog X.w) X.A (.compLoop (.ListComp elt [⟨tg, iter, [], 0⟩] scope pos) 0 (.ref it) (.ref D) (blkE X scope s3)) (compPost (model X.prog X.w) X.A X.xe use Qf (.ref D) s3.heap.objs.size) { s3 with heap := pushCells (s3.heap.push { cls := .type "dict", data := .dict #[] }) scope.names } := by
    refine lcn_loop (B := X.blk s3 H3 scope (blkE X scope s3) fp) (n := n) (J := J) (Qd := Q (.ref D)) (W := W) (vs := own.map (·.2)) (σ := σ) (fun b hb => hb) rfl rfl hc T (hg _ _ _ _ _) (he _ _ _ _ _) turn ?_ hn3 I4 st4 (fun b hb => (f3 b hb).1.1) w0
    intro H' s' J' qd
    have back : Inv X pins σ H' s' := laid3.call' (ch := fp) J'.os J'.base J'.hok J'.bare fun b hb => ⟨(f3 b hb).1.2.2.2.1, (f3 b hb).1.2.1, (f3 b hb).1.2.2.2.2.1, (f3 b hb).1.2.2.2.2.2⟩
    obtain ⟨m, hm, _⟩ := J'.loc
    exact hRR D s3.heap.objs.size s' m H' back qd hm (laid3.fpOk (Nat.le_refl _) J'.free)
  exact codeAny_compStart_list loop (T.self X.A 0 _ _ _ st4 loop)
/-- [e for x in xs], e wants n tokens out -/
theorem pen_lc {elt tg iter : Expr} {scope : Scope} {own : List (Str × Nat)} {pos : Pos} {wi : TI} {g : TG} {te : TE} (hc : X.calm = true) (hN : X.N.Nodup) (hi : PI X tg iter wi) (ok : BlkOk X.N X.env.scope scope own)
    (hg : ∀ (s : Shared) (H : Hp) (C : Addr) (cl : List (Str × Addr)) (fp : List Addr), PG (X.blk s H scope (compEnvC scope cl C X.env) fp) tg g)
    (he : ∀ (s : Shared) (H : Hp) (C : Addr) (cl : List (Str × Addr)) (fp : List Addr), PEn n (X.blk s H scope (compEnvC scope cl C X.env) fp) elt te) (hs : ∀ x, foldedSetIterable iter X.env x = pure x := by intro _; rfl) :
    PEn n X (.ListComp elt [⟨tg, iter, [], 0⟩] scope pos) (tLc wi g tYes te (own.map (·.2))) := by
  intro pins s σ H Q hn I h
  rw [eval_ListComp]
  refine lcn_core hc hN hn I hi ok hg he hs h fun D C s' m H' I' q hns f => ⟨m, hns, fun h2 sb => ?_⟩
  obtain ⟨a0, a1, _, a3, a4, a5⟩ := f
  exact ⟨.ref D, H', I'.turned (t' := s'.toks) (fun b o hb e => (sb.2 b hb).trans e) a0 a1 a3 a4 a5, rfl, q⟩
/-- y = [e for x in xs] on one line, y a local -/
theorem psn_setLc {i : Nat} {y : Str} {py : Pos} {elt tg iter : Expr} {scope : Scope} {own : List (Str × Nat)} {pos spos : Pos} {wi : TI} {g : TG} {te : TE} (hc : X.calm = true) (hN : X.N.Nodup) (hy : X.N[i]? = some y) (hyl : X.env.scope.names.lookup y = some .local)
    (hsw : swapsWith (.ListComp elt [⟨tg, iter, [], 0⟩] scope pos) (some (.Name y py)) spos.line X.env = pure true) (hi : PI X tg iter wi) (ok : BlkOk X.N X.env.scope scope own)
    (hg : ∀ (s : Shared) (H : Hp) (C : Addr) (cl : List (Str × Addr)) (fp : List Addr), PG (X.blk s H scope (compEnvC scope cl C X.env) fp) tg g)
    (he : ∀ (s : Shared) (H : Hp) (C : Addr) (cl : List (Str × Addr)) (fp : List Addr), PEn n (X.blk s H scope (compEnvC scope cl C X.env) fp) elt te) (hs : ∀ x, foldedSetIterable iter X.env x = pure x := by intro _; rfl) :
    PSn n X (.Assign [.Name y py] (.ListComp elt [⟨tg, iter, [], 0⟩] scope pos) spos) (tAsg (tLc wi g tYes te (own.map (·.2))) (gName i)) := by
  intro pins s σ H D hn I h
  rw [exec_Assign_Name_used _ _ _ _ hsw]
  refine wpAny_bind (wpAny_standAt (wpAny_bind ?_))
  show wpAny _ X.A (do let _ ← comprehension (.ListComp elt [⟨tg, iter, [], 0⟩] scope pos) scope X.env (firstIterPos [⟨tg, iter, [], 0⟩] pos) (newList []) false (eval iter X.env) (some (assign (.Name y py) X.env))) _ _ s
  have h' : tLc wi g tYes te (own.map (·.2)) σ H (fun x H1 => gName i x σ H1 D.nx) := h
  refine wpAny_bind (thn (lcn_core (Qf := fun _ s' => SP X pins D .next s') hc hN hn I hi ok hg he hs h' fun L C s' m H' I' q hns f => ?_) fun _ s' hq => wpAny_pure (wpAny_pure hq))
  show wpAny _ _ (assign (.Name y py) X.env (.ref L)) _ _ _
  refine wpAny_assign_Name (store_ok2 (v := V.ref L) I' hN hy (.inl hyl) rfl (fun s2 I2 ⟨a, sb, ha⟩ => ?_) (.inr hyl))
  obtain ⟨a0, a1, _, a3, a4, a5⟩ := f
  have haC : C ≠ a := ha.elim (fun z => by rw [z]; exact a1) fun z e => a4 y a z e.symm
  exact ⟨m, hns.sameBut sb haC, fun h3 sb3 => ⟨_, H', I2.turned (t' := s2.toks) (fun b o hb e => (sb3.2 b hb).trans e) a0 a1 a3 a4 a5, q⟩⟩
end
end TH
end
section
set_option maxHeartbeats 4000000
set_option linter.all false
namespace TM
/-- is it a tilt along rows -/
def isH (c : Nat) : Bool := c == 108 || c == 114
/-- the kept tilts, the last one first, behind one more tilt -/
def put (st : List Nat) (t : Nat) : List Nat := match st with
  | x :: y :: r => if y = t then x :: y :: r else t :: x :: y :: r
  | r => t :: r
def pop (st : List Nat) (t : Nat) : List Nat := match st with
  | [] => []
  | a :: r => if isH a = isH t then r else a :: r
def stepW (st : List Nat) (t : Nat) : List Nat := put (pop st t) t
def wnR (t : List Nat) : List Nat := t.foldl stepW []
def wn (t : List Nat) : List Nat := (wnR t).reverse
def Alt : List Nat → Prop
  | a :: b :: r => isH a ≠ isH b ∧ Alt (b :: r)
  | _ => True
def NoRep : List Nat → Prop
  | a :: b :: c :: r => a ≠ c ∧ NoRep (b :: c :: r)
  | _ => True
theorem Alt.tail {a : Nat} {r : List Nat} (h : Alt (a :: r)) : Alt r := by
  cases r with
  | nil => trivial
  | cons b r => exact h.2
theorem NoRep.tail {a : Nat} {r : List Nat} (h : NoRep (a :: r)) : NoRep r := by
  cases r with
  | nil => trivial
  | cons b r =>
    cases r with
    | nil => trivial
    | cons c r => exact h.2
theorem put_ok {st : List Nat} {t : Nat} (h1 : Alt st) (h2 : NoRep st) (h3 : ∀ a r, st = a :: r → isH a ≠ isH t) : Alt (put st t) ∧ NoRep (put st t) := by
  match st, h1, h2, h3 with
  | [], _, _, _ => exact ⟨trivial, trivial⟩
  | [x], _, _, h3 => exact ⟨⟨fun e => h3 x [] rfl e.symm, trivial⟩, trivial⟩
  | x :: y :: r, h1, h2, h3 =>
    show Alt (if y = t then x :: y :: r else t :: x :: y :: r) ∧ NoRep (if y = t then x :: y :: r else t :: x :: y :: r)
    by_cases e : y = t
    · rw [if_pos e]
      exact ⟨h1, h2⟩
    · rw [if_neg e]
      exact ⟨⟨fun z => h3 x _ rfl z.symm, h1⟩, ⟨fun z => e z.symm, h2⟩⟩
theorem pop_ok {st : List Nat} {t : Nat} (h1 : Alt st) (h2 : NoRep st) : Alt (pop st t) ∧ NoRep (pop st t) ∧ ∀ a r, pop st t = a :: r → isH a ≠ isH t := by
  match st, h1, h2 with
  | [], _, _ => exact ⟨trivial, trivial, fun a r e => by cases e⟩
  | a :: r, h1, h2 =>
    show Alt (if isH a = isH t then r else a :: r) ∧ NoRep (if isH a = isH t then r else a :: r) ∧ ∀ b q, (if isH a = isH t then r else a :: r) = b :: q → isH b ≠ isH t
    by_cases e : isH a = isH t
    · rw [if_pos e]
      refine ⟨h1.tail, h2.tail, fun b q z => ?_⟩
      subst z
      intro z2
      exact h1.1 (e.trans z2.symm)
    · rw [if_neg e]
      exact ⟨h1, h2, fun b q z => by cases z; exact e⟩
theorem step_ok {st : List Nat} {t : Nat} (h1 : Alt st) (h2 : NoRep st) : Alt (stepW st t) ∧ NoRep (stepW st t) := by
  obtain ⟨p1, p2, p3⟩ := pop_ok (t := t) h1 h2
  exact put_ok p1 p2 p3
theorem fold_ok : ∀ (t : List Nat) (st : List Nat), Alt st → NoRep st → Alt (t.foldl stepW st) ∧ NoRep (t.foldl stepW st)
  | [], _, h1, h2 => ⟨h1, h2⟩
  | a :: t, st, h1, h2 => by
    obtain ⟨p1, p2⟩ := step_ok (t := a) h1 h2
    exact fold_ok t _ p1 p2
theorem alt_of : ∀ (l : List Nat), (∀ k, (h : k + 1 < l.length) → isH l[k] ≠ isH l[k + 1]) → Alt l
  | [], _ => trivial
  | [a], _ => trivial
  | a :: b :: r, h => ⟨h 0 (by simp), alt_of (b :: r) fun k hk => h (k + 1) (by simp at hk ⊢; omega)⟩
theorem norep_of : ∀ (l : List Nat), (∀ k, (h : k + 2 < l.length) → l[k] ≠ l[k + 2]) → NoRep l
  | [], _ => trivial
  | [a], _ => trivial
  | [a, b], _ => trivial
  | a :: b :: c :: r, h => ⟨h 0 (by simp), norep_of (b :: c :: r) fun k hk => h (k + 1) (by simp at hk ⊢; omega)⟩
theorem alt_at : ∀ {l : List Nat}, Alt l → ∀ k, (h : k + 1 < l.length) → isH l[k] ≠ isH l[k + 1]
  | [], _, k, h => by simp at h
  | [a], _, k, h => by simp at h
  | a :: b :: r, H, 0, _ => H.1
  | a :: b :: r, H, k + 1, h => alt_at (l := b :: r) H.2 k (by simp at h ⊢; omega)
theorem norep_at : ∀ {l : List Nat}, NoRep l → ∀ k, (h : k + 2 < l.length) → l[k] ≠ l[k + 2]
  | [], _, k, h => by simp at h
  | [a], _, k, h => by simp at h
  | [a, b], _, k, h => by simp at h; omega
  | a :: b :: c :: r, H, 0, _ => H.1
  | a :: b :: c :: r, H, k + 1, h => norep_at (l := b :: c :: r) H.2 k (by simp at h ⊢; omega)
theorem alt_rev {l : List Nat} (h : Alt l) : Alt l.reverse := by
  refine alt_of _ fun k hk => ?_
  have hk' : k + 1 < l.length := by simpa using hk
  rw [List.getElem_reverse, List.getElem_reverse]
  have z := alt_at h (l.length - 1 - (k + 1)) (by omega)
  have e : l.length - 1 - (k + 1) + 1 = l.length - 1 - k := by omega
  simp only [e] at z
  exact fun q => z q.symm
theorem norep_rev {l : List Nat} (h : NoRep l) : NoRep l.reverse := by
  refine norep_of _ fun k hk => ?_
  have hk' : k + 2 < l.length := by simpa using hk
  rw [List.getElem_reverse, List.getElem_reverse]
  have z := norep_at h (l.length - 1 - (k + 2)) (by omega)
  have e : l.length - 1 - (k + 2) + 2 = l.length - 1 - k := by omega
  simp only [e] at z
  exact fun q => z q.symm
theorem step_mem {st : List Nat} {t c : Nat} (h : c ∈ stepW st t) : c = t ∨ c ∈ st := by
  have h1 : ∀ x, x ∈ pop st t → x ∈ st := fun x hx => by
    unfold pop at hx
    split at hx
    · exact hx
    · split at hx
      · exact List.mem_cons_of_mem _ hx
      · exact hx
  have h2 : ∀ r, c ∈ put r t → c = t ∨ c ∈ r := fun r hr => by
    unfold put at hr
    split at hr
    · split at hr
      · exact .inr hr
      · exact List.mem_cons.mp hr
    · exact List.mem_cons.mp hr
  rcases h2 _ h with e | e
  · exact .inl e
  · exact .inr (h1 _ e)
theorem fold_mem : ∀ (t st : List Nat) (c : Nat), c ∈ t.foldl stepW st → c ∈ t ∨ c ∈ st
  | [], st, c, h => .inr h
  | x :: r, st, c, h => by
    rcases fold_mem r (stepW st x) c h with e | e
    · exact .inl (List.mem_cons_of_mem _ e)
    · rcases step_mem e with e | e
      · subst e; exact .inl (List.mem_cons_self)
      · exact .inr e
theorem wn_mem {t : List Nat} {c : Nat} (h : c ∈ wn t) : c ∈ t := by
  unfold wn at h
  rw [List.mem_reverse] at h
  rcases fold_mem t [] c h with e | e
  · exact e
  · cases e
theorem wnR_ok (t : List Nat) : Alt (wnR t) ∧ NoRep (wnR t) := fold_ok t [] trivial trivial
theorem wn_alt (t : List Nat) : Alt (wn t) := alt_rev (wnR_ok t).1
theorem wn_norep (t : List Nat) : NoRep (wn t) := norep_rev (wnR_ok t).2
end TM
end
section
set_option maxHeartbeats 4000000
set_option linter.all false
namespace TM
def mb (l : List Nat) : List Nat := l.filter fun c => c != 46
def dots (n : Nat) : List Nat := List.replicate n 46
def sl (s : Bool) (l : List Nat) : List Nat := if s then mb l ++ dots (l.length - (mb l).length) else dots (l.length - (mb l).length) ++ mb l
theorem mb_le (l : List Nat) : (mb l).length ≤ l.length := List.length_filter_le _ _
theorem mb_dots (n : Nat) : mb (dots n) = [] := by
  unfold mb dots
  rw [List.filter_eq_nil_iff]
  intro a ha
  rw [(List.mem_replicate.mp ha).2]
  decide
theorem mb_app (a b : List Nat) : mb (a ++ b) = mb a ++ mb b := List.filter_append ..
theorem mb_mb (l : List Nat) : mb (mb l) = mb l := by unfold mb; rw [List.filter_filter]; simp
theorem sl_len (s : Bool) (l : List Nat) : (sl s l).length = l.length := by
  have := mb_le l
  cases s <;> simp [sl, dots] <;> omega
theorem mb_sl (s : Bool) (l : List Nat) : mb (sl s l) = mb l := by
  cases s <;> simp [sl, mb_app, mb_dots, mb_mb]
theorem sl_sl (s s' : Bool) (l : List Nat) : sl s (sl s' l) = sl s l := by
  have h := sl_len s' l
  have h2 := mb_sl s' l
  unfold sl at h h2 ⊢
  rw [h, h2]
/-- where a slid line is empty -/
theorem sl_at (s : Bool) (l : List Nat) (j : Nat) (hj : j < l.length) : ((sl s l).getD j 46 = 46) ↔ (if s then (mb l).length ≤ j else j < l.length - (mb l).length) := by
  have hm : ∀ c ∈ mb l, c ≠ 46 := fun c hc => by
    have := (List.mem_filter.mp hc).2
    simpa using this
  have hle := mb_le l
  rw [List.getD_eq_getElem?_getD]
  cases s with
  | true =>
    simp only [sl, if_true]
    by_cases h : j < (mb l).length
    · rw [List.getElem?_append_left h, List.getElem?_eq_getElem h]
      have := hm _ (List.getElem_mem h)
      constructor
      · intro e
        exact absurd e this
      · intro e
        omega
    · rw [List.getElem?_append_right (by omega)]
      unfold dots
      rw [List.getElem?_replicate]
      constructor
      · intro _
        omega
      · intro _
        split <;> rfl
  | false =>
    simp only [sl, Bool.false_eq_true, if_false]
    by_cases h : j < l.length - (mb l).length
    · rw [List.getElem?_append_left (by simp [dots]; omega)]
      unfold dots
      rw [List.getElem?_replicate, if_pos h]
      exact ⟨fun _ => h, fun _ => rfl⟩
    · have hk : j - (l.length - (mb l).length) < (mb l).length := by omega
      rw [List.getElem?_append_right (by simp [dots]; omega)]
      have e : (dots (l.length - (mb l).length)).length = l.length - (mb l).length := by simp [dots]
      rw [e, List.getElem?_eq_getElem hk]
      have := hm _ (List.getElem_mem hk)
      exact ⟨fun q => absurd q this, fun q => absurd q h⟩
/-- pushed to one end -/
def Ju (s : Bool) (l : List Nat) : Prop := ∀ j, j + 1 < l.length → if s then l.getD j 46 = 46 → l.getD (j + 1) 46 = 46 else l.getD (j + 1) 46 = 46 → l.getD j 46 = 46
theorem all_dots : ∀ {l : List Nat}, (∀ j, j + 1 < l.length → l.getD j 46 = 46 → l.getD (j + 1) 46 = 46) → l.getD 0 46 = 46 → l = dots l.length
  | [], _, _ => rfl
  | [a], _, h0 => by
    have : a = 46 := h0
    subst this
    rfl
  | a :: b :: r, h, h0 => by
    have ha : a = 46 := h0
    have hb : b = 46 := h 0 (by simp) h0
    have z := all_dots (l := b :: r) (fun j hj q => h (j + 1) (by simp at hj ⊢; omega) q) hb
    subst ha
    rw [z]
    simp [dots, List.replicate_succ]
theorem ju_left : ∀ {l : List Nat}, Ju true l → sl true l = l
  | [], _ => rfl
  | a :: r, h => by
    have h' : ∀ j, j + 1 < (a :: r).length → (a :: r).getD j 46 = 46 → (a :: r).getD (j + 1) 46 = 46 := fun j hj => by simpa using h j hj
    by_cases e : a = 46
    · have z := all_dots h' (show a = 46 from e)
      rw [z]
      simp only [sl, if_true, mb_dots]
      simp [dots]
    · have z := ju_left (l := r) fun j hj => by
        have q := h' (j + 1) (by simp at hj ⊢; omega)
        simpa using q
      simp only [sl, if_true] at z ⊢
      have em : mb (a :: r) = a :: mb r := by simp [mb, List.filter_cons, e]
      have el : (a :: r).length - (mb (a :: r)).length = r.length - (mb r).length := by rw [em]; simp
      rw [el, em, List.cons_append, z]
theorem ju_rev {l : List Nat} (h : Ju false l) : Ju true l.reverse := fun j hj => by
  have hj' : j + 1 < l.length := by simpa using hj
  have z := h (l.length - 1 - (j + 1)) (by omega)
  simp only [if_true]
  simp only [Bool.false_eq_true, if_false] at z
  have e : l.length - 1 - (j + 1) + 1 = l.length - 1 - j := by omega
  rw [e] at z
  rw [List.getD_eq_getElem?_getD, List.getElem?_reverse (by omega), List.getD_eq_getElem?_getD, List.getElem?_reverse (by omega)]
  rw [List.getD_eq_getElem?_getD, List.getD_eq_getElem?_getD] at z
  exact z
theorem sl_rev (l : List Nat) : sl false l = (sl true l.reverse).reverse := by
  have e : mb l.reverse = (mb l).reverse := by unfold mb; rw [List.filter_reverse]
  simp [sl, e, dots]
theorem ju_sl {s : Bool} {l : List Nat} (h : Ju s l) : sl s l = l := by
  cases s with
  | true => exact ju_left h
  | false => rw [sl_rev, ju_left (ju_rev h), List.reverse_reverse]
theorem sl_ju (s : Bool) (l : List Nat) : Ju s (sl s l) := fun j hj => by
  rw [sl_len] at hj
  have h1 := sl_at s l j (by omega)
  have h2 := sl_at s l (j + 1) hj
  cases s with
  | true =>
    simp only [if_true] at h1 h2 ⊢
    rw [h1, h2]
    omega
  | false =>
    simp only [Bool.false_eq_true, if_false] at h1 h2 ⊢
    rw [h1, h2]
    omega
abbrev Grid := List (List Nat)
def tr (m : Nat) (g : Grid) : Grid := (List.range m).map fun j => g.map fun r => r.getD j 46
def Rect (n m : Nat) (g : Grid) : Prop := g.length = n ∧ ∀ r ∈ g, r.length = m
theorem tr_rect {n m : Nat} {g : Grid} (h : Rect n m g) : Rect m n (tr m g) := by
  refine ⟨by simp [tr], fun r hr => ?_⟩
  obtain ⟨j, _, rfl⟩ := List.mem_map.mp hr
  simp [h.1]
theorem tr_get {m j : Nat} {g : Grid} (hj : j < m) : (tr m g)[j]? = some (g.map fun r => r.getD j 46) := by
  unfold tr
  rw [List.getElem?_map, List.getElem?_range hj]
  rfl
theorem tr_tr {n m : Nat} {g : Grid} (h : Rect n m g) : tr n (tr m g) = g := by
  refine List.ext_getElem? fun i => ?_
  by_cases hi : i < n
  · rw [tr_get hi]
    have hi' : i < g.length := by rw [h.1]; exact hi
    rw [List.getElem?_eq_getElem hi']
    congr 1
    have hl : g[i].length = m := h.2 _ (List.getElem_mem hi')
    refine List.ext_getElem? fun j => ?_
    rw [List.getElem?_map]
    by_cases hj : j < m
    · rw [tr_get hj]
      show some ((g.map fun r => r.getD j 46).getD i 46) = _
      rw [List.getD_eq_getElem?_getD, List.getElem?_map, List.getElem?_eq_getElem hi']
      show some (g[i].getD j 46) = _
      rw [List.getD_eq_getElem?_getD, List.getElem?_eq_getElem (by omega)]
      rfl
    · rw [List.getElem?_eq_none (by rw [(tr_rect h).1]; omega), List.getElem?_eq_none (by omega)]
      rfl
  · rw [List.getElem?_eq_none (by rw [(tr_rect (tr_rect h)).1]; omega), List.getElem?_eq_none (by rw [h.1]; omega)]
def LT (s : Bool) (g : Grid) : Grid := g.map (sl s)
def UT (s : Bool) (n m : Nat) (g : Grid) : Grid := tr n (LT s (tr m g))
theorem lt_rect {s : Bool} {n m : Nat} {g : Grid} (h : Rect n m g) : Rect n m (LT s g) := by
  refine ⟨by simp [LT, h.1], fun r hr => ?_⟩
  obtain ⟨q, hq, rfl⟩ := List.mem_map.mp hr
  rw [sl_len]
  exact h.2 q hq
theorem ut_rect {s : Bool} {n m : Nat} {g : Grid} (h : Rect n m g) : Rect n m (UT s n m g) := tr_rect (lt_rect (tr_rect h))
theorem lt_lt (a b : Bool) (g : Grid) : LT b (LT a g) = LT b g := by
  unfold LT
  rw [List.map_map]
  refine List.map_congr_left fun r _ => ?_
  exact sl_sl b a r
theorem ut_ut {a b : Bool} {n m : Nat} {g : Grid} (h : Rect n m g) : UT b n m (UT a n m g) = UT b n m g := by
  unfold UT
  rw [tr_tr (lt_rect (tr_rect h)), lt_lt]
/-- the core: a tray pushed to one side stays pushed to it when it is tilted along the other axis -/
theorem lul {a o : Bool} {n m : Nat} {g : Grid} (h : Rect n m g) : LT a (UT o n m (LT a g)) = UT o n m (LT a g) := by
  have hy := lt_rect (s := a) h
  generalize ey : LT a g = y at hy
  have hju : ∀ r ∈ y, Ju a r := fun r hr => by
    rw [← ey] at hr
    obtain ⟨q, _, rfl⟩ := List.mem_map.mp hr
    exact sl_ju a q
  have hz := ut_rect (s := o) hy
  suffices H : ∀ r ∈ UT o n m y, Ju a r by
    unfold LT
    conv => rhs; rw [← List.map_id (UT o n m y)]
    exact List.map_congr_left fun r hr => ju_sl (H r hr)
  intro r hr
  obtain ⟨i, hi, rfl⟩ := List.mem_map.mp hr
  have hi' := List.mem_range.mp hi
  have cnt : ∀ j, j + 1 < m → if a then (mb (y.map fun r => r.getD (j + 1) 46)).length ≤ (mb (y.map fun r => r.getD j 46)).length else (mb (y.map fun r => r.getD j 46)).length ≤ (mb (y.map fun r => r.getD (j + 1) 46)).length := by
    intro j hj
    have key : ∀ (z : Grid), (∀ r ∈ z, r.length = m ∧ Ju a r) → if a then (mb (z.map fun r => r.getD (j + 1) 46)).length ≤ (mb (z.map fun r => r.getD j 46)).length else (mb (z.map fun r => r.getD j 46)).length ≤ (mb (z.map fun r => r.getD (j + 1) 46)).length := by
      intro z
      induction z with
      | nil => intro _; cases a <;> simp [mb]
      | cons r z ih =>
        intro hz
        have q1 := ih fun r' hr' => hz r' (List.mem_cons_of_mem _ hr')
        obtain ⟨hl, hJ⟩ := hz r (List.mem_cons_self ..)
        have hJ' := hJ j (by omega)
        cases a with
        | true =>
          simp only [if_true] at q1 hJ' ⊢
          simp only [mb, List.map_cons, List.filter_cons] at q1 ⊢
          by_cases e : r.getD j 46 = 46
          · rw [hJ' e, e]
            simpa using q1
          · by_cases e2 : r.getD (j + 1) 46 = 46
            · rw [e2]
              simp only [bne_self_eq_false, Bool.false_eq_true, if_false]
              rw [if_pos (by simpa using e)]
              simp only [List.length_cons]
              omega
            · rw [if_pos (by simpa using e2), if_pos (by simpa using e)]
              simp only [List.length_cons]
              omega
        | false =>
          simp only [Bool.false_eq_true, if_false] at q1 hJ' ⊢
          simp only [mb, List.map_cons, List.filter_cons] at q1 ⊢
          by_cases e : r.getD (j + 1) 46 = 46
          · rw [hJ' e, e]
            simpa using q1
          · by_cases e2 : r.getD j 46 = 46
            · rw [e2]
              simp only [bne_self_eq_false, Bool.false_eq_true, if_false]
              rw [if_pos (by simpa using e)]
              simp only [List.length_cons]
              omega
            · rw [if_pos (by simpa using e2), if_pos (by simpa using e)]
              simp only [List.length_cons]
              omega
    exact key y fun r hr => ⟨hy.2 r hr, hju r hr⟩
  have at_ : ∀ j, j < m → ((LT o (tr m y)).map fun r => r.getD i 46).getD j 46 = (sl o (y.map fun r => r.getD j 46)).getD i 46 := fun j hj => by
    rw [List.getD_eq_getElem?_getD, List.getElem?_map, LT, List.getElem?_map, tr_get hj]
    rfl
  intro j hj
  have hjm : j + 1 < m := by
    have : ((LT o (tr m y)).map fun r => r.getD i 46).length = m := by simp [LT, (tr_rect hy).1]
    omega
  rw [at_ j (by omega), at_ (j + 1) hjm]
  have s1 := sl_at o (y.map fun r => r.getD j 46) i (by simp [hy.1]; exact hi')
  have s2 := sl_at o (y.map fun r => r.getD (j + 1) 46) i (by simp [hy.1]; exact hi')
  have c := cnt j hjm
  have l1 : (y.map fun r => r.getD j 46).length = n := by simp [hy.1]
  have l2 : (y.map fun r => r.getD (j + 1) 46).length = n := by simp [hy.1]
  rw [l1] at s1
  rw [l2] at s2
  cases a <;> cases o <;> simp only [if_true, Bool.false_eq_true, if_false] at c s1 s2 ⊢ <;> rw [s1, s2] <;> omega
theorem ulu {a o : Bool} {n m : Nat} {g : Grid} (h : Rect n m g) : UT a n m (LT o (UT a n m g)) = LT o (UT a n m g) := by
  have z := lul (a := a) (o := o) (tr_rect h)
  have e1 : LT o (UT a n m g) = tr n (UT o m n (LT a (tr m g))) := by
    unfold UT
    rw [tr_tr (lt_rect (tr_rect (lt_rect (tr_rect h))))]
  have hr : Rect m n (UT o m n (LT a (tr m g))) := ut_rect (lt_rect (tr_rect h))
  rw [e1]
  show tr n (LT a (tr m (tr n (UT o m n (LT a (tr m g)))))) = _
  rw [tr_tr hr, z]
/-- a tilt -/
def tilt (n m : Nat) (g : Grid) (c : Nat) : Grid := if isH c then LT (c == 108) g else UT (c == 117) n m g
theorem tilt_rect {n m c : Nat} {g : Grid} (h : Rect n m g) : Rect n m (tilt n m g c) := by
  unfold tilt
  split
  · exact lt_rect h
  · exact ut_rect h
theorem tilt_two {n m a b : Nat} {g : Grid} (h : Rect n m g) (e : isH a = isH b) : tilt n m (tilt n m g a) b = tilt n m g b := by
  unfold tilt
  rw [e]
  split
  · exact lt_lt _ _ g
  · exact ut_ut h
theorem tilt_again {n m a o : Nat} {g : Grid} (h : Rect n m g) (e : isH o ≠ isH a) : tilt n m (tilt n m (tilt n m g a) o) a = tilt n m (tilt n m g a) o := by
  unfold tilt
  cases ha : isH a with
  | true =>
    have ho : isH o = false := by cases q : isH o with | false => rfl | true => exact absurd (q.trans ha.symm) e
    simp only [ho, if_true, Bool.false_eq_true, if_false]
    exact lul h
  | false =>
    have ho : isH o = true := by cases q : isH o with | true => rfl | false => exact absurd (q.trans ha.symm) e
    simp only [ho, if_true, Bool.false_eq_true, if_false]
    exact ulu h
def tilts (n m : Nat) (t : List Nat) (g : Grid) : Grid := t.foldl (tilt n m) g
theorem tilts_rect {n m : Nat} : ∀ (t : List Nat) {g : Grid}, Rect n m g → Rect n m (tilts n m t g)
  | [], _, h => h
  | c :: t, g, h => tilts_rect t (tilt_rect (c := c) h)
theorem tilts_snoc {n m c : Nat} (t : List Nat) (g : Grid) : tilts n m (t ++ [c]) g = tilt n m (tilts n m t g) c := by simp [tilts]
theorem tilts_step {n m t : Nat} {st : List Nat} {g : Grid} (h : Rect n m g) (a1 : Alt st) (a2 : NoRep st) : tilts n m (stepW st t).reverse g = tilt n m (tilts n m st.reverse g) t := by
  have hp : tilt n m (tilts n m (pop st t).reverse g) t = tilt n m (tilts n m st.reverse g) t := by
    cases st with
    | nil => rfl
    | cons a r =>
      show tilt n m (tilts n m (if isH a = isH t then r else a :: r).reverse g) t = _
      by_cases e : isH a = isH t
      · rw [if_pos e, List.reverse_cons, tilts_snoc, tilt_two (tilts_rect _ h) e]
      · rw [if_neg e]
  obtain ⟨_, _, p3⟩ := pop_ok (t := t) a1 a2
  rw [← hp]
  unfold stepW
  generalize pop st t = s at p3
  match s, p3 with
  | [], _ => rfl
  | [x], _ => rfl
  | x :: y :: r, p3 =>
    show tilts n m (if y = t then x :: y :: r else t :: x :: y :: r).reverse g = _
    by_cases e : y = t
    · rw [if_pos e, List.reverse_cons, List.reverse_cons, tilts_snoc, tilts_snoc, e]
      exact (tilt_again (tilts_rect _ h) (p3 x _ rfl)).symm
    · rw [if_neg e, List.reverse_cons, tilts_snoc]
theorem tilts_fold {n m : Nat} {g : Grid} (h : Rect n m g) : ∀ (t st : List Nat), Alt st → NoRep st → tilts n m (t.foldl stepW st).reverse g = tilts n m t (tilts n m st.reverse g)
  | [], st, _, _ => rfl
  | c :: t, st, a1, a2 => by
    obtain ⟨b1, b2⟩ := step_ok (t := c) a1 a2
    show tilts n m (t.foldl stepW (stepW st c)).reverse g = tilts n m t (tilt n m (tilts n m st.reverse g) c)
    rw [tilts_fold h t _ b1 b2, tilts_step h a1 a2]
/-- short words do the same -/
theorem short_same {n m : Nat} {g : Grid} (h : Rect n m g) (t : List Nat) : tilts n m (wn t) g = tilts n m t g := tilts_fold h t [] trivial trivial
end TM
end
section
set_option Elab.async false
set_option maxRecDepth 100000
set_option linter.all false
namespace TK
open PySem L2
def top (i : Nat) : Stmt := PySem.Challenge.pw_tiltheap_k07_fewest_tilts.main.body.getD i (.Pass ⟨0, 0, 0, 0⟩)
abbrev sUnknownMarbleInit : Stmt := inClass (top 5) 0
abbrev sIsNumber : Stmt := top 10
abbrev sIsPlace : Stmt := top 11
abbrev sCheckMarble : Stmt := top 12
abbrev sCheckPlace : Stmt := top 13
abbrev sIsTilt : Stmt := top 19
abbrev sWordInit : Stmt := inClass (top 20) 1
abbrev sWordText : Stmt := inClass (top 20) 2
abbrev sFirstWrongIndex : Stmt := top 21
abbrev sFewestToPlace : Stmt := top 23
abbrev sFewestToMeet : Stmt := top 24
abbrev sFewestToTray : Stmt := top 25
abbrev sAreNeighbours : Stmt := top 26
abbrev sFirstWay : Stmt := top 27
abbrev sShortestWays : Stmt := top 28
abbrev sNextTilts : Stmt := top 29
abbrev sTrayInit : Stmt := inClass (top 34) 0
abbrev sTrayOfText : Stmt := inClass (top 34) 1
abbrev sTrayRows : Stmt := inClass (top 34) 2
abbrev sTrayMarbles : Stmt := inClass (top 34) 3
abbrev sTrayHeight : Stmt := inClass (top 34) 4
abbrev sTrayWidth : Stmt := inClass (top 34) 5
abbrev sTrayAt : Stmt := inClass (top 34) 6
abbrev sTrayCall : Stmt := inClass (top 34) 7
abbrev sTrayContains : Stmt := inClass (top 34) 8
abbrev sTrayRshift : Stmt := inClass (top 34) 9
abbrev sTrayEq : Stmt := inClass (top 34) 10
abbrev sFirstWrongCell : Stmt := top 35
abbrev sIsRow : Stmt := top 36
abbrev sTilted : Stmt := top 37
abbrev sSlid : Stmt := top 38
abbrev sLawTaken : Stmt := top 40
abbrev sLawAlike : Stmt := top 41
abbrev sLawRaised : Stmt := top 42
abbrev sLawRows : Stmt := top 43
abbrev sLawTilted : Stmt := top 44
abbrev sLawPlaces : Stmt := top 45
abbrev sLawLevels : Stmt := top 46
abbrev sLawBest : Stmt := top 47
abbrev sLawAreBeside : Stmt := top 48
abbrev sLawAreRejected : Stmt := top 49
abbrev sLaw : Stmt := top 50
/-- a text by its signs; one sign -/
abbrev S (t : List Nat) : Str := ⟨t.toArray⟩
abbrev sg (c : Nat) : V := .str ⟨#[c]⟩
theorem S_len (t : List Nat) : (S t).length = t.length := SX.S_len t
theorem S_size (t : List Nat) : (S t).cps.size = t.length := by simp [S]
theorem S_at (t : List Nat) (i : Nat) : (S t).cps[i]? = t[i]? := by simp [S]
theorem S_list (t : List Nat) : (S t).cps.toList = t := by simp [S]
theorem S_of (z : Str) : z = S z.cps.toList := (SX.S_tl z).symm
theorem S_inj {a b : List Nat} (h : S a = S b) : a = b := SX.S_inj h
theorem join_S (a : List Nat) (ys : List (List Nat)) : Txt.join (S a) (ys.map S) = S (TL.joinL a ys) := SX.join_S a ys
theorem joinL_nil : ∀ l : List (List Nat), TL.joinL [] l = l.flatten
  | [] => rfl
  | [p] => by simp [TL.joinL]
  | p :: q :: r => by
    have := joinL_nil (q :: r)
    simp only [TL.joinL, List.nil_append, this, List.flatten_cons]
theorem flat_ones : ∀ l : List Nat, (l.map fun c => [c]).flatten = l
  | [] => rfl
  | c :: r => by simp [flat_ones r]
theorem join_signs (l : List Nat) : Txt.join (Str.ofString "") (l.map fun c => S [c]) = S l := by
  have e := join_S [] (l.map fun c => [c])
  rw [List.map_map, joinL_nil, flat_ones] at e
  exact e
theorem sum_ones (l : List Nat) : ((l.map fun c => S [c]).map (·.length)).sum = l.length := by
  induction l with
  | nil => rfl
  | cons c r ih =>
    rw [List.map_cons, List.map_cons, List.sum_cons, ih]
    show 1 + r.length = r.length + 1
    omega
theorem same_new {H : Hp} {l : Addr} {o : HO} (h : H l = none) : Same H (upd H l o) := fun b o' e => by
  rw [upd_ne (ne_of_none e h)]
  exact e
theorem _root_.L2.Same.tup {K : PySem.W.Frag} {H H' : Hp} {a : Addr} {xs : List V} (e : Same H H') (h : SqT K H a xs) : SqT K H' a xs := by
  rcases h with (h | ⟨o, h⟩) | h
  · exact .inl (.inl (e _ _ h))
  · exact .inl (.inr ⟨o, e _ _ h⟩)
  · exact .inr h
/-- a store at an address that was new -/
theorem same_put {H H1 : Hp} {l : Addr} {o : HO} (s : Same H H1) (h : H l = none) : Same H (upd H1 l o) := fun b o' e => by
  rw [upd_ne (ne_of_none e h)]
  exact s b o' e
end TK
end
section
set_option Elab.async false
set_option maxRecDepth 100000
set_option linter.all false
namespace TK
open PySem L2 TM
/-- what is written about words -/
structure TxtW (K : PySem.W.Frag) (mg : Str → Option Value) : Prop where
  len : mg "len" = none
  isi : mg "isinstance" = none
  str : mg "str" = none
  enum : mg "enumerate" = none
  AR : ∃ u, mg "ALONG_ROWS" = some u ∧ RelV (.str (S [108, 114])) u
  AC : ∃ u, mg "ALONG_COLUMNS" = some u ∧ RelV (.str (S [117, 100])) u
section
variable {P : Program} {w : World} {K : PySem.W.Frag} {mg : Str → Option Value} {base : Heap}
theorem dAR (c : Nat) : decide (c ∈ (S [108, 114]).cps.toList) = isH c := by
  rw [S_list]
  by_cases h : isH c = true
  · rw [h, decide_eq_true]
    simpa [isH] using h
  · rw [Bool.not_eq_true] at h
    rw [h, decide_eq_false]
    simpa [isH] using h
end
end TK
end
section
set_option Elab.async false
set_option maxRecDepth 100000
set_option linter.all false
namespace TK
open PySem L2 TM
/-- is it a tilt's letter -/
def isT (c : Nat) : Bool := decide (c ∈ [108, 114, 117, 100])
/-- a word's text: tilts, so many at most -/
def Good (t : List Nat) : Prop := t.length ≤ 60 ∧ ∀ c ∈ t, isT c = true
def WordAt (C : Addr) (H : Hp) (a : Addr) (t : List Nat) : Prop := ∃ dx, H a = some (.ins C dx [("_text", .str (S t))])
/-- the class Word as the top has made it -/
structure ClsW (K : PySem.W.Frag) (mg : Str → Option Value) (C : Addr) : Prop where
  cl : Cls K C
  nT : NoAttr K C "_text"
  mgC : mg "Word" = some (.ref C)
  mx : ∃ mc u, ClX.CRead K C mc ∧ ClX.CVal K C mc "MAX_TILTS" (.int 60) u
section
variable {P : Program} {w : World} {K : PySem.W.Frag} {mg : Str → Option Value} {base : Heap} {C fT : Addr} {fdT : FuncData}
theorem scIt : FnScope ["value"] ["value"] (defScope sIsTilt) := ⟨rfl, rfl, rfl, by decide +kernel, rfl, by decide +kernel, by decide +kernel⟩
def spIt : Sp := fun vs H Q _ => ∃ c : Nat, vs = [sg c] ∧ Q (.bl (isT c)) H
theorem ok_it {f : Addr} {fd : FuncData} (F : Fun K "is_tilt" "is_tilt" sIsTilt f fd) (T : TxtW K mg) : FnOk P w K mg base CX0 1 f fd ["value"] spIt := by
  refine F.ok scIt (fun vs H Q E h => ?_) (fun cdv A outer s H vs Q E hr h => ?_)
  · obtain ⟨t, rfl, _⟩ := h
    rfl
  · obtain ⟨c, rfl, k⟩ := h
    refine ⟨_, pss_one (ps_ret (pe_and (pe_callB call_isi (by rfl) T.isi (by decide +kernel) (pa_cons (pv 0) (pa_cons (pe_bltn (v := .ty "str") (by rfl) T.str (by decide +kernel) rfl) pa_nil)))
      (pe_and (pe_cmpR op_eq (pe_callB call_len_str (by rfl) T.len PySem.boot_len (pa_cons (pv 0) pa_nil)) pe_int (nomark _))
        (pe_one (pe_cmpR op_in_sign (pv 0) (pe_op op_add_str (C8.pe_gc rfl T.AR) (C8.pe_gc rfl T.AC)) (by rfl)))))), ?_⟩
    refine ⟨_, rfl, _, _, _, _, true, rfl, .ty _, .base (.str _), kit_ty (by decide +kernel), true, rfl, iteT ?_⟩
    refine ⟨_, rfl, _, rfl, by show 1 ≤ sizeLine; decide, rfl, true, rfl, iteT ?_⟩
    refine ⟨_, rfl, _, _, rfl, rfl, by show 4 ≤ sizeLine; decide, c, _, rfl, rfl, ?_⟩
    exact k
theorem scFwi : FnScope ["text", "index", "letter"] ["text"] (defScope sFirstWrongIndex) := ⟨rfl, rfl, rfl, by decide +kernel, rfl, by decide +kernel, by decide +kernel⟩
def spFwi : Sp := fun vs H Q _ => ∃ t : List Nat, vs = [.str (S t)] ∧ Good t ∧ ∀ H', Same H H' → Q .non H'
theorem ok_fwi {f : Addr} {fd : FuncData} (F : Fun K "_first_wrong_index" "_first_wrong_index" sFirstWrongIndex f fd) (T : TxtW K mg) (CW : ClsW K mg C) (FT : Fun K "is_tilt" "is_tilt" sIsTilt fT fdT) (bT : Binds K fdT ["value"] []) (mT : mg "is_tilt" = some (.ref fT)) :
    FnOk P w K mg base CX0 2 f fd ["text"] spFwi := by
  have GT : FnOk P w K mg base CX0 1 fT fdT ["value"] spIt := ok_it FT T
  refine F.ok scFwi (fun vs H Q E h => ?_) (fun cdv A outer s H vs Q E hr h => ?_)
  · obtain ⟨t, rfl, _⟩ := h
    rfl
  · obtain ⟨t, rfl, ⟨hl, hg⟩, k⟩ := h
    refine ⟨_, pss_cons (ps_if (pt_not (pt_val (pe_callB call_isi (by rfl) T.isi (by decide +kernel) (pa_cons (pv 0) (pa_cons (pe_bltn (v := .ty "str") (by rfl) T.str (by decide +kernel) rfl) pa_nil))))) pss_never pss_nil)
      (pss_cons (ps_for PassesOwn.never rfl (TH.pi_enumS (by rfl) T.enum (pa_cons (pv 0) pa_nil)) (pg_tup rfl (pgs_cons (pg_name (i := 1) scFwi.nd rfl (.inl rfl)) (pgs_cons (pg_name (i := 2) scFwi.nd rfl (.inl rfl)) pgs_nil)))
        (pss_one (ps_if (PW.pt (pw_or (pt_cmpR op_ge (pv 1) (ClX.pe_cval (pe_glob (v := .ref C) rfl CW.mgC rfl)) (nomark _)) (pw_or1 (pt_not (pt_val (pe_call GT hr rfl mT FT.kp bT .nil pass0 (pa_cons (pv 2) pa_nil))))))) pss_never pss_nil)))
      (pss_one (ps_ret pe_non))), ?_⟩
    refine ⟨_, rfl, _, _, _, _, true, rfl, .ty _, .base (.str _), kit_ty (by decide +kernel), true, rfl, iteF ?_⟩
    refine ⟨_, rfl, _, rfl, for_it TH.walk_enumS (fun i σ H1 => ∃ v1 v2, σ = [some (.str (S t)), v1, v2] ∧ Same H H1) ⟨none, none, rfl, Same.refl H⟩ (fun _ _ _ _ _ => True.intro) ?_ ?_⟩
    · rintro i x σ H1 H2 hi ⟨v1, v2, rfl, sm⟩ ⟨p, c, rfl, hn, rfl, hc⟩
      rw [S_at] at hc
      have hit : i < t.length := (List.getElem?_eq_some_iff.mp hc).1
      have hcm : isT c = true := hg c (List.mem_of_getElem? hc)
      refine ⟨p, _, rfl, SqT.of upd_same, rfl, ?_⟩
      obtain ⟨mc, u, cr, cv⟩ := CW.mx
      refine ⟨_, _, rfl, _, _, rfl, rfl, _, rfl, C, mc, _, u, rfl, cr, cv, _, _, rfl, rfl, _, rfl, ?_⟩
      have e1 : decide ((i : Int) ≥ (60 : Int)) = false := decide_eq_false (by omega)
      rw [e1]
      refine iteF ⟨_, rfl, c, rfl, true, by rw [hcm], iteF ⟨_, _, rfl, sm.trans (same_new hn)⟩⟩
    · rintro σ H1 ⟨v1, v2, rfl, sm⟩
      exact k _ sm
theorem scWi : FnScope ["self", "text", "wrong"] ["self", "text"] (defScope sWordInit) := ⟨rfl, rfl, rfl, by decide +kernel, rfl, by decide +kernel, by decide +kernel⟩
def spWi (C : Addr) : Sp := fun vs H Q _ => ∃ (p dx : Addr) (t : List Nat), vs = [.ref p, .str (S t)] ∧ H p = some (.ins C dx []) ∧ Good t ∧ ∀ H', WordAt C H' p t → (∀ b o, H b = some o → b ≠ p → H' b = some o) → Q .non H'
theorem ok_wi {f fW : Addr} {fd fdW : FuncData} (F : Fun K "__init__" "Word.__init__" sWordInit f fd) (CW : ClsW K mg C) (GW : FnOk P w K mg base CX0 2 fW fdW ["text"] spFwi) (kW : PySem.W.keepIn K (.ref fW) = true) (bW : Binds K fdW ["text"] []) (mW : mg "_first_wrong_index" = some (.ref fW)) :
    FnOk P w K mg base CX0 3 f fd ["self", "text"] (spWi C) := by
  refine F.ok scWi (fun vs H Q E h => ?_) (fun cdv A outer s H vs Q E hr h => ?_)
  · obtain ⟨p, dx, t, rfl, _⟩ := h
    rfl
  · obtain ⟨p, dx, t, rfl, hp, hg, k⟩ := h
    refine ⟨_, pss_cons (ps_set (i := 2) scWi.nd rfl (.inl rfl) (pe_call GW hr rfl mW kW bW .nil pass0 (pa_cons (pv 1) pa_nil)))
      (pss_cons (ps_if (pt_cmpR op_notN (pv 2) pe_non (nomark _)) pss_never pss_nil)
      (pss_one (ps_fld (pv 0) (pv 1) rfl))), ?_⟩
    refine ⟨_, rfl, t, rfl, hg, fun H1 sm => ?_⟩
    refine ⟨_, rfl, rfl, _, rfl, iteF ?_⟩
    refine ⟨_, rfl, _, rfl, p, C, dx, [], rfl, sm _ _ hp, CW.cl, CW.nT, (by show 0 < 1000; decide), ?_⟩
    exact k _ ⟨dx, upd_same⟩ fun b o e hb => by rw [upd_ne hb]; exact sm _ _ e
end
end TK
end
section
set_option Elab.async false
set_option maxRecDepth 100000
set_option linter.all false
namespace TK
open PySem L2 TM
def letters : List Nat := [97, 98, 99, 100, 101, 102, 103, 104, 105, 106, 107, 108, 109, 110, 111, 112, 113, 114, 115, 116, 117, 118, 119, 120, 121, 122]
/-- a cell's sign: empty or a marble -/
def Cell (c : Nat) : Prop := c = 46 ∨ (97 ≤ c ∧ c ≤ 122)
theorem cell_in {c : Nat} (h : Cell c) : c ∈ [46] ++ letters := by
  unfold Cell at h
  simp only [letters, List.mem_append, List.mem_cons, List.not_mem_nil, or_false]
  omega
/-- rows that make a tray -/
structure VG (n m : Nat) (g : Grid) : Prop where
  rc : Rect n m g
  n1 : 1 ≤ n
  n8 : n ≤ 8
  m1 : 1 ≤ m
  m8 : m ≤ 8
  ok : ∀ r ∈ g, ∀ c ∈ r, Cell c
  nd : (mb g.flatten).Nodup
abbrev rowV (g : Grid) : List V := g.map fun r => V.str (S r)
theorem fresh {a b : List Nat} {c : Nat} (h : (mb (a ++ c :: b)).Nodup) : c ∉ mb a := fun hc => by
  have h46 : (c != 46) = true := (List.mem_filter.mp hc).2
  have e : mb (c :: b) = c :: mb b := by
    unfold mb
    rw [List.filter_cons, if_pos h46]
  rw [mb_app, e] at h
  exact (List.nodup_append.mp h).2.2 c hc c List.mem_cons_self rfl
/-- what comes ahead of the cell in column j of row i -/
def ahead (g : Grid) (r : List Nat) (i j : Nat) : List Nat := (g.take i).flatten ++ r.take j
theorem ahead_step {g : Grid} {r : List Nat} {i j c : Nat} (hc : r[j]? = some c) : ahead g r i (j + 1) = ahead g r i j ++ [c] := by
  unfold ahead
  rw [List.take_add_one, hc, List.append_assoc]
  rfl
theorem ahead_row {g : Grid} {r : List Nat} {i : Nat} (hr : g[i]? = some r) : (g.take (i + 1)).flatten = ahead g r i r.length := by
  unfold ahead
  rw [List.take_add_one, hr, List.take_length]
  simp
theorem ahead_all {g : Grid} {r : List Nat} {i j c : Nat} (hr : g[i]? = some r) (hc : r[j]? = some c) : ∃ b, g.flatten = ahead g r i j ++ c :: b := by
  have hi := (List.getElem?_eq_some_iff.mp hr).1
  have hj := (List.getElem?_eq_some_iff.mp hc).1
  have e1 : g = g.take i ++ r :: g.drop (i + 1) := by
    have := (List.getElem?_eq_some_iff.mp hr).2
    rw [← this]
    simp
  have e2 : r = r.take j ++ c :: r.drop (j + 1) := by
    have := (List.getElem?_eq_some_iff.mp hc).2
    rw [← this]
    simp
  refine ⟨r.drop (j + 1) ++ (g.drop (i + 1)).flatten, ?_⟩
  unfold ahead
  conv => lhs; rw [e1, List.flatten_append, List.flatten_cons, e2]
  simp
theorem mb_step {a : List Nat} {c : Nat} (h : c ≠ 46) : mb (a ++ [c]) = mb a ++ [c] := by
  rw [mb_app]
  simp [mb, h]
theorem mb_dot {a : List Nat} : mb (a ++ [46]) = mb a := by
  rw [mb_app]
  simp [mb]
/-- what is written about trays; t0: the text EMPTY's own token -/
structure TxtT (K : PySem.W.Frag) (mg : Str → Option Value) (t0 : Tok) : Prop where
  EM : mg "EMPTY" = some (.str (S [46]) t0)
  LE : ∃ u, mg "LETTERS" = some u ∧ RelV (.str (S letters)) u
  MS : ∃ u, mg "MAX_SIDE" = some u ∧ RelV (.int 8) u
  set : mg "set" = none
  zip : mg "zip" = none
  tup : mg "tuple" = none
theorem TxtT.em {K : PySem.W.Frag} {mg : Str → Option Value} {t0 : Tok} (T : TxtT K mg t0) : ∃ u, mg "EMPTY" = some u ∧ RelV (.str (S [46])) u := ⟨_, T.EM, ⟨_, rfl⟩⟩
section
variable {P : Program} {w : World} {K : PySem.W.Frag} {mg : Str → Option Value} {base : Heap} {t0 : Tok} {fR : Addr} {fdR : FuncData}
theorem scIr : FnScope ["row"] ["row"] (defScope sIsRow) := ⟨rfl, rfl, rfl, by decide +kernel, rfl, by decide +kernel, by decide +kernel⟩
def spIr : Sp := fun vs H Q _ => ∃ r : List Nat, vs = [.str (S r)] ∧ 1 ≤ r.length ∧ r.length ≤ 8 ∧ Q (.bl true) H
theorem ok_ir {f : Addr} {fd : FuncData} (F : Fun K "_is_row" "_is_row" sIsRow f fd) (T : TxtW K mg) (U : TxtT K mg t0) : FnOk P w K mg base CX0 1 f fd ["row"] spIr := by
  refine F.ok scIr (fun vs H Q E h => ?_) (fun cdv A outer s H vs Q E hr h => ?_)
  · obtain ⟨t, rfl, _⟩ := h
    rfl
  · obtain ⟨r, rfl, h1, h8, k⟩ := h
    refine ⟨_, pss_one (ps_ret (pe_and (pe_callB call_isi (by rfl) T.isi (by decide +kernel) (pa_cons (pv 0) (pa_cons (pe_bltn (v := .ty "str") (by rfl) T.str (by decide +kernel) rfl) pa_nil)))
      (pe_one (pe_chain op_le op_le pe_int (pe_callB call_len_str (by rfl) T.len PySem.boot_len (pa_cons (pv 0) pa_nil)) (C8.pe_gc rfl U.MS))))), ?_⟩
    refine ⟨_, rfl, _, _, _, _, true, rfl, .ty _, .base (.str _), kit_ty (by decide +kernel), true, rfl, iteT ?_⟩
    have hs : (S r).length ≤ sizeLine := by
      rw [S_len]
      show _ ≤ 16777216
      omega
    refine ⟨_, rfl, _, rfl, hs, _, _, rfl, rfl, _, rfl, ?_⟩
    have e1 : decide ((1 : Int) ≤ ((S r).length : Int)) = true := decide_eq_true (by rw [S_len]; omega)
    have e2 : decide (((S r).length : Int) ≤ (8 : Int)) = true := decide_eq_true (by rw [S_len]; omega)
    rw [e1]
    refine iteT ⟨_, _, rfl, rfl, ?_⟩
    show Q (V.bl (decide (((S r).length : Int) ≤ (8 : Int)))) H
    rw [e2]
    exact k
/-- the marbles of l are in the set at p -/
def Seen (P : Program) (w : World) (H : Hp) (p : Addr) (l : List Nat) (k : Nat) : Prop := ∃ (Z : Key → Bool) (n : Nat), H p = some (SetK P w p Z n) ∧ n ≤ k ∧ ∀ c : Nat, Z (.inr (S [c])) = decide (c ∈ mb l)
theorem one_inj {c d : Nat} : (Sum.inr (S [c]) : Key) = .inr (S [d]) ↔ c = d := ⟨fun h => by
  have := S_inj (Sum.inr.inj h)
  simpa using this, fun h => by rw [h]⟩
theorem scFc : FnScope ["rows", "seen", "number", "row", "column", "cell"] ["rows"] (defScope sFirstWrongCell) := ⟨rfl, rfl, rfl, by decide +kernel, rfl, by decide +kernel, by decide +kernel⟩
def spFc (K : PySem.W.Frag) : Sp := fun vs H Q _ => ∃ (a : Addr) (n m : Nat) (g : Grid), vs = [.ref a] ∧ SqT K H a (rowV g) ∧ VG n m g ∧ ∀ H', Same H H' → Q .non H'
theorem ok_fc {f : Addr} {fd : FuncData} (F : Fun K "_first_wrong_cell" "_first_wrong_cell" sFirstWrongCell f fd) (T : TxtW K mg) (U : TxtT K mg t0) (FR : Fun K "_is_row" "_is_row" sIsRow fR fdR) (bR : Binds K fdR ["row"] []) (mR : mg "_is_row" = some (.ref fR)) :
    FnOk P w K mg base CX0 2 f fd ["rows"] (spFc K) := by
  have GR : FnOk P w K mg base CX0 1 fR fdR ["row"] spIr := ok_ir FR T U
  refine F.ok scFc (fun vs H Q E h => ?_) (fun cdv A outer s H vs Q E hr h => ?_)
  · obtain ⟨a, n, m, g, rfl, _⟩ := h
    rfl
  · obtain ⟨a, n, m, g, rfl, hS, G, k⟩ := h
    refine ⟨_, pss_cons (ps_if (pt_not (pt_truth (pv 0) (by intro _; rfl))) pss_never pss_nil)
      (pss_cons (ps_set (i := 1) scFc.nd rfl (.inl rfl) (pe_callTy0 cr_set0K (by rfl) U.set (by decide +kernel)))
      (pss_cons (ps_for PassesOwn.never rfl (TH.pi_enumT (by rfl) T.enum (pa_cons (pv 0) pa_nil)) (pg_tup rfl (pgs_cons (pg_name (i := 2) scFc.nd rfl (.inl rfl)) (pgs_cons (pg_name (i := 3) scFc.nd rfl (.inl rfl)) pgs_nil)))
        (pss_cons (ps_if (PW.pt (pw_or (pt_cmpR op_ge (pv 2) (C8.pe_gc rfl U.MS) (nomark _)) (pw_or (pt_not (pt_val (pe_call GR hr rfl mR FR.kp bR .nil pass0 (pa_cons (pv 3) pa_nil))))
            (pw_or1 (pt_cmpR op_ne (pe_callB call_len_str (by rfl) T.len PySem.boot_len (pa_cons (pv 3) pa_nil)) (pe_callB call_len_str (by rfl) T.len PySem.boot_len (pa_cons (pe_ix ix_tup (pv 0) pe_int (fun _ _ => rfl)) pa_nil)) (nomark _)))))) pss_never pss_nil)
        (pss_one (ps_for PassesOwn.never rfl (TH.pi_enumS (by rfl) T.enum (pa_cons (pv 3) pa_nil)) (pg_tup rfl (pgs_cons (pg_name (i := 4) scFc.nd rfl (.inl rfl)) (pgs_cons (pg_name (i := 5) scFc.nd rfl (.inl rfl)) pgs_nil)))
          (pss_cons (ps_if (PW.pt (pw_or (pt_cmpR or_sinK (pv 5) (pv 1) (by rfl)) (pw_or1 (pt_cmpR op_notIn_sign (pv 5) (pe_op op_add_str (C8.pe_gc rfl U.em) (C8.pe_gc rfl U.LE)) (by rfl))))) pss_never pss_nil)
          (pss_one (ps_if (pt_cmpR op_ne (pv 5) (C8.pe_gc rfl U.em) (nomark _)) (pss_one (ps_expr (pe_saddK (pv 1) (pa_cons (pv 5) pa_nil)))) pss_nil)))))))
      (pss_one (ps_ret pe_non)))), ?_⟩
    have hg0 : (rowV g).isEmpty = false := by
      have := G.rc.1
      have := G.n1
      cases g with
      | nil => simp at *; omega
      | cons _ _ => rfl
    refine ⟨_, rfl, true, .inr (.inl ⟨_, hS, by rw [hg0]; rfl⟩), iteF ?_⟩
    refine ⟨rfl, fun p hp => ?_⟩
    refine ⟨_, rfl, a, rowV g, rfl, (same_new hp).tup hS, for_it TH.walk_enumT (fun i σ H1 => ∃ v2 v3 v4 v5, σ = [some (.ref a), some (.ref p), v2, v3, v4, v5] ∧ Same H H1 ∧ Seen P w H1 p (g.take i).flatten (i * 8))
      ⟨none, none, none, none, rfl, same_new hp, _, 0, upd_same, Nat.zero_le _, fun c => by simp [mb]⟩ (fun i σ H1 _ ⟨_, _, _, _, _, sm, _⟩ => sm.tup hS) ?_ ?_⟩
    · rintro i x σ H1 H2 hi ⟨v2, v3, v4, v5, rfl, sm, se⟩ ⟨q, y, rfl, hq, rfl, hy⟩
      obtain ⟨r, hr', rfl⟩ : ∃ r, g[i]? = some r ∧ y = V.str (S r) := by
        rw [List.getElem?_map] at hy
        cases e : g[i]? with
        | none => rw [e] at hy; cases hy
        | some r => rw [e] at hy; exact ⟨r, rfl, (Option.some.inj hy).symm⟩
      have hin : i < n := by
        have := (List.getElem?_eq_some_iff.mp hr').1
        rw [G.rc.1] at this
        exact this
      have hrm : r ∈ g := List.mem_of_getElem? hr'
      have hrl : r.length = m := G.rc.2 r hrm
      have n8 := G.n8
      have m1 := G.m1
      have m8 := G.m8
      refine ⟨_, _, rfl, SqT.of upd_same, rfl, _, _, rfl, _, _, rfl, rfl, ?_⟩
      have e1 : decide ((i : Int) ≥ (8 : Int)) = false := decide_eq_false (by omega)
      refine ⟨_, rfl, _, _, rfl, rfl, _, rfl, ?_⟩
      rw [e1]
      refine iteF ⟨_, rfl, r, rfl, by omega, by omega, true, rfl, iteF ?_⟩
      have sm2 : Same H (upd H1 q (.tup [.int (i : Nat), .str (S r)])) := sm.trans (same_new hq)
      have hs : (S r).length ≤ sizeLine := by
        rw [S_len]
        show _ ≤ 16777216
        omega
      obtain ⟨r0, hr0, hr0l⟩ : ∃ r0, g[0]? = some r0 ∧ r0.length = m := by
        have h0 : 0 < g.length := by rw [G.rc.1]; exact G.n1
        exact ⟨g[0], List.getElem?_eq_getElem h0, G.rc.2 _ (List.getElem_mem h0)⟩
      have hs0 : (S r0).length ≤ sizeLine := by
        rw [S_len]
        show _ ≤ 16777216
        omega
      refine ⟨_, rfl, _, rfl, hs, _, rfl, a, _, _, _, rfl, rfl, sm2.tup hS, atI_nat (j := 0) (v := V.str (S r0)) (by rw [List.getElem?_map, hr0]; all_goals rfl), _, rfl, hs0, rfl, _, rfl, ?_⟩
      have e2 : (!decide (V.int ((S r).length : Int) = V.int ((S r0).length : Int))) = false := by
        rw [S_len, S_len, hrl, hr0l]
        simp
      rw [e2]
      refine iteF ?_
      have se2 : Seen P w (upd H1 q (.tup [.int (i : Nat), .str (S r)])) p (g.take i).flatten (i * 8) := by
        obtain ⟨Z, n', h1, h2, h3⟩ := se
        exact ⟨Z, n', by rw [upd_ne (ne_of_none h1 hq)]; exact h1, h2, h3⟩
      refine ⟨_, rfl, S r, rfl, for_it TH.walk_enumS (fun j σ H2 => ∃ v4 v5, σ = [some (.ref a), some (.ref p), some (.int (i : Nat)), some (.str (S r)), v4, v5] ∧ Same H H2 ∧ Seen P w H2 p (ahead g r i j) (i * 8 + j))
        ⟨v4, v5, rfl, sm2, by unfold ahead; rw [List.take_zero, List.append_nil]; exact se2⟩ (fun _ _ _ _ _ => True.intro) ?_ ?_⟩
      · rintro j x σ H2 H3 hj ⟨v4, v5, rfl, sm, Z, k', hZ, hk', hz⟩ ⟨q', c, rfl, hq', rfl, hc⟩
        rw [S_at] at hc
        have hjm : j < m := by
          have := (List.getElem?_eq_some_iff.mp hc).1
          omega
        have hcell : Cell c := G.ok r hrm c (List.mem_of_getElem? hc)
        obtain ⟨b, hb⟩ := ahead_all hr' hc
        have hnew : c ∉ mb (ahead g r i j) := fresh (by rw [← hb]; exact G.nd)
        have hZ2 : upd H2 q' (.tup [.int (j : Nat), .str ⟨#[c]⟩]) p = some (SetK P w p Z k') := by rw [upd_ne (ne_of_none hZ hq')]; exact hZ
        refine ⟨_, _, rfl, SqT.of upd_same, rfl, _, _, rfl, _, _, rfl, rfl, ?_⟩
        have e3 : Z (.inr (S [c])) = false := by rw [hz c]; exact decide_eq_false hnew
        refine ⟨_, rfl, _, rfl, .inr (S [c]), p, Z, k', rfl, rfl, hZ2, _, rfl, ?_⟩
        rw [show (if false = true then !Z (.inr (S [c])) else Z (.inr (S [c]))) = false from e3]
        refine iteF ⟨_, rfl, _, _, rfl, rfl, by show 27 ≤ sizeLine; decide, c, _, rfl, rfl, _, rfl, ?_⟩
        have e4 : decide (c ∈ ((S [46] ++ S letters) : Str).cps.toList) = true := by
          rw [SX.S_cat]
          exact decide_eq_true (by rw [S_list]; exact cell_in hcell)
        rw [e4]
        refine iteF ⟨_, rfl, rfl, _, rfl, ?_⟩
        by_cases h46 : c = 46
        · subst h46
          refine iteF ⟨_, _, rfl, sm.trans (same_new hq'), Z, k', hZ2, by omega, fun d => ?_⟩
          rw [ahead_step hc, mb_dot]
          exact hz d
        · rw [show (!decide (sg c = V.str (S [46]))) = true by simp [h46]]
          refine iteT ⟨_, rfl, ⟨p, Z, k', rfl, hZ2⟩, _, rfl, p, .inr (S [c]), Z, k', rfl, rfl, hZ2, ?_, ?_⟩
          · show _ < 4096
            omega
          · refine ⟨_, _, rfl, same_put (sm.trans (same_new hq')) hp, _, _, upd_same, ?_, fun d => ?_⟩
            · rw [if_neg (by rw [e3]; exact Bool.false_ne_true)]
              omega
            · rw [ahead_step hc, mb_step h46, hz d]
              by_cases hd : d = c
              · subst hd; simp
              · rw [show decide ((Sum.inr (S [d]) : Key) = .inr (S [c])) = false from decide_eq_false fun z => hd (one_inj.mp z), Bool.or_false]
                simp [hd]
      · rintro σ H2 ⟨v4, v5, rfl, sm, se⟩
        refine ⟨_, _, _, _, rfl, sm, ?_⟩
        rw [ahead_row hr']
        rw [S_size] at se
        obtain ⟨Z, k', h1, h2, h3⟩ := se
        exact ⟨Z, k', h1, by omega, h3⟩
    · rintro σ H1 ⟨v2, v3, v4, v5, rfl, sm, se⟩
      exact k _ sm
end
end TK
end
section
set_option Elab.async false
set_option maxRecDepth 100000
set_option linter.all false
namespace TK
open PySem L2 TM
structure ClsT (K : PySem.W.Frag) (mg : Str → Option Value) (D : Addr) : Prop where
  cl : Cls K D
  nR : NoAttr K D "_rows"
  mgC : mg "Tray" = some (.ref D)
def TrayAt (K : PySem.W.Frag) (D : Addr) (H : Hp) (p : Addr) (g : Grid) : Prop := ∃ dx a, H p = some (.ins D dx [("_rows", .ref a)]) ∧ SqT K H a (rowV g)
theorem TrayAt.same {K : PySem.W.Frag} {D p : Addr} {H H' : Hp} {g : Grid} (h : TrayAt K D H p g) (s : Same H H') : TrayAt K D H' p g := by
  obtain ⟨dx, a, h, t⟩ := h
  exact ⟨dx, a, s _ _ h, s.tup t⟩
theorem VG.len {n m : Nat} {g : Grid} (G : VG n m g) : g.length ≤ 8 := by rw [G.rc.1]; exact G.n8
theorem VG.row {n m : Nat} {g : Grid} (G : VG n m g) {r : List Nat} (h : r ∈ g) : r.length ≤ 8 := by rw [G.rc.2 r h]; exact G.m8
theorem VG.ne {n m : Nat} {g : Grid} (G : VG n m g) : g ≠ [] := fun e => by
  have := G.n1
  have := G.rc.1
  subst e
  simp at *
  omega
theorem joinL_len (sep : List Nat) (k : Nat) : ∀ g : Grid, (∀ r ∈ g, r.length ≤ k) → (TL.joinL sep g).length ≤ g.length * (k + sep.length)
  | [], _ => Nat.zero_le _
  | [p], h => by
    have := h p List.mem_cons_self
    show p.length ≤ 1 * _
    omega
  | p :: q :: r, h => by
    have h1 := joinL_len sep k (q :: r) fun z hz => h z (List.mem_cons_of_mem _ hz)
    have h2 := h p List.mem_cons_self
    simp only [TL.joinL, List.length_append, List.length_cons, Nat.add_mul, Nat.mul_add] at *
    omega
theorem lf_not {n m : Nat} {g : Grid} (G : VG n m g) : ∀ r ∈ g, 10 ∉ r := fun r hr h10 => by
  have := G.ok r hr 10 h10
  unfold Cell at this
  omega
theorem split_back {n m : Nat} {g : Grid} (G : VG n m g) : Txt.split (S (TL.joinL [10] g)) (S [10]) = g.map S := by
  rw [SX.split_S (by simp) (by rfl), SX.spl_join G.ne (lf_not G)]
section
variable {P : Program} {w : World} {K : PySem.W.Frag} {mg : Str → Option Value} {base : Heap} {D fF : Addr} {fdF : FuncData}
theorem scTi : FnScope ["self", "rows", "wrong", "row", "column"] ((["self"] : List Str) ++ (["rows"] : List Str)) (defScope sTrayInit) := ⟨rfl, rfl, rfl, by decide +kernel, rfl, by decide +kernel, by decide +kernel⟩
def spTi (K : PySem.W.Frag) (D : Addr) : Sp := fun vs H Q _ => ∃ (p dx a : Addr) (n m : Nat) (g : Grid), vs = [.ref p, .ref a] ∧ H p = some (.ins D dx []) ∧ SqT K H a (rowV g) ∧ VG n m g ∧ ∀ H', TrayAt K D H' p g → (∀ b o, H b = some o → b ≠ p → H' b = some o) → Q .non H'
theorem seq_but {K : PySem.W.Frag} {H H' : Hp} {p a : Addr} {o : HO} {xs : List V} (h : SqT K H a xs) (hp : H p = some o) (ho : ∀ u xs, o ≠ .frz u (.tup xs) ∧ o ≠ .tup xs) (kp : ∀ b o, H b = some o → b ≠ p → H' b = some o) : SqT K H' a xs := by
  rcases h with (h | ⟨u, h⟩) | h
  · exact .inl (.inl (kp _ _ h fun e => by subst e; exact (ho ⟨.none, none, .plain, #[]⟩ xs).2 (Option.some.inj (hp.symm.trans h))))
  · exact .inl (.inr ⟨u, kp _ _ h fun e => by subst e; exact (ho u xs).1 (Option.some.inj (hp.symm.trans h))⟩)
  · exact .inr h
theorem ok_ti {f : Addr} {fd : FuncData} (F : Fun K "__init__" "Tray.__init__" sTrayInit f fd) (CT : ClsT K mg D) (GF : FnOk P w K mg base CX0 2 fF fdF ["rows"] (spFc K)) (kF : PySem.W.keepIn K (.ref fF) = true) (bF : Binds K fdF ["rows"] []) (mF : mg "_first_wrong_cell" = some (.ref fF)) :
    FnR P w K mg base CX0 3 f (fun vs H Q E => ∃ ws rest, vs = ws ++ rest ∧ ws.length = 1 ∧ rest.length ≤ sizeLine ∧ ∀ p, H p = Option.none → spTi K D (ws ++ [V.ref p]) (upd H p (.tup rest)) Q E) := by
  obtain ⟨oc, od, kV, doc, pm, an, cdv, ct, osl, rfl, lk, hcd⟩ := F.ex
  refine StX.fn_star (ps := ["self"]) (pv := "rows") lk hcd scTi StX.cxUp_none (StX.bind_star1 (B := fun us => bindArgs (PySem.W.fnOf "__init__" "Tray.__init__" (defArgs sTrayInit) (defBody sTrayInit) (defScope sTrayInit) .none kV doc pm an cdv ct) ⟨us, []⟩) (p1 := "self") (pv := "rows") (fun _ => rfl) fun _ _ _ => rfl) fun A outer s H vs Q E hr h => ?_
  obtain ⟨p, dx, a, n, m, g, rfl, hp, hS, G, k⟩ := h
  refine ⟨_, pss_cons (ps_set (i := 2) scTi.nd rfl (.inl rfl) (pe_call GF hr rfl mF kF bF .nil pass0 (pa_cons (pv 1) pa_nil)))
    (pss_cons (ps_if (pt_cmpR op_notN (pv 2) pe_non (nomark _)) pss_never pss_nil)
    (pss_one (ps_fld (pv 0) (pv 1) rfl))), ?_⟩
  refine ⟨_, rfl, a, n, m, g, rfl, hS, G, fun H1 sm => ?_⟩
  refine ⟨_, rfl, rfl, _, rfl, iteF ?_⟩
  refine ⟨_, rfl, _, rfl, p, D, dx, [], rfl, sm _ _ hp, CT.cl, CT.nR, (by show 0 < 1000; decide), ?_⟩
  refine k _ ⟨dx, a, upd_same, ?_⟩ fun b o e hb => by rw [upd_ne hb]; exact sm _ _ e
  exact seq_but (sm.tup hS) (sm _ _ hp) (fun _ _ => ⟨by simp, by simp⟩) fun b o e hb => by rw [upd_ne hb]; exact e
theorem scOt : FnScope ["cls", "text", "rows"] ["cls", "text"] (defScope sTrayOfText) := ⟨rfl, rfl, rfl, by decide +kernel, rfl, by decide +kernel, by decide +kernel⟩
def spOt (K : PySem.W.Frag) (D : Addr) : Sp := fun vs H Q _ => ∃ (n m : Nat) (g : Grid), vs = [.ref D, .str (S (TL.joinL [10] g))] ∧ VG n m g ∧ ∀ H' p, Same H H' → TrayAt K D H' p g → Q (.ref p) H'
theorem ok_ot {f fI : Addr} {fd : FuncData} (F : Fun K "of_text" "Tray.of_text" sTrayOfText f fd) (T : TxtW K mg) (M : Mk K D fI)
    (GI : FnR P w K mg base CX0 3 fI (fun vs H Q E => ∃ ws rest, vs = ws ++ rest ∧ ws.length = 1 ∧ rest.length ≤ sizeLine ∧ ∀ p, H p = Option.none → spTi K D (ws ++ [V.ref p]) (upd H p (.tup rest)) Q E)) :
    FnOk P w K mg base CX0 5 f fd ["cls", "text"] (spOt K D) := by
  refine F.ok scOt (fun vs H Q E h => ?_) (fun cdv A outer s H vs Q E hr h => ?_)
  · obtain ⟨n, m, g, rfl, _⟩ := h
    rfl
  · obtain ⟨n, m, g, rfl, G, k⟩ := h
    refine ⟨_, pss_cons (ps_if (pt_not (pt_val (pe_callB call_isi (by rfl) T.isi (by decide +kernel) (pa_cons (pv 1) (pa_cons (pe_bltn (v := .ty "str") (by rfl) T.str (by decide +kernel) rfl) pa_nil))))) pss_never pss_nil)
      (pss_cons (ps_set (i := 2) scOt.nd rfl (.inl rfl) (pe_split (pv 1) pe_str))
      (pss_one (ps_ret (TH.pe_makeSv M GI hr (pv 0) pass0 (pv 2))))), ?_⟩
    refine ⟨_, rfl, _, _, _, _, true, rfl, .ty _, .base (.str _), kit_ty (by decide +kernel), true, rfl, iteF ?_⟩
    have hl : (S (TL.joinL [10] g)).length + 2 ≤ sizeLine := by
      have h1 := joinL_len [10] 8 g fun r hr => G.row hr
      have h2 := G.len
      rw [S_len]
      show _ ≤ 16777216
      have : g.length * (8 + [10].length) = g.length * 9 := rfl
      omega
    refine ⟨_, rfl, ⟨_, rfl⟩, _, _, rfl, rfl, rfl, hl, fun l hl => ?_⟩
    have e : (Txt.split (S (TL.joinL [10] g)) (Str.ofString "\n")).map V.str = rowV g := by
      have := split_back G
      rw [show Str.ofString "\n" = S [10] from rfl, this, List.map_map]
      rfl
    rw [e]
    refine ⟨_, rfl, rfl, _, rfl, l, rowV g, rfl, .inr (SqL.of upd_same), fun x dx nx ndx nex => ?_⟩
    refine ⟨[.ref x], rowV g, rfl, rfl, ?_, fun p hp => ?_⟩
    · have := G.len
      rw [List.length_map]
      show _ ≤ 16777216
      omega
    have hpx : x ≠ p := fun z => by rw [← z, upd_same] at hp; cases hp
    refine ⟨x, dx, p, n, m, g, rfl, by rw [upd_ne hpx, upd_same], SqT.of upd_same, G, fun H' ht kp => ⟨rfl, ?_⟩⟩
    refine k _ _ (fun b o e => ?_) ht
    have hbl : b ≠ l := ne_of_none e hl
    have e1 : upd H l (.lst (rowV g)) b = some o := by rw [upd_ne hbl]; exact e
    have hbx : b ≠ x := ne_of_none e1 nx
    have hbd : b ≠ dx := ne_of_none e1 ndx
    have e2 : (upd (upd (upd H l (.lst (rowV g))) dx (.own x)) x (.ins D dx [])) b = some o := by rw [upd_ne hbx, upd_ne hbd]; exact e1
    exact kp b o (by rw [upd_ne (ne_of_none e2 hp)]; exact e2) hbx
end
end TK
end
section
set_option Elab.async false
set_option maxRecDepth 100000
set_option linter.all false
namespace TH
open PySem PySem.Spec PyProof.Rows L2
section
variable {J J1 : It} {n n1 : Nat} {G G1 : Hp → Prop} {Y Y1 : Nat → Hp → V → Hp → Prop}
/-- the inner walk -/
theorem in_it (w : Walk J1 n1 G1 Y1) {g1 : TG} {tt1 : TT} {te : TE} {vs1 : List Nat} {σ2 : L2.St} {H4 : Hp} {D : Addr} {Qe : Hp → Prop} (Pj : Nat → Hp → Prop) (h0 : Pj 0 H4) (hG : ∀ j H, j ≤ n1 → Pj j H → G1 H)
    (hs : ∀ j x H H', j < n1 → Pj j H → Y1 j H x H' → g1 x (wipe σ2 vs1) H' fun σ3 H5 => wipe σ3 vs1 = wipe σ2 vs1 ∧ tt1 σ3 H5 fun b H6 =>
      if b = true then te σ3 H6 fun y H7 => ∃ acc, H7 D = some (.lst acc) ∧ acc.length < sizeLine ∧ Pj (j + 1) (upd H7 D (.lst (acc ++ [y]))) else Pj (j + 1) H6) (hd : ∀ H, Pj n1 H → Qe H) :
    ∃ W1 : Nat → Nat → Hp → Prop, (∃ m, W1 0 m H4) ∧ ∀ j k H, W1 j k H →
      (J1.stop j H ∧ Qe H) ∨ (J1.go j H ∧ ∃ Nx1 : Hp → Prop, (∀ H', Nx1 H' → ∃ k', k' < k ∧ W1 (j + 1) k' H') ∧ ∀ x H', J1.yld j H x H' → g1 x (wipe σ2 vs1) H' fun σ3 H5 => wipe σ3 vs1 = wipe σ2 vs1 ∧ tt1 σ3 H5 fun b H6 =>
        if b = true then te σ3 H6 fun y H7 => ∃ acc, H7 D = some (.lst acc) ∧ acc.length < sizeLine ∧ Nx1 (upd H7 D (.lst (acc ++ [y]))) else Nx1 H6) := by
  refine ⟨fun i m H => m = n1 - i ∧ i ≤ n1 ∧ Pj i H, ⟨n1, by simp, Nat.zero_le _, h0⟩, ?_⟩
  rintro i m H ⟨rfl, hi, p⟩
  have q := hG i H hi p
  by_cases hlt : i < n1
  · exact .inr ⟨w.goes i H hlt q, Pj (i + 1), fun H' p' => ⟨n1 - (i + 1), by omega, rfl, hlt, p'⟩, fun x H' y => hs i x H H' hlt p (w.yields i H x H' hlt q y)⟩
  · have e : i = n1 := by omega
    subst e
    exact .inl ⟨w.stops H q, hd H p⟩
/-- the outer walk -/
theorem lc2_it (w : Walk J n G Y) {g g1 : TG} {tt tt1 : TT} {wi1 : TI} {te : TE} {vs vs1 : List Nat} {σ : L2.St} {H1 : Hp} {D : Addr} {Qd : Hp → Prop} (Pv : Nat → Hp → Prop) (h0 : Pv 0 (upd H1 D (.lst []))) (hG : ∀ i H, i ≤ n → Pv i H → G H)
    (hs : ∀ i x H H', i < n → Pv i H → Y i H x H' → g x (wipe σ vs) H' fun σ2 H2 => wipe σ2 vs = wipe σ vs ∧ tt σ2 H2 fun b H3 =>
      if b = true then wi1 σ2 H3 fun J1 H4 => ∃ W1 : Nat → Nat → Hp → Prop, (∃ m, W1 0 m H4) ∧ ∀ j k H, W1 j k H →
        (J1.stop j H ∧ Pv (i + 1) H) ∨ (J1.go j H ∧ ∃ Nx1 : Hp → Prop, (∀ H', Nx1 H' → ∃ k', k' < k ∧ W1 (j + 1) k' H') ∧ ∀ x H', J1.yld j H x H' → g1 x (wipe σ2 vs1) H' fun σ3 H5 => wipe σ3 vs1 = wipe σ2 vs1 ∧ tt1 σ3 H5 fun b H6 =>
          if b = true then te σ3 H6 fun y H7 => ∃ acc, H7 D = some (.lst acc) ∧ acc.length < sizeLine ∧ Nx1 (upd H7 D (.lst (acc ++ [y]))) else Nx1 H6)
      else Pv (i + 1) H3) (hd : ∀ H, Pv n H → Qd H) :
    ∃ W : Nat → Nat → Hp → Prop, (∃ m, W 0 m (upd H1 D (.lst []))) ∧ ∀ i m H, W i m H →
      (J.stop i H ∧ Qd H) ∨ (J.go i H ∧ ∃ Nx : Hp → Prop, (∀ H', Nx H' → ∃ m', m' < m ∧ W (i + 1) m' H') ∧ ∀ x H', J.yld i H x H' → g x (wipe σ vs) H' fun σ2 H2 => wipe σ2 vs = wipe σ vs ∧ tt σ2 H2 fun b H3 =>
        if b = true then wi1 σ2 H3 fun J1 H4 => ∃ W1 : Nat → Nat → Hp → Prop, (∃ m, W1 0 m H4) ∧ ∀ j k H, W1 j k H →
          (J1.stop j H ∧ Nx H) ∨ (J1.go j H ∧ ∃ Nx1 : Hp → Prop, (∀ H', Nx1 H' → ∃ k', k' < k ∧ W1 (j + 1) k' H') ∧ ∀ x H', J1.yld j H x H' → g1 x (wipe σ2 vs1) H' fun σ3 H5 => wipe σ3 vs1 = wipe σ2 vs1 ∧ tt1 σ3 H5 fun b H6 =>
            if b = true then te σ3 H6 fun y H7 => ∃ acc, H7 D = some (.lst acc) ∧ acc.length < sizeLine ∧ Nx1 (upd H7 D (.lst (acc ++ [y]))) else Nx1 H6)
        else Nx H3) := by
  refine ⟨fun i m H => m = n - i ∧ i ≤ n ∧ Pv i H, ⟨n, by simp, Nat.zero_le _, h0⟩, ?_⟩
  rintro i m H ⟨rfl, hi, p⟩
  have q := hG i H hi p
  by_cases hlt : i < n
  · exact .inr ⟨w.goes i H hlt q, Pv (i + 1), fun H' p' => ⟨n - (i + 1), by omega, rfl, hlt, p'⟩, fun x H' y => hs i x H H' hlt p (w.yields i H x H' hlt q y)⟩
  · have e : i = n := by omega
    subst e
    exact .inl ⟨w.stops H q, hd H p⟩
end
end TH
end
section
set_option Elab.async false
set_option maxRecDepth 100000
set_option linter.all false
namespace TK
open PySem L2 TM
open PySem.Spec PyProof.Rows TH
section
variable {X : Cx} {n : Nat} {t0 : Tok}
theorem mt_ljustF : MtR X "str.ljust" (fun x xs H Q => ∃ (a : Str) (i : Int) (c : Nat), x = .str a ∧ xs = [.int i, .str ⟨#[c]⟩] ∧ PadOk i = true ∧ Q (.str (Txt.ljustF a i c)) H) := by
  intro pins s σ H x xs v us Q I rx rs h
  obtain ⟨a, i, c, rfl, rfl, hp, q⟩ := h
  obtain ⟨t, rfl⟩ := rx
  obtain ⟨u1, u2, rfl, r1, r2⟩ := vals2 rs
  obtain ⟨t1, rfl⟩ := (show ∃ t, u1 = Value.int i t from r1)
  obtain ⟨t2, rfl⟩ := (show ∃ t, u2 = Value.str ⟨#[c]⟩ t from r2)
  exact ljust_fill hp rfl fun t' k => ⟨.str (Txt.ljustF a i c), H, I.tok k, ⟨t', rfl⟩, q⟩
theorem mt_rjustF : MtR X "str.rjust" (fun x xs H Q => ∃ (a : Str) (i : Int) (c : Nat), x = .str a ∧ xs = [.int i, .str ⟨#[c]⟩] ∧ PadOk i = true ∧ Q (.str (Txt.rjustF a i c)) H) := by
  intro pins s σ H x xs v us Q I rx rs h
  obtain ⟨a, i, c, rfl, rfl, hp, q⟩ := h
  obtain ⟨t, rfl⟩ := rx
  obtain ⟨u1, u2, rfl, r1, r2⟩ := vals2 rs
  obtain ⟨t1, rfl⟩ := (show ∃ t, u1 = Value.int i t from r1)
  obtain ⟨t2, rfl⟩ := (show ∃ t, u2 = Value.str ⟨#[c]⟩ t from r2)
  exact rjust_fill hp rfl fun t' k => ⟨.str (Txt.rjustF a i c), H, I.tok k, ⟨t', rfl⟩, q⟩
/-- o.replace(EMPTY, ''): the signs that are left -/
def tStrike (y : Str) (to : TE) : TE := fun σ H Q => to σ H fun x H1 => ∃ a : Str, x = .str a ∧ a.length + (a.length + 1) * 0 ≤ 16777216 ∧ Q (.str (Txt.replace a y Str.empty)) H1
theorem pen_strike {o : Expr} {to : TE} {x : Str} {y : Str} {k : Nat} {p c apos pos : Pos} (ho : PE X o to) (hg : Gl X x) (hm : X.mg x = some (.str y t0)) (h0 : t0 ≠ 0) (ht : t0 < n) (hy : (y == Str.empty) = false) (hd : (x == ("__debug__" : Str)) = false := by decide)
    (hst : starEach [.Name x p, .Constant (.str Str.empty) k c] X.env = [(false, eval (.Name x p) X.env), (false, eval (.Constant (.str Str.empty) k c) X.env)] := by rfl)
    (hbase : attributeBase o "replace" X.env (eval o X.env) = eval o X.env := by rfl) (hline : (apos.endLine == pos.line) = true := by rfl) :
    PEn n X (.Call (.Attribute o "replace" apos) [.Name x p, .Constant (.str Str.empty) k c] [] pos) (tStrike y to) := by
  intro pins s σ H Q hn I h
  refine PySem.Call_method2 hbase hst hline (thnN hn (ho.run pins s σ H _ I h) fun v s1 hn1 ⟨x1, H1, I1, r1, a, e, hb, q⟩ => ?_)
  subst e
  obtain ⟨ta, rfl⟩ := r1
  refine ⟨"str", _, PySem.F.plainAttrs_str, PySem.F.slot_str_replace, PySem.F.type_str_replace, typeIs_str _ _ _, (fun _ e => nomatch e), Calls.callWith_builtin rfl (Calls.evalArgs_plain (Calls.spliced_cons ?_))⟩
  refine ld_glob I1 hg hm ?_ hd
  refine Calls.spliced_cons (Calls.Constant_str (Calls.spliced_nil ?_))
  have hs : s1.toks ≠ 0 := fun e => by
    rw [e] at hn1
    exact Nat.not_lt_zero _ (Nat.lt_of_lt_of_le ht hn1)
  exact PySem.SC.replace h0 hs (fun e => by rw [e] at ht; exact Nat.lt_irrefl _ (Nat.lt_of_lt_of_le ht hn1)) hy hb fun t' j => ⟨.str (Txt.replace a y Str.empty), H1, I1.tok j, ⟨t', rfl⟩, q⟩
end
theorem strike_mb (l : List Nat) : Txt.replace (S l) (S [46]) Str.empty = S (mb l) := by
  have e := PyProof.Rows.replace_strikes (S l) 46
  rw [S_of (Txt.replace (S l) (S [46]) Str.empty)]
  refine congrArg S ?_
  rw [show (S [46] : Str) = ⟨#[46]⟩ from rfl, show (Str.empty : Str) = ⟨#[]⟩ from rfl, e, S_list]
  rfl
theorem ljust_sl (l : List Nat) : Txt.ljustF (S (mb l)) (l.length : Int) 46 = S (sl true l) := by
  have hle := mb_le l
  unfold Txt.ljustF sl dots
  rw [S_len]
  split
  · rename_i h
    have e : l.length - (mb l).length = 0 := by omega
    rw [if_pos rfl, e]
    simp
  · rw [if_pos rfl]
    unfold Builtin.Str.padded
    simp
theorem rjust_sl (l : List Nat) : Txt.rjustF (S (mb l)) (l.length : Int) 46 = S (sl false l) := by
  have hle := mb_le l
  unfold Txt.rjustF sl dots
  rw [S_len]
  split
  · rename_i h
    have e : l.length - (mb l).length = 0 := by omega
    rw [if_neg Bool.false_ne_true, e]
    simp
  · rw [if_neg Bool.false_ne_true]
    unfold Builtin.Str.padded
    simp
section
variable {P : Program} {w : World} {K : PySem.W.Frag} {mg : Str → Option Value} {base : Heap} {t0 : Tok} {n : Nat}
theorem scSl : FnScope ["line", "to_beginning", "marbles"] ["line", "to_beginning"] (defScope sSlid) := ⟨rfl, rfl, rfl, by decide +kernel, rfl, by decide +kernel, by decide +kernel⟩
def spSl : Sp := fun vs H Q _ => ∃ (l : List Nat) (b : Bool), vs = [.str (S l), .bl b] ∧ l.length ≤ 8 ∧ Q (.str (S (sl b l))) H
theorem ok_sl {f : Addr} {fd : FuncData} (F : Fun K "_slid" "_slid" sSlid f fd) (T : TxtW K mg) (U : TxtT K mg t0) (b : Binds K fd ["line", "to_beginning"] []) (h0 : t0 ≠ 0) (ht : t0 < n) : FnRn n P w K mg base CX0 1 f spSl := by
  refine fn_n F b scSl (fun vs H Q E h => ?_) fun cdv A outer s H vs Q E hr h => ?_
  · obtain ⟨l, b, rfl, _⟩ := h
    rfl
  · obtain ⟨l, b, rfl, h8, k⟩ := h
    have hlen : (S l).length ≤ sizeLine := by
      rw [S_len]
      show _ ≤ 16777216
      omega
    have hpad : PadOk (((S l).length : Nat) : Int) = true := by
      rw [S_len]
      exact padOk_of (by omega) (by omega)
    refine ⟨_, pssn_cons (psn_set (i := 2) scSl.nd rfl (.inl rfl) (pen_strike (pv 0) rfl U.EM h0 ht (by decide +kernel)))
      (pssn_cons (PS.up (ps_if (pt_val (pv 1)) (pss_one (ps_ret (pe_bm PySem.F.plainAttrs_str PySem.F.slot_str_ljust PySem.F.type_str_ljust mt_ljustF (pv 2) (pa_cons (pe_callB call_len_str (by rfl) T.len PySem.boot_len (pa_cons (pv 0) pa_nil)) (pa_cons (C8.pe_gc rfl U.em) pa_nil))))) pss_nil))
      (pssn_one (PS.up (ps_ret (pe_bm PySem.F.plainAttrs_str PySem.F.slot_str_rjust PySem.F.type_str_rjust mt_rjustF (pv 2) (pa_cons (pe_callB call_len_str (by rfl) T.len PySem.boot_len (pa_cons (pv 0) pa_nil)) (pa_cons (C8.pe_gc rfl U.em) pa_nil))))))), ?_⟩
    refine ⟨_, rfl, S l, rfl, ?_, ?_⟩
    · rw [S_len]
      omega
    rw [strike_mb]
    refine ⟨_, rfl, b, rfl, ?_⟩
    cases b with
    | true =>
      refine iteT ⟨_, rfl, rfl, _, rfl, _, rfl, hlen, _, _, 46, rfl, rfl, hpad, ?_⟩
      rw [S_len, ljust_sl]
      exact k
    | false =>
      refine iteF ⟨_, rfl, rfl, _, rfl, _, rfl, hlen, _, _, 46, rfl, rfl, hpad, ?_⟩
      rw [S_len, rjust_sl]
      exact k
end
end TK
end
section
set_option Elab.async false
set_option maxRecDepth 100000
set_option linter.all false
namespace TK
open PySem L2 TM
open PySem.Spec PyProof.Rows TH
theorem at_map {α β : Type} {l : List α} {f : α → β} {i : Nat} {y : β} (h : (l.map f)[i]? = some y) : ∃ r, l[i]? = some r ∧ y = f r := by
  rw [List.getElem?_map] at h
  cases e : l[i]? with
  | none => rw [e] at h; cases h
  | some r => rw [e] at h; exact ⟨r, rfl, (Option.some.inj h).symm⟩
theorem take_map_snoc {α β : Type} {l : List α} {f : α → β} {i : Nat} {r : α} (h : l[i]? = some r) : (l.take (i + 1)).map f = (l.take i).map f ++ [f r] := by
  rw [List.take_add_one, h, List.map_append]
  rfl
/-- what zip hands out: a column -/
theorem col_of {g : Grid} {n m i : Nat} {cs : List Nat} (hr : Rect n m g) (hi : i < m) (hl : cs.length = (g.map S).length) (h : ∀ (k : Nat) (y : Str), (g.map S)[k]? = some y → ∃ c, y.cps[i]? = some c ∧ cs[k]? = some c) : (tr m g)[i]? = some cs := by
  rw [tr_get hi]
  refine congrArg some (List.ext_getElem? fun k => ?_)
  rw [List.getElem?_map]
  cases e : g[k]? with
  | none =>
    have : g.length ≤ k := List.getElem?_eq_none_iff.mp e
    rw [List.length_map] at hl
    rw [List.getElem?_eq_none_iff.mpr (by omega)]
    rfl
  | some r =>
    obtain ⟨c, h1, h2⟩ := h k (S r) (by rw [List.getElem?_map, e]; all_goals rfl)
    rw [S_at] at h1
    rw [h2]
    show some (r.getD i 46) = some c
    rw [List.getD_eq_getElem?_getD, h1]
    rfl
theorem dL (c d : Nat) : decide (sg c = V.str (S [d])) = (c == d) := by
  by_cases h : c = d
  · subst h; simp
  · simp [h]
/-- o.join(e), its reading by K -/
def rJn (K : PySem.W.Frag) : V → List V → Hp → VK → Prop := fun x xs H Q => ∃ a p, ∃ ys : List Str, x = .str a ∧ xs = [.ref p] ∧ (SqL K H p (ys.map V.str) ∨ SqT K H p (ys.map V.str)) ∧ (ys.map (·.length)).sum + ys.length * a.length ≤ 16777216 ∧ Q (.str (Txt.join a ys)) H
theorem pe_joinK {X : Cx} {K : PySem.W.Frag} {o e : Expr} {to te : TE} {apos pos : Pos} (hK : X.K = K) (ho : PE X o to) (he : PE X e te) (hs : starEach [e] X.env = [(false, eval e X.env)] := by rfl) (hbase : attributeBase o "join" X.env (eval o X.env) = eval o X.env := by rfl) (hline : (apos.endLine == pos.line) = true := by rfl) :
    PE X (.Call (.Attribute o "join" apos) [e] [] pos) (tM1 (rJn K) to te) := by
  subst hK
  exact pe_join ho he hs hbase hline
section
variable {P : Program} {w : World} {K : PySem.W.Frag} {mg : Str → Option Value} {base : Heap} {t0 : Tok} {n : Nat} {fS : Addr}
abbrev NTd : List Str := ["rows", "tilt", "columns", "row", "column"]
theorem scTd : FnScope NTd ["rows", "tilt"] (defScope sTilted) := ⟨rfl, rfl, rfl, by decide +kernel, rfl, by decide +kernel, by decide +kernel⟩
def spTd (K : PySem.W.Frag) : Sp := fun vs H Q _ => ∃ (a c h w : Nat) (g : Grid), vs = [.ref a, sg c] ∧ SqT K H a (rowV g) ∧ Rect h w g ∧ 1 ≤ h ∧ h ≤ 8 ∧ 1 ≤ w ∧ w ≤ 8 ∧ ∀ H' b, Same H H' → SqT K H' b (rowV (tilt h w g c)) → Q (.ref b) H'
theorem ok_td {f : Addr} {fd : FuncData} (F : Fun K "_tilted" "_tilted" sTilted f fd) (T : TxtW K mg) (U : TxtT K mg t0) (b : Binds K fd ["rows", "tilt"] []) (GS : FnRn n P w K mg base CX0 1 fS spSl) (kS : PySem.W.keepIn K (.ref fS) = true) (mS : mg "_slid" = some (.ref fS)) : FnRn n P w K mg base CX0 2 f (spTd K) := by
  refine fn_n F b scTd (fun vs H Q E h => ?_) fun cdv A outer s H vs Q E hr h => ?_
  · obtain ⟨a, c, h, w, g, rfl, _⟩ := h
    rfl
  · obtain ⟨a, c, h, w, g, rfl, hS, hr', h1, h8, w1, w8, k⟩ := h
    refine ⟨_, pssn_cons (psn_if (PT.up (pt_cmpR op_in_sign (pv 1) (C8.pe_gc rfl T.AR) (by rfl)))
        (pssn_one (psn_ret (pen_callTy call_tuple_of (by rfl) U.tup (by decide +kernel) (pan_cons (pen_lc (own := [("row", 3)]) (g := gName 3) rfl scTd.nd (pi_tup (pv 0)) (blkOk_by (N := NTd) (sc := defScope sTilted) (by decide +kernel)) (fun _ _ _ _ _ => pg_name (i := 3) scTd.nd rfl (.inl rfl))
          (fun _ _ _ _ _ => pen_call GS hr rfl mS kS pass0 (pan_cons (PE.up (pv 3)) (pan_cons (PE.up (pe_cmpR op_eq (pv 1) pe_str (nomark _))) pan_nil)))) pan_nil)))) (PSs.up pss_nil))
      (pssn_cons (psn_setLc (i := 2) (own := [("column", 4)]) (g := gName 4) rfl scTd.nd rfl rfl (sw_true rfl rfl rfl (by decide +kernel)) (pi_zips (by rfl) U.zip (pv 0)) (blkOk_by (N := NTd) (sc := defScope sTilted) (by decide +kernel)) (fun _ _ _ _ _ => pg_name (i := 4) scTd.nd rfl (.inl rfl))
          (fun _ _ _ _ _ => pen_call GS hr rfl mS kS pass0 (pan_cons (PE.up (pe_joinK (K := K) rfl pe_str (pv 4))) (pan_cons (PE.up (pe_cmpR op_eq (pv 1) pe_str (nomark _))) pan_nil))))
      (pssn_one (PS.up (ps_ret (pe_callTy call_tuple_of (by rfl) U.tup (by decide +kernel) (pa_cons (pe_lc (own := [("row", 3)]) (g := gName 3) (tt := tYes) rfl scTd.nd (pi_zips (by rfl) U.zip (pv 2)) (blkOk_by (N := NTd) (sc := defScope sTilted) (by decide +kernel)) (fun _ _ _ _ _ => pg_name (i := 3) scTd.nd rfl (.inl rfl)) (fun _ _ _ _ _ => pts_nil)
          (fun _ _ _ _ _ => pe_joinK (K := K) rfl pe_str (pv 3))) pa_nil)))))), ?_⟩
    have hrl : ∀ r ∈ g, r.length ≤ 8 := fun r hr => by rw [hr'.2 r hr]; exact w8
    refine ⟨_, rfl, c, S [108, 114], rfl, rfl, _, rfl, ?_⟩
    rw [dAR]
    by_cases hc : isH c = true
    · rw [hc]
      have et : tilt h w g c = TM.LT (c == 108) g := if_pos hc
      refine iteT ⟨_, rfl, a, rfl, ⟨_, hS⟩, fun D hD => lc_tup (K := K) (a := a) (xs := rowV g) (fun i H1 => Same H H1 ∧ H1 D = some (.lst ((g.take i).map fun r => V.str (S (sl (c == 108) r)))))
        ⟨same_new hD, upd_same⟩ (fun i H1 _ ⟨sm, _⟩ => sm.tup hS) ?_ ?_⟩
      · rintro i x H1 hi ⟨sm, hL⟩
        obtain ⟨r, hri, rfl⟩ := at_map hi
        have hrm := List.mem_of_getElem? hri
        refine ⟨rfl, ?_⟩
        refine ⟨_, rfl, _, rfl, rfl, r, c == 108, ?_, hrl r hrm, _, hL, ?_, ?_⟩
        · show [V.str (S r), V.bl (decide (sg c = V.str (S [108])))] = _
          rw [dL]
        · rw [List.length_map, List.length_take]
          show _ < 16777216
          have := hr'.1
          omega
        · refine ⟨same_put sm hD, ?_⟩
          rw [upd_same, take_map_snoc hri]
      · rintro H1 ⟨sm, hL⟩
        rw [List.length_map, List.take_length] at hL
        refine ⟨D, _, rfl, .inl ⟨SqL.of hL, fun l hl => ?_⟩⟩
        refine k _ l (sm.trans (same_new hl)) ?_
        rw [et]
        unfold TM.LT rowV
        rw [List.map_map]
        exact SqT.of upd_same
    · rw [Bool.not_eq_true] at hc
      rw [hc]
      have et : tilt h w g c = UT (c == 117) h w g := if_neg (by rw [hc]; exact Bool.false_ne_true)
      refine iteF ?_
      have hm : ∀ x ∈ g.map S, x.cps.size = w := fun x hx => by
        obtain ⟨r, hr, rfl⟩ := List.mem_map.mp hx
        rw [S_size]
        exact hr'.2 r hr
      have hS' : SqT K H a ((g.map S).map V.str) := by
        rw [List.map_map]
        exact hS
      refine ⟨_, rfl, a, g.map S, w, rfl, .inl hS', ?_, ?_, hm, fun D hD => lc_it walk_zips (fun i H1 => Same H H1 ∧ H1 D = some (.lst (((tr w g).take i).map fun r => V.str (S (sl (c == 117) r)))))
        ⟨same_new hD, upd_same⟩ (fun _ _ _ _ => True.intro) ?_ ?_⟩
      · rw [List.length_map, hr'.1]; omega
      · rw [List.length_map, hr'.1]; omega
      · rintro i x H1 H2 hi ⟨sm, hL⟩ ⟨T, cs, rfl, hT, rfl, hl, hcs⟩
        have hcol := col_of hr' hi hl hcs
        have hlc : cs.length = h := by rw [hl, List.length_map, hr'.1]
        have hL2 : upd H1 T (.tup (cs.map fun c => V.str ⟨#[c]⟩)) D = some (.lst (((tr w g).take i).map fun r => V.str (S (sl (c == 117) r)))) := by
          rw [upd_ne (ne_of_none hL hT)]
          exact hL
        refine ⟨rfl, ?_⟩
        refine ⟨⟨_, rfl⟩, _, rfl, _, T, cs.map fun c => S [c], rfl, rfl, .inr ?_, ?_, _, rfl, rfl, cs, c == 117, ?_, by omega, _, hL2, ?_, ?_⟩
        · rw [List.map_map]
          exact SqT.of upd_same
        · rw [sum_ones, List.length_map]
          show _ + _ * 0 ≤ _
          omega
        · show [V.str (Txt.join (Str.ofString "") (cs.map fun c => S [c])), V.bl (decide (sg c = V.str (S [117])))] = _
          rw [dL, join_signs]
        · rw [List.length_map, List.length_take]
          show _ < 16777216
          omega
        · refine ⟨same_put (sm.trans (same_new hT)) hD, ?_⟩
          rw [upd_same, take_map_snoc hcol]
      · rintro H1 ⟨sm, hL⟩
        have hrt := tr_rect hr'
        have hlt := lt_rect (s := c == 117) hrt
        rw [show (tr w g).take w = tr w g from List.take_of_length_le (by rw [hrt.1]; exact Nat.le_refl _)] at hL
        have hm2 : ∀ x ∈ (TM.LT (c == 117) (tr w g)).map S, x.cps.size = h := fun x hx => by
          obtain ⟨r, hr, rfl⟩ := List.mem_map.mp hx
          rw [S_size]
          exact hlt.2 r hr
        have hL' : SqL K H1 D (((TM.LT (c == 117) (tr w g)).map S).map V.str) := by
          unfold TM.LT
          rw [List.map_map, List.map_map]
          exact SqL.of hL
        refine ⟨_, rfl, D, (TM.LT (c == 117) (tr w g)).map S, h, rfl, .inr hL', ?_, ?_, hm2, fun D2 hD2 => lc_it walk_zips (fun i H2 => Same H H2 ∧ H2 D2 = some (.lst (((UT (c == 117) h w g).take i).map fun r => V.str (S r))))
          ⟨sm.trans (same_new hD2), upd_same⟩ (fun _ _ _ _ => True.intro) ?_ ?_⟩
        · rw [List.length_map, hlt.1]; omega
        · rw [List.length_map, hlt.1]; omega
        · rintro i x H2 H3 hi ⟨sm2, hL2⟩ ⟨T, cs, rfl, hT, rfl, hl, hcs⟩
          have hcol := col_of hlt hi hl hcs
          have hlc : cs.length = w := by rw [hl, List.length_map, hlt.1]
          have hL3 : upd H2 T (.tup (cs.map fun c => V.str ⟨#[c]⟩)) D2 = some (.lst (((UT (c == 117) h w g).take i).map fun r => V.str (S r))) := by
            rw [upd_ne (ne_of_none hL2 hT)]
            exact hL2
          refine ⟨rfl, ?_⟩
          refine ⟨⟨_, rfl⟩, _, rfl, _, T, cs.map fun c => S [c], rfl, rfl, .inr ?_, ?_, _, hL3, ?_, ?_⟩
          · rw [List.map_map]
            exact SqT.of upd_same
          · rw [sum_ones, List.length_map]
            show _ + _ * 0 ≤ _
            omega
          · rw [List.length_map, List.length_take]
            show _ < 16777216
            omega
          · refine ⟨same_put (sm2.trans (same_new hT)) (sm.free hD2), ?_⟩
            rw [upd_same, take_map_snoc (l := UT (c == 117) h w g) hcol, join_signs]
        · rintro H2 ⟨sm2, hL2⟩
          rw [show (UT (c == 117) h w g).take h = UT (c == 117) h w g from List.take_of_length_le (by rw [(ut_rect hr').1]; exact Nat.le_refl _)] at hL2
          refine ⟨D2, _, rfl, .inl ⟨SqL.of hL2, fun l hl => ?_⟩⟩
          refine k _ l (sm2.trans (same_new hl)) ?_
          rw [et]
          exact SqT.of upd_same
end
end TK
end
section
set_option Elab.async false
set_option maxRecDepth 100000
set_option linter.all false
namespace TK
open PySem L2 TM
open PySem.Spec PyProof.Rows TH
theorem mb_flat : ∀ g : Grid, mb g.flatten = (g.map mb).flatten
  | [] => rfl
  | r :: g => by rw [List.flatten_cons, mb_app, mb_flat g]; rfl
theorem flat_cons {f : Nat → Nat} {h : Nat → List Nat} : ∀ l : List Nat, ((l.map fun j => f j :: h j).flatten).Perm (l.map f ++ (l.map h).flatten)
  | [] => List.Perm.refl _
  | a :: l => by
    have ih := flat_cons (f := f) (h := h) l
    simp only [List.map_cons, List.flatten_cons, List.cons_append]
    refine List.Perm.cons _ ((List.Perm.append_left _ ih).trans ?_)
    rw [← List.append_assoc, ← List.append_assoc]
    exact List.Perm.append_right _ List.perm_append_comm
theorem flat_none : ∀ l : List Nat, ((l.map fun _ => ([] : List Nat)).flatten) = []
  | [] => rfl
  | _ :: l => by simp [flat_none l]
theorem get_all {m : Nat} {r : List Nat} (h : r.length = m) : (List.range m).map (fun j => r.getD j 46) = r := by
  subst h
  refine List.ext_getElem? fun k => ?_
  rw [List.getElem?_map]
  by_cases hk : k < r.length
  · rw [List.getElem?_range hk, List.getElem?_eq_getElem hk]
    simp [hk]
  · rw [List.getElem?_eq_none_iff.mpr (by simpa using hk), List.getElem?_eq_none_iff.mpr (by omega)]
    rfl
theorem tr_perm {m : Nat} : ∀ {g : Grid}, (∀ r ∈ g, r.length = m) → ((tr m g).flatten).Perm g.flatten
  | [], _ => by
    unfold tr
    rw [show ((List.range m).map fun j => ([] : Grid).map fun r => r.getD j 46) = (List.range m).map fun _ => [] from rfl, flat_none]
    exact List.Perm.refl _
  | r :: g, h => by
    have ih := tr_perm (g := g) fun z hz => h z (List.mem_cons_of_mem _ hz)
    unfold tr at ih ⊢
    refine (flat_cons (f := fun j => r.getD j 46) (h := fun j => g.map fun r => r.getD j 46) (List.range m)).trans ?_
    rw [get_all (h r List.mem_cons_self), List.flatten_cons]
    exact List.Perm.append_left _ ih
theorem lt_mb (s : Bool) (g : Grid) : mb (TM.LT s g).flatten = mb g.flatten := by
  rw [mb_flat, mb_flat]
  unfold TM.LT
  rw [List.map_map]
  congr 1
  exact List.map_congr_left fun r _ => mb_sl s r
/-- as many marbles, the same ones; and signs that are cells -/
structure Like (g g' : Grid) : Prop where
  pm : (mb g'.flatten).Perm (mb g.flatten)
  ok : (∀ c ∈ g.flatten, Cell c) → ∀ c ∈ g'.flatten, Cell c
theorem Like.trans {a b c : Grid} (x : Like a b) (y : Like b c) : Like a c := ⟨y.pm.trans x.pm, fun h => y.ok (x.ok h)⟩
theorem cell_of {l l' : List Nat} (e : mb l' = mb l) (h : ∀ c ∈ l, Cell c) : ∀ c ∈ l', Cell c := fun c hc => by
  by_cases h46 : c = 46
  · exact .inl h46
  · have : c ∈ mb l' := List.mem_filter.mpr ⟨hc, by simp [h46]⟩
    rw [e] at this
    exact h c (List.mem_filter.mp this).1
theorem like_lt (s : Bool) (g : Grid) : Like g (TM.LT s g) := ⟨by rw [lt_mb], cell_of (lt_mb s g)⟩
theorem like_tr {n m : Nat} {g : Grid} (h : Rect n m g) : Like g (tr m g) :=
  have p := tr_perm (m := m) h.2
  ⟨p.filter _, fun k c hc => k c (p.mem_iff.mp hc)⟩
theorem like_tilt {n m c : Nat} {g : Grid} (h : Rect n m g) : Like g (tilt n m g c) := by
  unfold tilt
  split
  · exact like_lt _ g
  · unfold UT
    exact ((like_tr h).trans (like_lt _ _)).trans (like_tr (lt_rect (tr_rect h)))
theorem VG.tilt {n m c : Nat} {g : Grid} (G : VG n m g) : VG n m (TM.tilt n m g c) := by
  have L := like_tilt (c := c) G.rc
  refine ⟨tilt_rect G.rc, G.n1, G.n8, G.m1, G.m8, fun r hr d hd => ?_, L.pm.nodup_iff.mpr G.nd⟩
  exact L.ok (fun d hd => by
    obtain ⟨r, hr, hd⟩ := List.mem_flatten.mp hd
    exact G.ok r hr d hd) d (List.mem_flatten.mpr ⟨r, hr, hd⟩)
theorem VG.tilts {n m : Nat} : ∀ (t : List Nat) {g : Grid}, VG n m g → VG n m (TM.tilts n m t g)
  | [], _, G => G
  | c :: t, g, G => VG.tilts t (G.tilt (c := c))
section
variable {P : Program} {w : World} {K : PySem.W.Frag} {mg : Str → Option Value} {base : Heap} {t0 : Tok} {n : Nat} {C D pT gT fD fI : Addr} {fdG : FuncData}
theorem scRs : FnScope ["self", "other", "rows", "tilt"] ["self", "other"] (defScope sTrayRshift) := ⟨rfl, rfl, rfl, by decide +kernel, rfl, by decide +kernel, by decide +kernel⟩
def spRs (K : PySem.W.Frag) (C D : Addr) : Sp := fun vs H Q _ => ∃ (p q : Addr) (h w : Nat) (g : Grid) (t : List Nat), vs = [.ref p, .ref q] ∧ TrayAt K D H p g ∧ VG h w g ∧ WordAt C H q t ∧ ∀ H' r, Same H H' → TrayAt K D H' r (tilts h w t g) → Q (.ref r) H'
theorem ok_rs {f : Addr} {fd : FuncData} (F : Fun K "__rshift__" "Tray.__rshift__" sTrayRshift f fd) (T : TxtW K mg) (CW : ClsW K mg C) (CT : ClsT K mg D) (IC : C8.InsC K C) (b : Binds K fd ["self", "other"] [])
    (PT : PropOf K C "text" pT gT) (GT : FnOk P w K mg base CX0 1 gT fdG ["self"] (getSp C "_text")) (bT : Binds K fdG ["self"] [])
    (GD : FnRn n P w K mg base CX0 2 fD (spTd K)) (kD : PySem.W.keepIn K (.ref fD) = true) (mD : mg "_tilted" = some (.ref fD)) (M : Mk K D fI)
    (GI : FnR P w K mg base CX0 3 fI (fun vs H Q E => ∃ ws rest, vs = ws ++ rest ∧ ws.length = 1 ∧ rest.length ≤ sizeLine ∧ ∀ p, H p = Option.none → spTi K D (ws ++ [V.ref p]) (upd H p (.tup rest)) Q E)) :
    FnRn n P w K mg base CX0 5 f (spRs K C D) := by
  refine fn_n F b scRs (fun vs H Q E h => ?_) fun cdv A outer s H vs Q E hr h => ?_
  · obtain ⟨p, q, h, w, g, t, rfl, _⟩ := h
    rfl
  · obtain ⟨p, q, h, w, g, t, rfl, ⟨dx, a, hp, hS⟩, G, ⟨dy, hq⟩, k⟩ := h
    refine ⟨_, pssn_cons (PS.up (ps_if (pt_not (pt_val (pe_callB (C8.call_isC IC) (by rfl) T.isi (by decide +kernel) (pa_cons (pv 1) (pa_cons (pe_glob (v := .ref C) rfl CW.mgC rfl) pa_nil))))) pss_never pss_nil))
      (pssn_cons (PS.up (ps_set (i := 2) scRs.nd rfl (.inl rfl) (pe_fld (pv 0) rfl)))
      (pssn_cons (psn_for PassesOwn.never rfl (pi_str (pe_prop (pv 1) CW.cl PT GT (hr.mono (by decide)) bT .nil pass0 rfl)) (pg_name (i := 3) scRs.nd rfl (.inl rfl))
        (pssn_one (psn_set (i := 2) scRs.nd rfl (.inl rfl) (pen_call GD (hr.mono (by decide)) rfl mD kD pass0 (pan_cons (PE.up (pv 2)) (pan_cons (PE.up (pv 3)) pan_nil))))))
      (pssn_one (PS.up (ps_ret (pe_makeS M GI hr rfl CT.mgC pass0 (pv 2))))))), ?_⟩
    refine ⟨_, rfl, q, dy, _, rfl, hq, true, rfl, iteF ?_⟩
    refine ⟨_, rfl, p, D, dx, _, _, rfl, hp, CT.cl, CT.nR, rfl, ?_⟩
    refine ⟨_, rfl, q, dy, _, rfl, hq, q, dy, _, _, rfl, hq, rfl, S t, rfl, for_it (walk_str (z := S t)) (fun i σ H1 => ∃ b v, σ = [some (.ref p), some (.ref q), some (.ref b), v] ∧ Same H H1 ∧ SqT K H1 b (rowV (tilts h w (t.take i) g)))
      ⟨a, none, rfl, Same.refl H, hS⟩ (fun _ _ _ _ _ => True.intro) ?_ ?_⟩
    · rintro i x σ H1 H2 hi ⟨b, v, rfl, sm, hb⟩ ⟨rfl, c, hc, rfl⟩
      rw [S_at] at hc
      have et : tilts h w (t.take (i + 1)) g = TM.tilt h w (tilts h w (t.take i) g) c := by
        rw [List.take_add_one, hc]
        exact tilts_snoc _ _
      have G2 := VG.tilts (t.take i) G
      refine ⟨_, rfl, _, rfl, b, c, h, w, _, rfl, hb, G2.rc, G.n1, G.n8, G.m1, G.m8, fun H3 b3 sm3 hb3 => ?_⟩
      rw [et]
      exact ⟨b3, _, rfl, sm.trans sm3, hb3⟩
    · rintro σ H1 ⟨b, v, rfl, sm, hb⟩
      rw [S_size, List.take_length] at hb
      have G2 := VG.tilts t G
      refine ⟨_, rfl, b, _, rfl, .inl hb, fun x dx nx ndx nex => ?_⟩
      refine ⟨[.ref x], rowV (tilts h w t g), rfl, rfl, ?_, fun p hp => ?_⟩
      · have := G2.len
        rw [List.length_map]
        show _ ≤ 16777216
        omega
      have hpx : x ≠ p := fun z => by rw [← z, upd_same] at hp; cases hp
      refine ⟨x, dx, p, h, w, _, rfl, by rw [upd_ne hpx, upd_same], SqT.of upd_same, G2, fun H' ht kp => ⟨rfl, ?_⟩⟩
      refine k _ _ (sm.trans fun b o e => ?_) ht
      have hbx : b ≠ x := ne_of_none e nx
      have hbd : b ≠ dx := ne_of_none e ndx
      have e2 : (upd (upd H1 dx (.own x)) x (.ins D dx [])) b = some o := by rw [upd_ne hbx, upd_ne hbd]; exact e
      exact kp b o (by rw [upd_ne (ne_of_none e2 hp)]; exact e2) hbx
end
end TK
end
section
set_option Elab.async false
set_option maxRecDepth 100000
set_option linter.all false
namespace TK
open PySem L2 TM
structure TxtL (K : PySem.W.Frag) (mg : Str → Option Value) : Prop where
  int : mg "int" = none
  range : mg "range" = none
  min : mg "min" = none
/-- the script's list at a, where the drawing stands at r -/
def RowAt (K : PySem.W.Frag) (a : Addr) (ns : List Int) (H : Hp) (r : Addr) : Prop := ∃ i seed rest : Int, H r = some (.lst [.ref a, .int i, .int seed, .int rest]) ∧ 0 ≤ i ∧ SqL K H a (ns.map V.int)
def But (r : Addr) (H H' : Hp) : Prop := ∀ b o, H b = some o → b ≠ r → H' b = some o
theorem But.refl (r : Addr) (H : Hp) : But r H H := fun _ _ h _ => h
theorem But.trans {r : Addr} {H H1 H2 : Hp} (a : But r H H1) (b : But r H1 H2) : But r H H2 := fun c o h n => b c o (a c o h n) n
theorem But.same {r : Addr} {H H' : Hp} (s : Same H H') : But r H H' := fun b o h _ => s b o h
theorem RowAt.same {K : PySem.W.Frag} {a r : Addr} {ns : List Int} {H H' : Hp} (R : RowAt K a ns H r) (s : Same H H') : RowAt K a ns H' r := by
  obtain ⟨i, d, e, h, hi, q⟩ := R
  exact ⟨i, d, e, s _ _ h, hi, s.seq q⟩
theorem row_seq {K : PySem.W.Frag} {a r : Addr} {ns : List Int} {H : Hp} {i d e : Int} {o : HO} (h : H r = some (.lst [.ref a, .int i, .int d, .int e])) (q : SqL K H a (ns.map V.int)) : SqL K (upd H r o) a (ns.map V.int) := by
  have hne : ∀ {u : HO}, H a = some u → (∀ xs, u = .lst xs → xs ≠ [.ref a, .int i, .int d, .int e]) → a ≠ r := fun hu hn e' => by
    subst e'
    exact hn _ (Option.some.inj (hu.symm.trans h)) rfl
  rcases q with (q | ⟨u, q⟩) | q
  · refine .inl (.inl ?_)
    rw [upd_ne (hne q fun xs e => by
      cases e
      intro z
      cases ns with
      | nil => simp at z
      | cons n r => simp at z)]
    exact q
  · refine .inl (.inr ⟨u, ?_⟩)
    rw [upd_ne (hne q fun xs e => by cases e)]
    exact q
  · exact .inr q
theorem fmod_in {k m : Int} (h : 1 ≤ m) : 0 ≤ k.fmod m ∧ k.fmod m < m := by
  rw [Int.fmod_eq_emod_of_nonneg _ (by omega)]
  exact ⟨Int.emod_nonneg _ (by omega), Int.emod_lt_of_pos _ (by omega)⟩
section
variable {P : Program} {w : World} {K : PySem.W.Frag} {mg : Str → Option Value} {base : Heap}
theorem scTk : FnScope ["_law_row", "_law_many", "_law_found", "_law_cell"] ["_law_row", "_law_many"] (defScope sLawTaken) := ⟨rfl, rfl, rfl, by decide +kernel, rfl, by decide +kernel, by decide +kernel⟩
def spTk (K : PySem.W.Frag) (a : Addr) (ns : List Int) : Sp := fun vs H Q _ => ∃ (r : Addr) (m : Int), vs = [.ref r, .int m] ∧ RowAt K a ns H r ∧ 1 ≤ m ∧ m ≤ 1000000000 ∧ ∀ H' (k : Nat), (k : Int) < m → RowAt K a ns H' r → But r H H' → Q (.int k) H'
theorem ok_tk {a : Addr} {ns : List Int} {f : Addr} {fd : FuncData} (F : Fun K "_law_taken" "_law_taken" sLawTaken f fd) (T : TxtW K mg) (L : TxtL K mg) : FnOk P w K mg base CX0 1 f fd ["_law_row", "_law_many"] (spTk K a ns) := by
  refine F.ok scTk (fun vs H Q E h => ?_) (fun cdv A outer s H vs Q E hr h => ?_)
  · obtain ⟨r, m, rfl, _⟩ := h
    rfl
  · obtain ⟨r, m, rfl, ⟨i, d, e, hR, hi, hS⟩, m1, m2, k⟩ := h
    have nd := scTk.nd
    refine ⟨_, pss_cons (ps_if (pt_cmpR op_gt (pe_ix ix_list (pv 0) pe_int (fun _ _ => rfl)) pe_int (nomark _))
        (pss_cons (ps_set (i := 2) nd rfl (.inl rfl) (pe_op op_modN (pe_callTy call_int1 (by rfl) L.int (by decide +kernel) (pa_cons (pe_ix ix_list (pv 0) pe_int (fun _ _ => rfl)) pa_nil)) (pv 1)))
        (pss_cons (ps_asg (pe_op op_fdivN (pe_ix ix_list (pv 0) pe_int (fun _ _ => rfl)) (pv 1)) (pg_sub (pv 0) pe_int set_list))
        (pss_one (ps_ret (pv 2))))) pss_nil)
      (C8.pss_cut (ps_asg (pe_op op_add (pe_ix ix_list (pv 0) pe_int (fun _ _ => rfl)) pe_int) (pg_sub (pv 0) pe_int set_list))
      (pss_cons (ps_if (pt_cmpR op_gt (pe_ix ix_list (pv 0) pe_int (fun _ _ => rfl)) (pe_callB call_len_seq (by rfl) T.len PySem.boot_len (pa_cons (pe_ix ix_list (pv 0) pe_int (fun _ _ => rfl)) pa_nil)) (nomark _))
        (pss_cons (ps_asg (pe_op op_modN (pe_callTy call_int1 (by rfl) L.int (by decide +kernel) (pa_cons (pe_op op_add (pe_op op_mul (pe_ix ix_list (pv 0) pe_int (fun _ _ => rfl)) pe_int) pe_int) pa_nil)) pe_int) (pg_sub (pv 0) pe_int set_list))
        (pss_one (ps_ret (pe_op op_modN (pe_callTy call_int1 (by rfl) L.int (by decide +kernel) (pa_cons (pe_op op_fdivN (pe_ix ix_list (pv 0) pe_int (fun _ _ => rfl)) pe_int) pa_nil)) (pv 1))))) pss_nil)
      (pss_cons (ps_set (i := 3) nd rfl (.inl rfl) (pe_ix ix_list (pe_ix ix_list (pv 0) pe_int (fun _ _ => rfl)) (pe_op op_sub (pe_ix ix_list (pv 0) pe_int (fun _ _ => rfl)) pe_int) (fun _ _ => rfl)))
      (C8.pss_cut (ps_asg (pe_op op_modN (pe_callTy call_int1 (by rfl) L.int (by decide +kernel) (pa_cons (pe_op op_add (pe_op op_add (pe_op op_mul (pe_ix ix_list (pv 0) pe_int (fun _ _ => rfl)) pe_int) (pv 3)) pe_int) pa_nil)) pe_int) (pg_sub (pv 0) pe_int set_list))
      (C8.pss_cut (ps_if (pt_cmpR op_ge (pv 3) (pe_op op_pow pe_int pe_int) (nomark _)) (pss_one (ps_asg (pe_op op_fdivN (pv 3) (pv 1)) (pg_sub (pv 0) pe_int set_list))) pss_nil)
      (pss_one (ps_ret (pe_op op_modN (pe_callTy call_int1 (by rfl) L.int (by decide +kernel) (pa_cons (pv 3) pa_nil)) (pv 1))))))))), ?_⟩
    have m0 : m ≠ 0 := by omega
    have mb : m ≠ 0 ∧ m.natAbs < 1073741824 := ⟨m0, by omega⟩
    have row : ∀ {H1 : Hp} {i d e : Int}, H1 r = some (.lst [.ref a, .int i, .int d, .int e]) → 0 ≤ i → SqL K H1 a (ns.map V.int) → RowAt K a ns H1 r := fun h1 h2 h3 => ⟨_, _, _, h1, h2, h3⟩
    have but : ∀ {H1 : Hp} {o : HO}, But r H H1 → But r H (upd H1 r o) := fun b c o h n => by rw [upd_ne n]; exact b c o h n
    refine ⟨_, rfl, r, _, _, _, rfl, rfl, SqL.of hR, rfl, _, _, rfl, rfl, _, rfl, ?_⟩
    by_cases he : e > 0
    · rw [decide_eq_true he]
      refine iteT ⟨_, rfl, r, _, _, _, rfl, rfl, SqL.of hR, rfl, .inl ⟨_, rfl, _, rfl, _, _, rfl, rfl, m0, ?_⟩⟩
      refine ⟨_, rfl, r, _, _, _, rfl, rfl, SqL.of hR, rfl, _, rfl, _, _, rfl, rfl, mb, _, rfl, r, _, _, 3, rfl, rfl, hR, rfl, ?_⟩
      refine ⟨_, rfl, ?_⟩
      have hk := fmod_in (k := e) m1
      have := k (upd H r (.lst [.ref a, .int i, .int d, .int (e.fdiv m)])) (e.fmod m).toNat (by omega) (row upd_same hi (row_seq hR hS)) (but (But.refl r H))
      rw [Int.toNat_of_nonneg hk.1] at this
      exact this
    · rw [decide_eq_false he]
      refine iteF ?_
      refine ⟨fun σ H1 => σ = [some (.ref r), some (.int m), none, none] ∧ H1 r = some (.lst [.ref a, .int (i + 1), .int d, .int e]) ∧ SqL K H1 a (ns.map V.int) ∧ But r H H1, ?_, ?_⟩
      · refine ⟨_, rfl, r, _, _, _, rfl, rfl, SqL.of hR, rfl, _, _, rfl, rfl, _, rfl, r, _, _, 1, rfl, rfl, hR, rfl, ?_⟩
        exact ⟨rfl, upd_same, row_seq hR hS, but (But.refl r H)⟩
      rintro σ H1 ⟨rfl, hR1, hS1, b1⟩
      refine ⟨_, rfl, r, _, _, _, rfl, rfl, SqL.of hR1, rfl, _, rfl, r, _, _, _, rfl, rfl, SqL.of hR1, rfl, a, _, rfl, .inl hS1, _, _, rfl, rfl, _, rfl, ?_⟩
      rw [List.length_map]
      by_cases hl : i + 1 > (ns.length : Int)
      · rw [decide_eq_true hl]
        refine iteT ⟨_, rfl, r, _, _, _, rfl, rfl, SqL.of hR1, rfl, _, _, rfl, rfl, .inr (by decide), _, _, rfl, rfl, .inl ⟨_, rfl, _, _, rfl, rfl, (by show (2147483647 : Int) ≠ 0; decide), _, rfl, r, _, _, 2, rfl, rfl, hR1, rfl, ?_⟩⟩
        refine ⟨_, rfl, r, _, _, _, rfl, rfl, SqL.of upd_same, rfl, _, _, rfl, rfl, (by show (7 : Int) ≠ 0 ∧ (7 : Int).natAbs < 1073741824; decide), .inl ⟨_, rfl, _, rfl, _, _, rfl, rfl, m0, ?_⟩⟩
        have hk := fmod_in (k := ((d * 48271 + 11).fmod 2147483647).fdiv 7) m1
        have := k (upd H1 r (.lst [.ref a, .int (i + 1), .int ((d * 48271 + 11).fmod 2147483647), .int e])) (((d * 48271 + 11).fmod 2147483647).fdiv 7 |>.fmod m).toNat (by omega) (row upd_same (by omega) (row_seq hR1 hS1)) (but b1)
        rw [Int.toNat_of_nonneg hk.1] at this
        exact this
      · rw [decide_eq_false hl]
        refine iteF ?_
        obtain ⟨c, hc⟩ : ∃ c, ns[i.toNat]? = some c := ⟨_, List.getElem?_eq_getElem (by omega)⟩
        refine ⟨_, rfl, r, _, _, _, rfl, rfl, SqL.of hR1, rfl, _, rfl, r, _, _, _, rfl, rfl, SqL.of hR1, rfl, _, _, rfl, rfl, a, _, _, .int c, rfl, rfl, hS1, ?_, ?_⟩
        · rw [show i + 1 - 1 = ((i.toNat : Nat) : Int) by omega]
          exact atI_nat (by rw [List.getElem?_map, hc]; all_goals rfl)
        refine ⟨fun σ H2 => ∃ d' : Int, σ = [some (.ref r), some (.int m), none, some (.int c)] ∧ H2 r = some (.lst [.ref a, .int (i + 1), .int d', .int e]) ∧ SqL K H2 a (ns.map V.int) ∧ But r H H2, ?_, ?_⟩
        · refine ⟨_, rfl, r, _, _, _, rfl, rfl, SqL.of hR1, rfl, _, _, rfl, rfl, .inr (by decide), _, rfl, _, _, rfl, rfl, _, _, rfl, rfl, .inl ⟨_, rfl, _, _, rfl, rfl, (by show (2147483647 : Int) ≠ 0; decide), _, rfl, r, _, _, 2, rfl, rfl, hR1, rfl, ?_⟩⟩
          exact ⟨_, rfl, upd_same, row_seq hR1 hS1, but b1⟩
        rintro σ H2 ⟨d', rfl, hR2, hS2, b2⟩
        refine ⟨fun σ H3 => ∃ e' : Int, σ = [some (.ref r), some (.int m), none, some (.int c)] ∧ H3 r = some (.lst [.ref a, .int (i + 1), .int d', .int e']) ∧ SqL K H3 a (ns.map V.int) ∧ But r H H3, ?_, ?_⟩
        · refine ⟨_, rfl, _, _, rfl, rfl, ⟨by decide, by decide, by decide⟩, _, _, rfl, rfl, _, rfl, ?_⟩
          refine ite2 (fun _ => ?_) fun _ => ?_
          · refine ⟨_, rfl, _, rfl, _, _, rfl, rfl, mb, _, rfl, r, _, _, 3, rfl, rfl, hR2, rfl, ?_⟩
            exact ⟨_, rfl, upd_same, row_seq hR2 hS2, but b2⟩
          · exact ⟨e, rfl, hR2, hS2, b2⟩
        rintro σ H3 ⟨e', rfl, hR3, hS3, b3⟩
        refine ⟨_, rfl, .inl ⟨_, rfl, _, rfl, _, _, rfl, rfl, m0, ?_⟩⟩
        have hk := fmod_in (k := c) m1
        have := k H3 (c.fmod m).toNat (by omega) (row hR3 (by omega) hS3) b3
        rw [Int.toNat_of_nonneg hk.1] at this
        exact this
end
end TK
end
namespace TK
end TK
section
set_option Elab.async false
set_option maxRecDepth 100000
set_option linter.all false
namespace TK
open PySem L2 TM
abbrev intV (l : List Nat) : List V := l.map fun j => V.int (j : Nat)
theorem range_snoc {p : Nat → Bool} (i : Nat) : (List.range (i + 1)).filter p = (List.range i).filter p ++ (if p i then [i] else []) := by
  rw [List.range_succ, List.filter_append]
  congr 1
  by_cases h : p i <;> simp [h]
section
variable {P : Program} {w : World} {K : PySem.W.Frag} {mg : Str → Option Value} {base : Heap}
end
end TK
end
section
set_option Elab.async false
set_option maxRecDepth 100000
set_option linter.all false
namespace TK
open PySem L2 TM
/-- the cells in rows of w -/
def chunk (h w : Nat) (cs : List Nat) : Grid := (List.range h).map fun i => (cs.drop (i * w)).take w
theorem chunk_flat (w : Nat) (cs : List Nat) : ∀ h, (chunk h w cs).flatten = cs.take (h * w)
  | 0 => by simp [chunk]
  | h + 1 => by
    have ih := chunk_flat w cs h
    unfold chunk at ih ⊢
    rw [List.range_succ, List.map_append, List.flatten_append, ih, List.map_singleton, List.flatten_cons, List.flatten_nil, List.append_nil, Nat.succ_mul]
    exact (List.take_add).symm
theorem chunk_rect {h w : Nat} {cs : List Nat} (hl : cs.length = h * w) : Rect h w (chunk h w cs) := by
  refine ⟨by simp [chunk], fun r hr => ?_⟩
  obtain ⟨i, hi, rfl⟩ := List.mem_map.mp hr
  have hi := List.mem_range.mp hi
  rw [List.length_take, List.length_drop, hl]
  have : (i + 1) * w ≤ h * w := Nat.mul_le_mul_right _ hi
  rw [Nat.succ_mul] at this
  omega
/-- k marbles lie, a, b, .. of them -/
structure Lay (k : Nat) (cs : List Nat) : Prop where
  len : (mb cs).length = k
  nd : (mb cs).Nodup
  ab : ∀ c ∈ mb cs, 97 ≤ c ∧ c < 97 + k
theorem Lay.none (n : Nat) : Lay 0 (List.replicate n 46) := by
  have e : mb (List.replicate n 46) = [] := mb_dots n
  exact ⟨by rw [e]; rfl, by rw [e]; exact List.nodup_nil, by rw [e]; intro c hc; cases hc⟩
theorem Lay.cell {k : Nat} {cs : List Nat} (L : Lay k cs) (hk : k ≤ 26) : ∀ c ∈ cs, Cell c := fun c hc => by
  by_cases h : c = 46
  · exact .inl h
  · have := L.ab c (List.mem_filter.mpr ⟨hc, by simp [h]⟩)
    exact .inr ⟨this.1, by omega⟩
theorem Lay.put {k p : Nat} {cs : List Nat} (L : Lay k cs) (hp : cs[p]? = some 46) : Lay (k + 1) (cs.set p (97 + k)) := by
  have hi := (List.getElem?_eq_some_iff.mp hp).1
  have e1 : cs = cs.take p ++ 46 :: cs.drop (p + 1) := by
    have := (List.getElem?_eq_some_iff.mp hp).2
    rw [← this]
    simp
  have e2 : cs.set p (97 + k) = cs.take p ++ (97 + k) :: cs.drop (p + 1) := List.set_eq_take_append_cons_drop ▸ by rw [if_pos hi]
  have m1 : mb cs = mb (cs.take p) ++ mb (cs.drop (p + 1)) := by
    conv => lhs; rw [e1, mb_app]
    simp [mb]
  have m2 : mb (cs.set p (97 + k)) = mb (cs.take p) ++ (97 + k) :: mb (cs.drop (p + 1)) := by
    rw [e2, mb_app]
    have : (97 + k != 46) = true := by simp; omega
    simp [mb, this]
  have pm : (mb (cs.set p (97 + k))).Perm ((97 + k) :: mb cs) := by
    rw [m1, m2]
    exact List.perm_middle
  have fresh : 97 + k ∉ mb cs := fun h => by
    have := L.ab _ h
    omega
  refine ⟨by rw [pm.length_eq, List.length_cons, L.len], pm.nodup_iff.mpr (List.nodup_cons.mpr ⟨fresh, L.nd⟩), fun c hc => ?_⟩
  rcases List.mem_cons.mp (pm.mem_iff.mp hc) with e | e
  · subst e; omega
  · have := L.ab c e
    omega
/-- the free places -/
def frees (cs : List Nat) (n : Nat) : List Nat := (List.range n).filter fun j => cs.getD j 0 == 46
theorem frees_le (cs : List Nat) (n : Nat) : (frees cs n).length ≤ n := by
  have := List.length_filter_le (fun j => cs.getD j 0 == 46) (List.range n)
  rw [List.length_range] at this
  exact this
theorem frees_at {cs : List Nat} {d p : Nat} (h : (frees cs cs.length)[d]? = some p) : cs[p]? = some 46 := by
  have hm := List.mem_filter.mp (List.mem_of_getElem? h)
  have hp := List.mem_range.mp hm.1
  have h2 := hm.2
  rw [List.getD_eq_getElem?_getD, List.getElem?_eq_getElem hp] at h2
  rw [List.getElem?_eq_getElem hp]
  simpa using h2
theorem frees_pos {k : Nat} {cs : List Nat} (L : Lay k cs) (hk : k < cs.length) : 0 < (frees cs cs.length).length := by
  refine Nat.pos_of_ne_zero fun h0 => ?_
  have e : frees cs cs.length = [] := List.length_eq_zero_iff.mp h0
  have all : ∀ c ∈ cs, (c != 46) = true := fun c hc => by
    obtain ⟨j, hj, rfl⟩ := List.mem_iff_getElem.mp hc
    by_cases q : cs[j] = 46
    · have : j ∈ frees cs cs.length := List.mem_filter.mpr ⟨List.mem_range.mpr hj, by rw [List.getD_eq_getElem?_getD, List.getElem?_eq_getElem hj]; simp [q]⟩
      rw [e] at this
      cases this
    · simp [q]
  have : mb cs = cs := List.filter_eq_self.mpr all
  have := L.len
  rw [‹mb cs = cs›] at this
  omega
theorem lay_VG {h w k : Nat} {cs : List Nat} (L : Lay k cs) (hk : k ≤ 26) (hl : cs.length = h * w) (h1 : 1 ≤ h) (h8 : h ≤ 8) (w1 : 1 ≤ w) (w8 : w ≤ 8) : VG h w (chunk h w cs) := by
  have ef : (chunk h w cs).flatten = cs := by rw [chunk_flat, ← hl, List.take_length]
  refine ⟨chunk_rect hl, h1, h8, w1, w8, fun r hr c hc => ?_, by rw [ef]; exact L.nd⟩
  exact L.cell hk c (by rw [← ef]; exact List.mem_flatten.mpr ⟨r, hr, hc⟩)
end TK
end
section
set_option Elab.async false
set_option maxRecDepth 100000
set_option linter.all false
namespace TK
open PySem L2 TM
theorem ix_listK {X : Cx} {K : PySem.W.Frag} (h : X.K = K) : IxR X (rIxL K) := by
  subst h
  exact ix_list
theorem sl_listK {X : Cx} {K : PySem.W.Frag} (h : X.K = K) : SlR X (rSlL K) := by
  subst h
  exact sl_list
theorem but_put {r l : Addr} {H0 H : Hp} {o : HO} (b : But r H0 H) (h : H0 l = none) : But r H0 (upd H l o) := fun c u e n => by
  rw [upd_ne (ne_of_none e h)]
  exact b c u e n
theorem but_none {r l : Addr} {H0 H : Hp} {x : HO} (b : But r H0 H) (hr : H r = some x) (h : H l = none) : H0 l = none := by
  cases e : H0 l with
  | none => rfl
  | some o =>
    have := b l o e (fun q => by subst q; rw [hr] at h; cases h)
    rw [h] at this
    cases this
theorem RowAt.ne {K : PySem.W.Frag} {a r l : Addr} {ns : List Int} {H : Hp} (R : RowAt K a ns H r) (h : H l = none) : l ≠ r := by
  obtain ⟨_, _, _, e, _⟩ := R
  exact (ne_of_none e h).symm
theorem RowAt.none {K : PySem.W.Frag} {a r l : Addr} {ns : List Int} {H0 H : Hp} (R : RowAt K a ns H r) (b : But r H0 H) (h : H l = none) : H0 l = none := by
  obtain ⟨_, _, _, e, _⟩ := R
  exact but_none b e h
/-- a store at a list that is not the drawing's -/
theorem RowAt.put {K : PySem.W.Frag} {a r l : Addr} {ns : List Int} {H : Hp} {xs ys : List V} (R : RowAt K a ns H r) (hl : H l = some (.lst xs)) (hn : l ≠ r) (hs : ∃ c t, xs = sg c :: t) : RowAt K a ns (upd H l (.lst ys)) r := by
  obtain ⟨i, d, e, h, hi, q⟩ := R
  refine ⟨i, d, e, by rw [upd_ne hn.symm]; exact h, hi, ?_⟩
  obtain ⟨c, t, rfl⟩ := hs
  rcases q with (q | ⟨u, q⟩) | q
  · refine .inl (.inl ?_)
    rw [upd_ne (fun e' => by
      subst e'
      have := Option.some.inj (q.symm.trans hl)
      cases ns with
      | nil => cases this
      | cons n r => cases this)]
    exact q
  · refine .inl (.inr ⟨u, ?_⟩)
    rw [upd_ne (fun e' => by
      subst e'
      have := Option.some.inj (q.symm.trans hl)
      cases this)]
    exact q
  · exact .inr q
def side (k : Nat) : Nat := match k with
  | 0 => 3
  | 1 => 5
  | _ => 8
theorem side_at {k : Nat} (h : k < 3) : ([V.int 3, V.int 5, V.int 8] : List V)[k]? = some (.int (side k : Nat)) := by
  match k, h with
  | 0, _ => rfl
  | 1, _ => rfl
  | 2, _ => rfl
theorem side_1 : ∀ k, 1 ≤ side k ∧ side k ≤ 8
  | 0 => by decide
  | 1 => by decide
  | _ + 2 => by show 1 ≤ 8 ∧ 8 ≤ 8; decide
theorem rep_dots (k : Nat) : (List.replicate k [V.str (S [46])]).flatten = (List.replicate k 46).map sg := by
  induction k with
  | zero => rfl
  | succ k ih =>
    rw [List.replicate_succ, List.flatten_cons, ih, List.replicate_succ, List.map_cons]
    rfl
section
variable {P : Program} {w : World} {K : PySem.W.Frag} {mg : Str → Option Value} {base : Heap} {a : Addr} {ns : List Int} {fT : Addr} {fdT : FuncData}
abbrev NRw : List Str := ["_law_row", "_law_most", "_law_height", "_law_width", "_law_cells", "_law_names", "_law_k", "_law_free", "_law_place"]
theorem scRw : FnScope NRw ["_law_row", "_law_most"] (defScope sLawRows) := ⟨rfl, rfl, rfl, by decide +kernel, rfl, by decide +kernel, by decide +kernel⟩
def spRw (K : PySem.W.Frag) (a : Addr) (ns : List Int) : Sp := fun vs H Q _ => ∃ (r : Addr) (m : Nat), vs = [.ref r, .int m] ∧ RowAt K a ns H r ∧ m ≤ 26 ∧ ∀ H' l h w g, VG h w g → H' l = some (.lst (rowV g)) → RowAt K a ns H' r → But r H H' → Q (.ref l) H'
/-- .. and the marbles are the first m at most -/
def spRwN (K : PySem.W.Frag) (a : Addr) (ns : List Int) : Sp := fun vs H Q _ => ∃ (r : Addr) (m : Nat), vs = [.ref r, .int m] ∧ RowAt K a ns H r ∧ m ≤ 26 ∧ ∀ H' l h w g, VG h w g → (∀ c ∈ mb g.flatten, c < 97 + m) → H' l = some (.lst (rowV g)) → RowAt K a ns H' r → But r H H' → Q (.ref l) H'
theorem ok_rwN {f : Addr} {fd : FuncData} (F : Fun K "_law_rows" "_law_rows" sLawRows f fd) (T : TxtW K mg) (L : TxtL K mg) (GT : FnOk P w K mg base CX0 1 fT fdT ["_law_row", "_law_many"] (spTk K a ns)) (kT : PySem.W.keepIn K (.ref fT) = true) (bT : Binds K fdT ["_law_row", "_law_many"] []) (mT : mg "_law_taken" = some (.ref fT)) :
    FnOk P w K mg base CX0 2 f fd ["_law_row", "_law_most"] (spRwN K a ns) := by
  refine F.ok scRw (fun vs H Q E h => ?_) (fun cdv A outer s H vs Q E hr h => ?_)
  · obtain ⟨r, m, rfl, _⟩ := h
    rfl
  · obtain ⟨r, m, rfl, hR, hm, k⟩ := h
    have nd := scRw.nd
    refine ⟨_, C8.pss_cut (ps_set (i := 2) nd rfl (.inl rfl) (pe_op op_add pe_int (pe_call GT hr rfl mT kT bT .nil pass0 (pa_cons (pv 0) (pa_cons (pe_ix ix_list (pe_lst (pa_cons pe_int (pa_cons pe_int (pa_cons pe_int pa_nil)))) (pe_call GT hr rfl mT kT bT .nil pass0 (pa_cons (pv 0) (pa_cons pe_int pa_nil))) (fun _ _ => rfl)) pa_nil)))))
      (C8.pss_cut (ps_set (i := 3) nd rfl (.inr rfl) (pe_op op_add pe_int (pe_call GT hr rfl mT kT bT .nil pass0 (pa_cons (pv 0) (pa_cons (pe_ix ix_list (pe_lst (pa_cons pe_int (pa_cons pe_int (pa_cons pe_int pa_nil)))) (pe_call GT hr rfl mT kT bT .nil pass0 (pa_cons (pv 0) (pa_cons pe_int pa_nil))) (fun _ _ => rfl)) pa_nil)))))
      (C8.pss_cut (ps_set (i := 4) nd rfl (.inr rfl) (pe_op op_rep (pe_lst (pa_cons pe_str pa_nil)) (pe_op op_mul (pv 2) (pv 3))))
      (pss_cons (ps_set (i := 5) nd rfl (.inl rfl) pe_str)
      (pss_cons (ps_for PassesOwn.never rfl (pi_range1 (by rfl) L.range (pa_cons (pe_callB (call_min2 rfl) (by rfl) L.min (by decide +kernel) (pa_cons (pe_op op_mul (pv 2) (pv 3)) (pa_cons (pe_call GT hr rfl mT kT bT .nil pass0 (pa_cons (pv 0) (pa_cons (pe_op op_add (pv 1) pe_int) pa_nil))) pa_nil))) pa_nil)) (pg_name (i := 6) nd rfl (.inl rfl))
        (C8.pss_cut (ps_setLc (i := 7) (own := [("_law_place", 8)]) (g := gName 8) rfl nd rfl rfl (sw_true rfl rfl rfl (by decide +kernel)) (pi_range1 (by rfl) L.range (pa_cons (pe_op op_mul (pv 2) (pv 3)) pa_nil)) (blkOk_by (N := NRw) (sc := defScope sLawRows) (by decide +kernel)) (fun _ _ _ _ _ => pg_name (i := 8) nd rfl (.inl rfl))
            (fun _ _ _ _ _ => pts_one (pt_cmpR op_eq (pe_ix (ix_listK (K := K) rfl) (pv 4) (pv 8) (fun _ _ => rfl)) pe_str (nomark _))) (fun _ _ _ _ _ => pv 8))
        (pss_one (ps_asg (pe_ix ix_str (pv 5) (pv 6) (fun _ _ => rfl)) (pg_sub (pv 4) (pe_ix ix_list (pv 7) (pe_call GT hr rfl mT kT bT .nil pass0 (pa_cons (pv 0) (pa_cons (pe_callB call_len_seq (by rfl) T.len PySem.boot_len (pa_cons (pv 7) pa_nil)) pa_nil))) (fun _ _ => rfl)) set_list)))))
      (pss_one (ps_ret (pe_lc (own := [("_law_k", 6)]) (g := gName 6) (tt := tYes) rfl nd (pi_range1 (by rfl) L.range (pa_cons (pv 2) pa_nil)) (blkOk_by (N := NRw) (sc := defScope sLawRows) (by decide +kernel)) (fun _ _ _ _ _ => pg_name (i := 6) nd rfl (.inl rfl)) (fun _ _ _ _ _ => pts_nil)
        (fun _ _ _ _ _ => pe_joinK (K := K) rfl pe_str (pe_slice (sl_listK (K := K) rfl) (pv 4) (po_some (pe_op op_mul (pv 6) (pv 3))) (po_some (pe_op op_add (pe_op op_mul (pv 6) (pv 3)) (pv 3)))))))))))), ?_⟩
    refine ⟨fun σ H1 => ∃ h : Nat, σ = [some (.ref r), some (.int m), some (.int h), none, none, none, none, none, none] ∧ 1 ≤ h ∧ h ≤ 8 ∧ RowAt K a ns H1 r ∧ But r H H1, ?_, ?_⟩
    · refine ⟨_, rfl, (by show 3 ≤ sizeLine; decide), fun p hp => ⟨_, rfl, r, 3, rfl, hR.same (same_new hp), by decide, by decide, fun HA d hd RA bA => ?_⟩⟩
      have hd3 : d < 3 := by omega
      have s1 := side_1 d
      refine ⟨p, _, _, _, rfl, rfl, SqL.of (bA p _ upd_same (hR.ne hp)), atI_nat (side_at hd3), r, _, rfl, RA, by omega, by omega, fun HB e he RB bB => ?_⟩
      exact ⟨_, _, rfl, rfl, e + 1, by rw [show ((e + 1 : Nat) : Int) = 1 + (e : Int) by omega]; rfl, by omega, by omega, RB, (((But.refl r H).trans (.same (same_new hp))).trans bA).trans bB⟩
    rintro σ H1 ⟨h, rfl, h1, h8, R1, b1⟩
    refine ⟨fun σ H2 => ∃ w : Nat, σ = [some (.ref r), some (.int m), some (.int h), some (.int w), none, none, none, none, none] ∧ 1 ≤ w ∧ w ≤ 8 ∧ RowAt K a ns H2 r ∧ But r H H2, ?_, ?_⟩
    · refine ⟨_, rfl, (by show 3 ≤ sizeLine; decide), fun p hp => ⟨_, rfl, r, 3, rfl, R1.same (same_new hp), by decide, by decide, fun HA d hd RA bA => ?_⟩⟩
      have hd3 : d < 3 := by omega
      have s1 := side_1 d
      refine ⟨p, _, _, _, rfl, rfl, SqL.of (bA p _ upd_same (R1.ne hp)), atI_nat (side_at hd3), r, _, rfl, RA, by omega, by omega, fun HB e he RB bB => ?_⟩
      exact ⟨_, _, rfl, rfl, e + 1, by rw [show ((e + 1 : Nat) : Int) = 1 + (e : Int) by omega]; rfl, by omega, by omega, RB, ((b1.trans (.same (same_new hp))).trans bA).trans bB⟩
    rintro σ H2 ⟨w, rfl, w1, w8, R2, b2⟩
    have hw : h * w ≤ 64 := Nat.mul_le_mul h8 w8
    have hw1 : 1 ≤ h * w := Nat.mul_le_mul h1 w1
    have ehw : (h : Int) * (w : Int) = ((h * w : Nat) : Int) := by simp
    have bh : ((-(2 ^ 64) < (h : Int) ∧ (h : Int) < 2 ^ 64) ∨ (-(2 ^ 64) < (w : Int) ∧ (w : Int) < 2 ^ 64)) := .inl ⟨by omega, by omega⟩
    refine ⟨fun σ H3 => ∃ l, σ = [some (.ref r), some (.int m), some (.int h), some (.int w), some (.ref l), none, none, none, none] ∧ H l = none ∧ l ≠ r ∧ H3 l = some (.lst ((List.replicate (h * w) 46).map sg)) ∧ RowAt K a ns H3 r ∧ But r H H3, ?_, ?_⟩
    · refine ⟨(by show 1 ≤ sizeLine; decide), fun p hp => ⟨_, rfl, _, rfl, _, _, rfl, rfl, bh, ?_⟩⟩
      refine ⟨p, ((h * w : Nat) : Int), _, rfl, congrArg V.int ehw, upd_same, by omega, by omega, ?_, fun q hq => ?_⟩
      · show 1 * ((h * w : Nat) : Int).toNat ≤ 16777216
        rw [Int.toNat_natCast]
        omega
      · rw [Int.toNat_natCast]
        have R3 := R2.same (same_new (o := .lst [V.str (S [46])]) hp)
        have b3 := b2.trans (.same (same_new (o := .lst [V.str (S [46])]) hp))
        refine ⟨q, rfl, R3.none b3 hq, R3.ne hq, ?_, R3.same (same_new hq), b3.trans (.same (same_new hq))⟩
        rw [upd_same, ← rep_dots]
        rfl
    rintro σ H3 ⟨l, rfl, hl0, hlr, hL, R3, b3⟩
    refine ⟨_, rfl, _, rfl, _, _, rfl, rfl, bh, _, rfl, _, rfl, _, _, rfl, rfl, r, (m : Int) + 1, rfl, R3, by omega, by omega, fun H4 kk hkk R4 b4 => ?_⟩
    have hmin : ∃ N : Nat, (if (kk : Int) < (h : Int) * (w : Int) then (kk : Int) else (h : Int) * (w : Int)) = (N : Int) ∧ N ≤ 26 ∧ N ≤ h * w ∧ N ≤ m := by
      rw [ehw]
      by_cases hc : (kk : Int) < ((h * w : Nat) : Int)
      · rw [if_pos hc]
        exact ⟨kk, rfl, by omega, by omega, by omega⟩
      · rw [if_neg hc]
        exact ⟨h * w, rfl, by omega, Nat.le_refl _, by omega⟩
    obtain ⟨N, eN, N26, Nhw, Nm⟩ := hmin
    refine ⟨_, _, rfl, ?_⟩
    refine ⟨(N : Int), congrArg (fun z => [V.int z]) eN, by omega, by omega, for_range (lo := 0) (n := ((N : Nat) : Int).toNat) (fun i σ H5 => ∃ cs v6 v7 v8, σ = [some (.ref r), some (.int m), some (.int h), some (.int w), some (.ref l), some (.str (S letters)), v6, v7, v8] ∧ Lay i cs ∧ cs.length = h * w ∧ H5 l = some (.lst (cs.map sg)) ∧ RowAt K a ns H5 r ∧ But r H H5)
      ⟨_, none, none, none, rfl, Lay.none (h * w), List.length_replicate, b4 _ _ hL hlr, R4, b3.trans b4⟩ ?_ ?_⟩
    · rintro i σ H5 hi ⟨cs, v6, v7, v8, rfl, La, hcs, hL5, R5, b5⟩
      rw [Int.toNat_natCast] at hi
      rw [Int.zero_add]
      refine ⟨fun σ H6 => ∃ D v8, σ = [some (.ref r), some (.int m), some (.int h), some (.int w), some (.ref l), some (.str (S letters)), some (.int (i : Nat)), some (.ref D), v8] ∧ D ≠ r ∧ D ≠ l ∧ H6 D = some (.lst (intV (frees cs cs.length))) ∧ H6 l = some (.lst (cs.map sg)) ∧ RowAt K a ns H6 r ∧ But r H H6, ?_, ?_⟩
      · refine ⟨_, rfl, _, rfl, _, _, rfl, rfl, bh, ?_⟩
        refine ⟨((h * w : Nat) : Int), congrArg (fun z => [V.int z]) ehw, by omega, by omega, fun D hD => lc_range (lo := 0) (n := (((h * w : Nat) : Int)).toNat) (fun j H6 => Same H5 H6 ∧ H6 D = some (.lst (intV ((List.range j).filter fun x => cs.getD x 0 == 46))))
          ⟨same_new hD, upd_same⟩ ?_ ?_⟩
        · rintro j H6 hj ⟨sm, hD6⟩
          rw [Int.toNat_natCast] at hj
          rw [Int.zero_add]
          obtain ⟨d, hd⟩ : ∃ d, cs[j]? = some d := ⟨_, List.getElem?_eq_getElem (by omega)⟩
          refine ⟨rfl, _, rfl, _, rfl, l, _, _, sg d, rfl, rfl, SqL.of (sm _ _ hL5), atI_nat (by rw [List.getElem?_map, hd]; all_goals rfl), rfl, _, rfl, ?_⟩
          rw [show decide (sg d = V.str (Str.ofString ".")) = (d == 46) from dL d 46]
          have eg : cs.getD j 0 = d := by rw [List.getD_eq_getElem?_getD, hd]; rfl
          have es := range_snoc (p := fun x => cs.getD x 0 == 46) j
          by_cases hx : (d == 46) = true
          · rw [hx]
            refine iteT ⟨_, rfl, _, hD6, ?_, same_put sm hD, ?_⟩
            · rw [List.length_map]
              have := List.length_filter_le (fun x => cs.getD x 0 == 46) (List.range j)
              rw [List.length_range] at this
              show _ < 16777216
              omega
            · rw [upd_same, es, if_pos (by rw [eg]; exact hx)]
              simp [intV]
          · rw [Bool.not_eq_true] at hx
            rw [hx]
            refine iteF ⟨sm, ?_⟩
            rw [hD6, es, if_neg (by rw [eg, hx]; exact Bool.false_ne_true), List.append_nil]
        · rintro H6 ⟨sm, hD6⟩
          rw [Int.toNat_natCast, ← hcs] at hD6
          exact ⟨D, _, rfl, R5.ne hD, (ne_of_none hL5 hD).symm, hD6, sm _ _ hL5, R5.same sm, b5.trans (.same sm)⟩
      rintro σ H6 ⟨D, v8', rfl, hDr, hDl, hD6, hL6, R6, b6⟩
      have hpos := frees_pos La (by omega)
      have hfl := frees_le cs cs.length
      have hle : letters[i]? = some (97 + i) := by
        have : i < 26 := by omega
        have all : ∀ i : Fin 26, letters[i.1]? = some (97 + i.1) := by decide
        exact all ⟨i, this⟩
      refine ⟨_, rfl, _, rfl, S letters, (i : Int), 97 + i, rfl, rfl, (by show 26 ≤ sizeLine; decide), by rw [S_list]; exact atI_nat hle, ?_⟩
      refine ⟨_, rfl, _, rfl, _, rfl, _, rfl, D, _, rfl, .inl (SqL.of hD6), ?_⟩
      refine ⟨r, _, rfl, R6, ?_, ?_, fun H7 d hd R7 b7 => ?_⟩
      · rw [List.length_map]; omega
      · rw [List.length_map]; omega
      rw [List.length_map] at hd
      obtain ⟨p, hp⟩ : ∃ p, (frees cs cs.length)[d]? = some p := ⟨_, List.getElem?_eq_getElem (by omega)⟩
      have hcp := frees_at hp
      have hpl : p < cs.length := (List.getElem?_eq_some_iff.mp hcp).1
      have hL7 := b7 _ _ hL6 hlr
      refine ⟨D, _, _, .int (p : Nat), rfl, rfl, SqL.of (b7 _ _ hD6 hDr), atI_nat (by rw [List.getElem?_map, hp]; all_goals rfl), l, _, _, p, rfl, rfl, hL7, ?_, ?_⟩
      · rw [List.length_map]
        unfold ixN
        rw [if_pos (by omega), if_pos (by omega), Int.toNat_natCast]
      · have hs : ∃ c t, cs.map sg = sg c :: t := by
          cases cs with
          | nil => simp at hpl
          | cons c t => exact ⟨c, t.map sg, rfl⟩
        refine ⟨cs.set p (97 + i), _, _, _, rfl, La.put hcp, by rw [List.length_set]; exact hcs, ?_, R7.put hL7 hlr hs, but_put (b6.trans b7) hl0⟩
        rw [upd_same, List.map_set]
    · rintro σ H5 ⟨cs, v6, v7, v8, rfl, La, hcs, hL5, R5, b5⟩
      rw [Int.toNat_natCast] at La
      have La' := La
      have goal := lay_VG La' N26 hcs h1 h8 w1 w8
      refine ⟨_, rfl, (h : Int), rfl, by omega, by omega, fun D hD => lc_range (lo := 0) (n := ((h : Nat) : Int).toNat) (fun i H6 => Same H5 H6 ∧ H6 D = some (.lst ((List.range i).map fun j => V.str (S ((cs.drop (j * w)).take w)))))
          ⟨same_new hD, upd_same⟩ ?_ ?_⟩
      · rintro i H6 hi ⟨sm, hD6⟩
        rw [Int.toNat_natCast] at hi
        rw [Int.zero_add]
        have hiw : i * w + w ≤ h * w := by
          have : (i + 1) * w ≤ h * w := Nat.mul_le_mul_right _ hi
          rw [Nat.succ_mul] at this
          exact this
        have eiw : (i : Int) * (w : Int) = ((i * w : Nat) : Int) := by simp
        have bi : ((-(2 ^ 64) < (i : Int) ∧ (i : Int) < 2 ^ 64) ∨ (-(2 ^ 64) < (w : Int) ∧ (w : Int) < 2 ^ 64)) := .inr ⟨by omega, by omega⟩
        have ecut : cutV (cs.map sg) (some ((i : Int) * (w : Int))) (some ((i : Int) * (w : Int) + (w : Int))) = ((cs.drop (i * w)).take w).map sg := by
          rw [eiw, show ((i * w : Nat) : Int) + (w : Int) = ((i * w + w : Nat) : Int) by omega]
          unfold cutV
          rw [HT.sIx_nat, HT.sIx_nat, List.length_map, hcs, Nat.min_eq_left hiw, Nat.min_eq_left (by omega : i * w ≤ h * w), show i * w + w - i * w = w by omega, List.map_take, List.map_drop]
        refine ⟨rfl, ⟨_, rfl⟩, _, rfl, _, rfl, _, rfl, _, _, rfl, rfl, bi, _, rfl, _, rfl, _, rfl, _, _, rfl, rfl, bi, _, rfl, _, _, rfl, rfl, _, rfl, l, _, rfl, SqL.of (sm _ _ hL5), fun q hq => ?_⟩
        rw [ecut]
        have hD7 : (upd H6 q (.lst (((cs.drop (i * w)).take w).map sg))) D = some (.lst ((List.range i).map fun j => V.str (S ((cs.drop (j * w)).take w)))) := by
          rw [upd_ne (ne_of_none hD6 hq)]
          exact hD6
        refine ⟨_, q, ((cs.drop (i * w)).take w).map fun c => S [c], rfl, rfl, .inl ?_, ?_, _, hD7, ?_, ?_⟩
        · rw [List.map_map]
          exact SqL.of upd_same
        · rw [sum_ones, List.length_map, List.length_take, List.length_drop]
          show _ + _ * 0 ≤ _
          omega
        · rw [List.length_map, List.length_range]
          show _ < 16777216
          omega
        · refine ⟨same_put (sm.trans (same_new hq)) hD, ?_⟩
          rw [upd_same, join_signs, List.range_succ, List.map_append]
          rfl
      · rintro H6 ⟨sm, hD6⟩
        rw [Int.toNat_natCast] at hD6
        refine k _ D h w _ goal (fun c hc => ?_) ?_ (R5.same sm) (b5.trans (.same sm))
        · rw [show (chunk h w cs).flatten = cs by rw [chunk_flat, ← hcs, List.take_length]] at hc
          have := La'.ab c hc
          omega
        rw [hD6]
        unfold rowV chunk
        rw [List.map_map]
        rfl
theorem ok_rw {f : Addr} {fd : FuncData} (F : Fun K "_law_rows" "_law_rows" sLawRows f fd) (T : TxtW K mg) (L : TxtL K mg) (GT : FnOk P w K mg base CX0 1 fT fdT ["_law_row", "_law_many"] (spTk K a ns)) (kT : PySem.W.keepIn K (.ref fT) = true) (bT : Binds K fdT ["_law_row", "_law_many"] []) (mT : mg "_law_taken" = some (.ref fT)) :
    FnOk P w K mg base CX0 2 f fd ["_law_row", "_law_most"] (spRw K a ns) := (ok_rwN F T L GT kT bT mT).imp fun vs H Q E ⟨r, m, e, hR, hm, k⟩ => ⟨r, m, e, hR, hm, fun H' l h w g hV _ => k H' l h w g hV⟩
end
end TK
end
section
set_option Elab.async false
set_option maxRecDepth 100000
set_option linter.all false
namespace TK
open PySem L2 TM
open PySem.Spec PyProof.Rows TH
theorem op_twoN {X : Cx} {CX : CXT} {j n : Nat} {C D g : Addr} {sp : Sp} {E : XK} {op : Operator} (hCD : C ≠ D) (hc : PySem.W.selfFirst X.K C = true) (N : NoOp X.K D op.info.2) (hs : PySem.W.findIn X.K (.ref C) (PySem.dunder op.info.2) = some (some (.ref g))) (hf : PySem.W.isFn X.K (.ref g) = true)
    (F : FnRn n X.prog X.w X.K X.mg X.base CX j g sp) (hr : Room j X.A) (hx : Passes CX X E) : OpRn n X (binaryOp op) (rTwo C D sp E) := by
  intro pins s σ H x y v u Q hn I rx ry h
  obtain ⟨a, dx, fs, b, dy, gs, rfl, rfl, ha, hb, q⟩ := h
  cases (show v = Value.ref a from rx)
  cases (show u = Value.ref b from ry)
  obtain ⟨mA, O, _⟩ := ins_get I.hok ha
  obtain ⟨od, J, _⟩ := O.look
  obtain ⟨mB, O', _⟩ := ins_get I.hok hb
  obtain ⟨od', J', _⟩ := O'.look
  refine binop_two I.kIn J J'.type hCD hc N hs hf ?_
  refine wpAny_mono (wpAny_call (run_fnRn (us := [.ref a, .ref b]) (vs := [.ref a, .ref b]) hn F hr hx I (.cons rfl (.cons rfl .nil)) q)) (fun w s' z => ?_) fun _ _ x => x
  obtain ⟨z', H', I', rz, qz⟩ := z
  exact SlX.cmpback rz ⟨z', H', I', rz, qz⟩
abbrev rowD (g : Grid) : List PyData := g.map fun r => PyData.str (S r)
theorem row_all {K : PySem.W.Frag} {H : Hp} : ∀ g : Grid, DpAll K H (rowV g) (rowD g)
  | [] => .nil
  | _ :: g => .cons (.str _) (row_all g)
theorem row_depth : ∀ g : Grid, PyData.depthAll (rowD g) = 0
  | [] => rfl
  | x :: g => by
    show max (PyData.depth (.str _)) (PyData.depthAll (rowD g)) = 0
    rw [row_depth g]
    rfl
theorem row_lay : ∀ g : Grid, (∀ r ∈ g, ∀ c ∈ r, Cell c) → PyData.canLayAll0 (rowD g) = true
  | [], _ => rfl
  | x :: g, h => by
    show (PyData.canLay0 (.str (S x)) && PyData.canLayAll0 (rowD g)) = true
    rw [row_lay g fun r hr => h r (List.mem_cons_of_mem _ hr), Bool.and_true]
    show (S x).cps.all (· < 0x110000) = true
    rw [← Array.all_toList]
    refine List.all_eq_true.mpr fun c hc => ?_
    have := h x List.mem_cons_self c hc
    unfold Cell at this
    exact decide_eq_true (by omega)
theorem row_shaped {n m : Nat} {g : Grid} (G : VG n m g) : SeqAt.shaped (.tuple (rowD g)) = true := by
  show (PyData.canLayAll0 (rowD g) && decide (PyData.depthAll (rowD g) + 1 ≤ 64)) = true
  rw [row_lay g G.ok, row_depth]
  rfl
theorem row_sum (k : Nat) : ∀ g : Grid, (∀ r ∈ g, r.length ≤ k) → ((g.map S).map (·.length)).sum ≤ g.length * k
  | [], _ => by simp
  | x :: g, h => by
    have h1 := row_sum k g fun r hr => h r (List.mem_cons_of_mem _ hr)
    have h2 := h x List.mem_cons_self
    rw [List.map_cons, List.map_cons, List.sum_cons, S_len, List.length_cons, Nat.succ_mul]
    omega
end TK
end
section
set_option Elab.async false
set_option maxRecDepth 100000
set_option linter.all false
namespace TP
open PySem L2 TM TK TH
open PySem.Spec PyProof.Rows
def srt (l : List Nat) : List Nat := l.mergeSort (fun a b => decide (a ≤ b))
theorem srt_perm (l : List Nat) : (srt l).Perm l := List.mergeSort_perm _ _
theorem srt_up (l : List Nat) : (srt l).Pairwise (· ≤ ·) := by
  have := List.pairwise_mergeSort (le := fun a b : Nat => decide (a ≤ b)) (fun a b c h1 h2 => by simp at *; omega) (fun a b => by simp; omega) l
  exact this.imp fun h => by simpa using h
theorem rise : ∀ (zs : List Nat) (p : Nat), risingS (S [p]) (zs.map fun c => S [c]) = true → (p :: zs).Pairwise (· ≤ ·)
  | [], p, _ => by simp
  | x :: r, p, h => by
    have h' : (!ltCps [x] [p] && risingS (S [x]) (r.map fun c => S [c])) = true := h
    rw [Bool.and_eq_true] at h'
    have hpx : p ≤ x := by
      have := h'.1
      simp [ltCps] at this
      omega
    have ih := rise r x h'.2
    refine List.pairwise_cons.mpr ⟨fun y hy => ?_, ih⟩
    rcases List.mem_cons.mp hy with e | e
    · omega
    · have := (List.pairwise_cons.mp ih).1 y e
      omega
theorem sort_uniq {ys : List Str} {l : List Nat} (p : ys.Perm (l.map fun c => S [c])) (s : sortedS ys = true) : ys = (srt l).map fun c => S [c] := by
  obtain ⟨zs, rfl⟩ : ∃ zs : List Nat, ys = zs.map fun c => S [c] := by
    have : ∀ y ∈ ys, ∃ c, y = S [c] := fun y hy => by
      obtain ⟨c, _, rfl⟩ := List.mem_map.mp (p.mem_iff.mp hy)
      exact ⟨c, rfl⟩
    clear p s
    induction ys with
    | nil => exact ⟨[], rfl⟩
    | cons y ys ih =>
      obtain ⟨c, rfl⟩ := this y List.mem_cons_self
      obtain ⟨zs, rfl⟩ := ih fun y hy => this y (List.mem_cons_of_mem _ hy)
      exact ⟨c :: zs, rfl⟩
  have pz : zs.Perm l := by
    have := p.map fun y : Str => y.cps.getD 0 0
    have e : ((fun y : Str => y.cps.getD 0 0) ∘ fun c : Nat => S [c]) = id := funext fun c => rfl
    rw [List.map_map, List.map_map, e, List.map_id, List.map_id] at this
    exact this
  have up : zs.Pairwise (· ≤ ·) := by
    cases zs with
    | nil => exact List.Pairwise.nil
    | cons z zs => exact rise zs z s
  have : zs = srt l := List.Perm.eq_of_pairwise (le := (· ≤ ·)) (fun a b _ _ h1 h2 => by omega) up (srt_up l) (pz.trans (srt_perm l).symm)
  rw [this]
section
variable {P : Program} {w : World} {K : PySem.W.Frag} {mg : Str → Option Value} {base : Heap} {D : Addr} {t0 : Tok}
structure TxtM (K : PySem.W.Frag) (mg : Str → Option Value) : Prop where
  em : ∃ u, mg "EMPTY" = some u ∧ RelV (.str (S [46])) u
  srt : mg "sorted" = none
  len : mg "len" = none
abbrev NMb : List Str := ["self", "row", "cell"]
theorem scMb : FnScope NMb ["self"] (defScope sTrayMarbles) := ⟨rfl, rfl, rfl, by decide +kernel, rfl, by decide +kernel, by decide +kernel⟩
def spMb (K : PySem.W.Frag) (D : Addr) : Sp := fun vs H Q _ => ∃ (p : Addr) (h w : Nat) (g : Grid), vs = [.ref p] ∧ TrayAt K D H p g ∧ VG h w g ∧ ∀ H', Same H H' → Q (.str (S (srt (mb g.flatten)))) H'
theorem nodup_le : ∀ (n : Nat) (l : List Nat), l.Nodup → (∀ c ∈ l, 97 ≤ c ∧ c < 97 + n) → l.length ≤ n
  | 0, l, _, h => by
    cases l with
    | nil => exact Nat.le_refl _
    | cons c l =>
      have := h c List.mem_cons_self
      omega
  | n + 1, l, nd, h => by
    by_cases q : (97 + n) ∈ l
    · have e := List.length_erase_of_mem q
      have ih := nodup_le n (l.erase (97 + n)) (nd.erase _) fun c hc => by
        have := (List.Nodup.mem_erase_iff nd).mp hc
        have h2 := h c this.2
        have := this.1
        omega
      omega
    · have ih := nodup_le n l nd fun c hc => by
        have h2 := h c hc
        have : c ≠ 97 + n := fun z => q (by rw [← z]; exact hc)
        omega
      omega
theorem mb_26 {h w : Nat} {g : Grid} (V : VG h w g) : (mb g.flatten).length ≤ 26 := by
  have sub : ∀ c ∈ mb g.flatten, 97 ≤ c ∧ c < 123 := fun c hc => by
    have := List.mem_filter.mp hc
    obtain ⟨r, hr, hcr⟩ := List.mem_flatten.mp this.1
    have h2 := V.ok r hr c hcr
    rcases h2 with h2 | h2
    · subst h2; simp at this
    · exact ⟨by omega, by omega⟩
  exact nodup_le 26 _ V.nd sub
theorem ok_mb {f : Addr} {fd : FuncData} (F : Fun K "marbles" "Tray.marbles" sTrayMarbles f fd) (T : TxtM K mg) (CT : ClsT K mg D) : FnOk P w K mg base CX0 1 f fd ["self"] (spMb K D) := by
  refine F.ok scMb (fun vs H Q E h => ?_) (fun cdv A outer s H vs Q E hr h => ?_)
  · obtain ⟨p, h, w, g, rfl, _⟩ := h
    rfl
  · obtain ⟨p, h, w, g, rfl, ⟨dx, a, hp, hS⟩, hV, k⟩ := h
    have nd := scMb.nd
    refine ⟨_, pss_one (ps_ret (pe_join pe_str (pe_callB cr_sortedS (by rfl) T.srt (by decide +kernel) (pa_cons (pe_lc2 (own := [("row", 1), ("cell", 2)]) (vs1 := [2]) (g := gName 1) (g1 := gName 2) (tt := tYes) rfl nd (pi_tup (pe_fld (pv 0) rfl)) (blkOk_by (N := NMb) (sc := defScope sTrayMarbles) (by decide +kernel)) (by decide)
      (fun _ _ _ _ _ => pg_name (i := 1) nd rfl (.inl rfl)) (fun _ _ _ _ _ => pts_nil) (fun _ _ _ _ _ => pi_str (pv 1)) (fun _ _ _ _ _ => pg_name (i := 2) nd rfl (.inl rfl)) (fun _ _ _ _ _ => pts_one (pt_cmpR op_ne (pv 2) (C8.pe_gc rfl T.em) (nomark _))) (fun _ _ _ _ _ => pv 2)) pa_nil)))), ?_⟩
    refine ⟨⟨_, rfl⟩, _, rfl, p, D, dx, _, _, rfl, hp, CT.cl, CT.nR, rfl, a, rfl, ⟨_, hS⟩, fun E2 hE2 => lc2_it walk_tup (fun i H1 => Same H H1 ∧ H1 E2 = some (.lst ((mb (g.take i).flatten).map sg)))
      ⟨same_new hE2, upd_same⟩ (fun i H1 _ ⟨sm, _⟩ => sm.tup hS) ?_ ?_⟩
    · rintro i x Hz H1 hi ⟨sm, hL⟩ ⟨rfl, hx⟩
      obtain ⟨r, hri, rfl⟩ := at_map hx
      have et : ((g.take (i + 1)).flatten) = (g.take i).flatten ++ r := by
        rw [List.take_add_one, hri, List.flatten_append]
        simp
      refine ⟨rfl, _, rfl, S r, rfl, in_it (walk_str (z := S r)) (fun j H2 => Same H H2 ∧ H2 E2 = some (.lst ((mb (g.take i).flatten ++ mb (r.take j)).map sg))) ⟨sm, by rw [hL]; simp [mb]⟩ (fun _ _ _ _ => True.intro) ?_ ?_⟩
      · rintro j x Hz H2 hj ⟨sm2, hL2⟩ ⟨rfl, c, hc, rfl⟩
        rw [S_at] at hc
        have et2 : mb (r.take (j + 1)) = mb (r.take j) ++ if c = 46 then [] else [c] := by
          rw [List.take_add_one, hc]
          show mb (r.take j ++ [c]) = _
          rw [mb_app]
          by_cases q : c = 46
          · subst q; rfl
          · rw [if_neg q]; simp [mb, q]
        have hlen : (mb (g.take i).flatten ++ mb (r.take j)).length ≤ 1000 := by
          have h1 := mb_le (g.take i).flatten
          have h2 := mb_le (r.take j)
          have h3 : (g.take i).flatten.length ≤ g.flatten.length := by
            have : (g.take i).flatten ++ (g.drop i).flatten = g.flatten := by rw [← List.flatten_append, List.take_append_drop]
            rw [← this, List.length_append]
            omega
          have h4 : g.flatten.length = h * w := by
            rw [List.length_flatten]
            have : g.map List.length = List.replicate h w := List.eq_replicate_iff.mpr ⟨by rw [List.length_map]; exact hV.rc.1, fun x hx => by
              obtain ⟨l, hl, rfl⟩ := List.mem_map.mp hx
              exact hV.rc.2 l hl⟩
            rw [this]
            simp
          have h5 : h * w ≤ 64 := Nat.mul_le_mul hV.n8 hV.m8
          have h6 := hV.row (List.mem_of_getElem? hri)
          rw [List.length_take] at h2
          rw [List.length_append]
          omega
        refine ⟨rfl, _, rfl, rfl, _, rfl, ?_⟩
        rw [show (!decide (V.str (⟨#[c]⟩ : Str) = V.str (S [46]))) = !(c == 46) from congrArg _ (dL c 46)]
        by_cases q : c = 46
        · rw [beq_iff_eq.mpr q]
          refine iteF ⟨sm2, ?_⟩
          rw [hL2, et2, if_pos q, List.append_nil]
        · rw [beq_eq_false_iff_ne.mpr q]
          refine iteT ⟨_, rfl, _, hL2, ?_, same_put sm2 hE2, ?_⟩
          · rw [List.length_map]
            show _ < 16777216
            omega
          · rw [upd_same, et2, if_neg q, ← List.append_assoc, List.map_append (l₂ := [c])]
            rfl
      · rintro H2 ⟨sm2, hL2⟩
        rw [S_size, List.take_length] at hL2
        refine ⟨sm2, ?_⟩
        rw [hL2, et, mb_app]
    · rintro H1 ⟨sm, hL⟩
      rw [List.length_map, List.take_length] at hL
      have h26 := mb_26 hV
      refine ⟨E2, (mb g.flatten).map fun c => S [c], rfl, ?_, ?_, fun ys z pm st hz => ?_⟩
      · rw [List.map_map]
        exact SqL.of hL
      · rw [List.length_map]
        omega
      · have e := sort_uniq pm st
        subst e
        have l26 : (srt (mb g.flatten)).length ≤ 26 := by rw [(srt_perm _).length_eq]; exact h26
        refine ⟨_, z, (srt (mb g.flatten)).map fun c => S [c], rfl, rfl, .inl (SqL.of upd_same), ?_, ?_⟩
        · rw [sum_ones, List.length_map]
          show _ + _ * 0 ≤ _
          omega
        · rw [join_signs]
          exact k _ (sm.trans (same_new hz))
theorem scHt : FnScope ["self"] ["self"] (defScope sTrayHeight) := ⟨rfl, rfl, rfl, by decide +kernel, rfl, by decide +kernel, by decide +kernel⟩
theorem scWd : FnScope ["self"] ["self"] (defScope sTrayWidth) := ⟨rfl, rfl, rfl, by decide +kernel, rfl, by decide +kernel, by decide +kernel⟩
def spHt (K : PySem.W.Frag) (D : Addr) : Sp := fun vs H Q _ => ∃ (p : Addr) (h w : Nat) (g : Grid), vs = [.ref p] ∧ TrayAt K D H p g ∧ VG h w g ∧ Q (.int (h : Nat)) H
def spWd (K : PySem.W.Frag) (D : Addr) : Sp := fun vs H Q _ => ∃ (p : Addr) (h w : Nat) (g : Grid), vs = [.ref p] ∧ TrayAt K D H p g ∧ VG h w g ∧ Q (.int (w : Nat)) H
theorem row0 {h w : Nat} {g : Grid} (G : VG h w g) : ∃ r0, atI (rowV g) ((0 : Nat) : Int) = some (V.str (S r0)) ∧ r0.length = w ∧ r0 ∈ g := by
  have hg : 0 < g.length := by rw [G.rc.1]; exact G.n1
  have e : g[0]? = some g[0] := List.getElem?_eq_getElem hg
  exact ⟨g[0], atI_nat (by rw [List.getElem?_map, e]; all_goals rfl), G.rc.2 _ (List.getElem_mem hg), List.getElem_mem hg⟩
theorem ok_ht {f : Addr} {fd : FuncData} (F : Fun K "height" "Tray.height" sTrayHeight f fd) (T : TxtM K mg) (CT : ClsT K mg D) : FnOk P w K mg base CX0 1 f fd ["self"] (spHt K D) := by
  refine F.ok scHt (fun vs H Q E h => ?_) (fun cdv A outer s H vs Q E hr h => ?_)
  · obtain ⟨p, h, w, g, rfl, _⟩ := h
    rfl
  · obtain ⟨p, h, w, g, rfl, ⟨dx, a, hp, hS⟩, hV, k⟩ := h
    refine ⟨_, pss_one (ps_ret (pe_callB call_len_seq (by rfl) T.len PySem.boot_len (pa_cons (pe_fld (pv 0) rfl) pa_nil))), ?_⟩
    refine ⟨_, rfl, p, D, dx, _, _, rfl, hp, CT.cl, CT.nR, rfl, a, _, rfl, .inr hS, ?_⟩
    rw [List.length_map, hV.rc.1]
    exact k
theorem ok_wd {f : Addr} {fd : FuncData} (F : Fun K "width" "Tray.width" sTrayWidth f fd) (T : TxtM K mg) (CT : ClsT K mg D) : FnOk P w K mg base CX0 1 f fd ["self"] (spWd K D) := by
  refine F.ok scWd (fun vs H Q E h => ?_) (fun cdv A outer s H vs Q E hr h => ?_)
  · obtain ⟨p, h, w, g, rfl, _⟩ := h
    rfl
  · obtain ⟨p, h, w, g, rfl, ⟨dx, a, hp, hS⟩, hV, k⟩ := h
    obtain ⟨r0, e0, l0, m0⟩ := row0 hV
    refine ⟨_, pss_one (ps_ret (pe_callB call_len_str (by rfl) T.len PySem.boot_len (pa_cons (pe_ix ix_tup (pe_fld (pv 0) rfl) pe_int (fun _ _ => rfl)) pa_nil))), ?_⟩
    have := hV.row m0
    refine ⟨_, rfl, p, D, dx, _, _, rfl, hp, CT.cl, CT.nR, rfl, a, _, _, _, rfl, rfl, hS, e0, _, rfl, by rw [S_len]; show _ ≤ 16777216; omega, ?_⟩
    rw [S_len, l0]
    exact k
end
end TP
end
section
set_option Elab.async false
set_option maxRecDepth 100000
set_option linter.all false
namespace TX
open PySem PySem.Spec PyProof.Rows L2
section
variable {X : Cx} {pins : List (Addr × Obj)} {σ : L2.St} {H : Hp} {s : Shared} {A : Around} {E : Value → Shared → Prop}
/-- the bound ValueError.__init__ is called -/
theorem mw_call {u a C : Addr} {us : List Value} {Q : Value → Shared → Prop} (T : OexC X.K C) (I : Inv X pins σ H s) (e : H a = some (exo a C none)) (hu : s.heap.get? u = some (PySem.W.kxs_mw "ValueError.__init__" a)) (hl : us.length ≤ sizeLine)
    (h : ∀ s', Inv X pins σ H s' → Q .none s') : wpAny (model X.prog X.w) A (call (.ref u) us) Q E s := by
  obtain ⟨nm, q, N, bs, bm, sn, sub, ab, col, dd, k0, k1, k2, k3, k5, hC, hbm⟩ := T.cls
  obtain ⟨t1, ho⟩ := exo_at I.hok e
  have hC := I.kIn _ _ hC
  obtain ⟨hp, g, d, t, os⟩ := s
  refine wpAny_call (codeAny_of_tree ?_)
  show wpAny _ A.in1 (callAny (.ref u) ⟨us, []⟩) _ _ _
  simp only [callAny]
  refine wpAny_bind (wpAny_load hu ?_)
  simp only [PySem.W.kxs_mw, show (Value.type "method-wrapper" == Value.type "method" || Value.type "method-wrapper" == Value.type "builtin_function_or_method" || Value.type "method-wrapper" == Value.type "method-wrapper") = true from by decide, if_true]
  refine PySem.W.KFB.if_so (by decide) ?_
  refine wpAny_bind (PySem.W.check_bound_init F.excBase_ValueError.toExcCallFacts hC ho rfl ?_)
  refine wpAny_bind (wpAny_pure (wpAny_pure ?_))
  refine ⟨plainId_quiet F.excBase_ValueError.init.plain _, ?_⟩
  refine codeAny_builtin F.excBase_ValueError.initEntry ?_
  refine PySem.W.exc_init_tree (cls := .ref C) (t0 := t1) (dv := none) (c2 := .none) (c3 := .none) (b4 := .bool false) ho hl fun h' k hx _ => ?_
  have J := I.write (t' := t) (x := a) (e := a) (o := exo a C none) (by rw [e]; exact True.intro) (.inl rfl) k ⟨_, hx⟩ (exo_ok hx)
  have eu : upd H a (exo a C none) = H := by
    funext b
    by_cases hb : b = a
    · rw [hb, upd_same, e]
    · rw [upd_ne hb]
  rw [eu] at J
  exact h _ J
end
/-- what is written of an __init__ at f that says super().__init__(..): its class at C, its cell at cc, its code at cda -/
structure SupI (P : Program) (K : PySem.W.Frag) (C f cc cda : Addr) (fd : FuncData) (ar : Arg) : Prop where
  fn : ∃ oc od osl, K.lookup f = some ⟨oc, od, .func fd, osl⟩
  hd : (fd.params.posonlyargs ++ fd.params.args).head? = some ar
  code : ∃ ccl cdd vs ccs file tf, K.lookup cda = some ⟨ccl, cdd, .fields vs, ccs⟩ ∧ vs[2]? = some (.str file tf) ∧ ((P.main.file : Str) == file) = true
  cell : ∃ cl cld csl, K.lookup cc = some ⟨cl, cld, .cell (some (.ref C)), csl⟩
  sub : PySem.W.mroIn K C (.ref C) = some true
  sup : PySem.W.ks_superIn K C C "__init__" = some (some (.builtin "ValueError.__init__"))
  ve : PySem.W.subIn K (.ref C) (.type "ValueError") = some true
  op : PySem.W.nsIn K cStatics "thirdparty.any" = some none
  top : (P.main.scope.names.lookup ("super" : Str)).isSome = false
section
variable {X : Cx} {pins : List (Addr × Obj)} {σ : L2.St} {H : Hp} {s : Shared}
theorem super_stmt {a C f cc cda : Addr} {fd : FuncData} {ar : Arg} {arg : Expr} {body : List Stmt} {t : TA} {p0 p1 apos pos spos : Pos} {Qn : Hp → Prop} {pl : Sem Bool} (S : SupI X.prog X.K C f cc cda fd ar) (T : OexC X.K C) (hm : X.mg "super" = none)
    (hfu : X.env.func = some f) (hco : X.env.code = .ref cda) (hce : X.env.cells.lookup ("__class__" : Str) = some cc) (hks : X.env.scope.names.lookup ("super" : Str) = some .globalImplicit) (hkc : X.env.scope.names.lookup ("__class__" : Str) = some .free) (hka : X.env.scope.names.lookup ar.arg = some .local) (hN : X.N[0]? = some ar.arg)
    (hc : eval (.Call (.Attribute (.Call (.Name "super" p0) [] [] p1) "__init__" apos) [arg] [] pos) X.env = (do
      let ov ← attributeBase (.Call (.Name "super" p0) [] [] p1) "__init__" X.env (eval (.Call (.Name "super" p0) [] [] p1) X.env)
      standAt apos.atName
      let (f, first) ← holding [ov] (getMethod ov "__init__" pl)
      callWith pos f first (backTo pos (starEach [arg] X.env)) []))
    (hsw : swapsWith (.Call (.Attribute (.Call (.Name "super" p0) [] [] p1) "__init__" apos) [arg] [] pos) none spos.line X.env = pure false)
    (hi : interactive X.env = false) (I : Inv X pins σ H s) (hσ : σ[0]? = some (some (.ref a))) (e : H a = some (exo a C none)) (ha : PA X [arg] t) (hstar : starEach [arg] X.env = [(false, eval arg X.env)])
    (ht : t σ H fun vs H1 => vs.length ≤ 1000 ∧ H1 a = some (exo a C none) ∧ Qn H1) :
    PySem.wpAt (model X.prog X.w) X.A (.func body X.env) (exec (.Expr (.Call (.Attribute (.Call (.Name "super" p0) [] [] p1) "__init__" apos) [arg] [] pos) spos) X.env) (fun fl s' => fl = .next ∧ ∃ H1, Inv X pins σ H1 s' ∧ Qn H1) X.xe s := by
  obtain ⟨oc, od, osl, hf⟩ := S.fn
  obtain ⟨ccl, cdd, vs, ccs, file, tf, hcode, hvs, hfile⟩ := S.code
  obtain ⟨cl, cld, csl, hcell⟩ := S.cell
  have hsup := S.sup
  unfold PySem.W.ks_superIn at hsup
  cases hcd : PySem.W.clsIn X.K C with
  | none => rw [hcd] at hsup; cases hsup
  | some cd =>
  rw [hcd] at hsup
  obtain ⟨t1, ho⟩ := exo_at I.hok e
  obtain ⟨mb, hb1, hb2⟩ := I.ok.mod.blt
  obtain ⟨m, hns, hloc⟩ := I.loc
  obtain ⟨u0, ru, hlook⟩ := hloc 0 ar.arg (.ref a) hN hσ (.inl hka)
  obtain rfl : u0 = Value.ref a := ru
  refine ks_wpAt_Expr_any (ks_wpAt_MethodCall ?_ hc) hi hsw
  obtain ⟨hp, g, d, tk, os⟩ := s
  have hD := hcd
  unfold PySem.W.clsIn at hD
  split at hD
  · rename_i c0 d0 cd0 sl0 hCl
    cases hD
    have hCo := I.kIn _ _ hCl
    refine ks_wpAt_super_base (f := f) (cc := cda) (ar := ar) (vs := vs) (file := file) (tf := tf) (fd := fd) hks hkc (by decide) hfu (I.kIn _ _ hf) rfl S.hd hco (I.kIn _ _ hcode) rfl hvs hfile S.top ?_
    refine PySem.W.ks_loadName_global I.ok.kind hks (Calls.loadGlobal_builtin (by rw [I.ok.glob]; exact I.ok.mod.glob.keeps I.bk) hm (by rw [I.ok.blt]; exact hb1.keeps I.bk) ((hb2 "super" (by decide)).trans (by decide +kernel)) ⟨rfl, ?_⟩)
    refine wpAny_loadName_free I.ok.kind hkc hce ⟨_, I.kIn _ _ hcell, rfl⟩ ?_
    rcases hlook with ⟨_, hv⟩ | ⟨hk, _⟩
    · refine wpAny_loadName_local I.ok.kind hka hns hv ?_
      refine ks_wpAny_isType_cls hCo rfl ⟨rfl, ?_⟩
      refine ks_wpAny_call_super hCo rfl ho rfl (fun c z => nomatch z) (PySem.W.looks_mroIn I.kIn S.sub) fun h' e1 k1 => ?_
      have I1 : Inv X pins σ H ⟨h', g, d, tk, os⟩ := I.kept (t' := tk) k1
      obtain ⟨t2, ho1⟩ := exo_at I1.hok e
      have hne : a ≠ C := fun z => by
        subst z
        rw [ho] at hCo
        cases hCo
      refine PySem.W.kxs_getMethod PySem.W.kxs_ValueError e1 (PySem.W.looks_opaque I1.kIn S.op) (l₀ := _) (fun A Q E s k q => wpAny_bind ((PySem.W.looks_clsIn I1.kIn hcd) A _ E s k (wpAny_pure q))) rfl I1.kIn hsup ((show PySem.W.InstAt h' a _ C none from ⟨ho1, rfl, rfl, True.intro⟩).type.andThen (PySem.W.looks_subIn I1.kIn S.ve)) hne (by decide) ?_
      have I2 := ClX.pin_new (a := h'.objs.size) (o := PySem.W.kxs_mw "ValueError.__init__" a) (t' := tk + 1) I1 (fun _ _ z => Heap.get?_push_of_some _ z) (Nat.le_refl _) (Heap.get?_push_size h' rfl) (fun v z => nomatch z)
      have hrun := ha.run pos _ _ σ H _ I2 ht
      rw [hstar] at hrun ⊢
      refine PySem.W.kxs_callWith (i := "ValueError.__init__") (x := a) rfl (Calls.evalArgs_plain (thn hrun fun us s3 ⟨ws, H3, I3, rv, hl, e3, q⟩ => ⟨ClX.pin_at I3, ?_⟩))
      refine mw_call T I3 e3 (ClX.pin_at I3) ?_ fun s4 I4 => ⟨rfl, H3, ClX.unpin I4, q⟩
      show us.length ≤ sizeLine
      rw [← rv.length]
      exact Nat.le_trans hl (by decide)
    · have hk' : X.env.scope.names.lookup ar.arg = some .cell ∨ X.env.scope.names.lookup ar.arg = some .free := hk
      rw [hka] at hk'
      rcases hk' with z | z <;> cases z
  · cases hD
end
end TX
end
section
set_option Elab.async false
set_option maxRecDepth 100000
set_option linter.all false
namespace TX
open PySem PySem.Spec PyProof.Rows L2 NdefX
theorem super_fn {CX : CXT} {P : Program} {w : World} {K : PySem.W.Frag} {mg : Str → Option Value} {base : Heap} {k : Nat} {f C cc cda : Addr} {name qual : Str} {params : Arguments} {body rest : List Stmt} {scope : Scope} {kV doc pm ct oc : Value} {an od : Option Addr} {osl : Array (Option Value)}
    {N ps : List Str} {sp : Sp} {ar : Arg} {arg : Expr} {p0 p1 apos pos spos : Pos}
    (lk : K.lookup f = some ⟨oc, od, .func (PySem.W.fnX name qual params body scope [("__class__", cc)] .none kV doc pm an (.ref cda) ct), osl⟩) (hcd : PySem.W.codeIn K (.ref cda) qual = true) (S : NScope N ps ["__class__"] scope)
    (U : SupI P K C f cc cda (PySem.W.fnX name qual params body scope [("__class__", cc)] .none kV doc pm an (.ref cda) ct) ar) (T : OexC K C) (hm : mg "super" = none)
    (hbd : body = .Expr (.Call (.Attribute (.Call (.Name "super" p0) [] [] p1) "__init__" apos) [arg] [] pos) spos :: rest)
    (hks : scope.names.lookup ("super" : Str) = some .globalImplicit) (hka : scope.names.lookup ar.arg = some .local) (hN : N[0]? = some ar.arg) (len : ∀ vs H Q E, sp vs H Q E → vs.length = ps.length)
    (hst : ∀ env : Env, ∀ L : Addr, env = envF ⟨name, qual, params, body, scope, [("__class__", cc)], cda⟩ f L → ∃ pl : Sem Bool, eval (.Call (.Attribute (.Call (.Name "super" p0) [] [] p1) "__init__" apos) [arg] [] pos) env = (do
      let ov ← attributeBase (.Call (.Name "super" p0) [] [] p1) "__init__" env (eval (.Call (.Name "super" p0) [] [] p1) env)
      standAt apos.atName
      let (f, first) ← holding [ov] (getMethod ov "__init__" pl)
      callWith pos f first (backTo pos (starEach [arg] env)) []) ∧ swapsWith (.Call (.Attribute (.Call (.Name "super" p0) [] [] p1) "__init__" apos) [arg] [] pos) none spos.line env = pure false ∧ interactive env = false ∧ starEach [arg] env = [(false, eval arg env)])
    (hbody : ∀ (A : Around) (outer : List Env) (s : Shared) (H : Hp) (vs : List V) (Q : VK) (E : XK), sp vs H Q E → ∃ (a : Addr) (Mid : Hp → Prop) (ta : TA) (t : TS),
      PA (ncx CX P w K mg base N ⟨name, qual, params, body, scope, [("__class__", cc)], cda⟩ f A outer s H E) [arg] ta ∧ PSs (ncx CX P w K mg base N ⟨name, qual, params, body, scope, [("__class__", cc)], cda⟩ f A outer s H E) rest t ∧
      (startF N vs [some (.ref C)])[0]? = some (some (.ref a)) ∧ H a = some (exo a C none) ∧ ta (startF N vs [some (.ref C)]) H (fun vs H1 => vs.length ≤ 1000 ∧ H1 a = some (exo a C none) ∧ Mid H1) ∧
      ∀ H1, Mid H1 → t { nx := fun _ H' => Q .non H', rt := Q } (startF N vs [some (.ref C)]) H1) :
    FnOk P w K mg base CX (k + 1) f (PySem.W.fnX name qual params body scope [("__class__", cc)] .none kV doc pm an (.ref cda) ct) ps sp := by
  refine ⟨len, fun A outer s H args us vs Q E hr e0 hb r hsp => ?_⟩
  have hl := len _ _ _ _ hsp
  have KX : K.In s.heap := e0.mod.kin.keeps fun b o e => (e0.bs b o e).1
  have lim : s.heap.NoLimit := e0.mod.nolimit.keeps fun b o e => (e0.bs b o e).1
  obtain ⟨cl, cld, csl, hcell⟩ := U.cell
  have one : ∀ {y : Str} {c : Addr}, ([("__class__", cc)] : List (Str × Addr)).lookup y = some c → y = "__class__" ∧ c = cc := fun {y c} h => by
    rw [List.lookup_cons] at h
    cases e : (y == ("__class__" : Str)) with
    | true => rw [e] at h; exact ⟨eq_of_beq e, (Option.some.inj h).symm⟩
    | false => rw [e] at h; cases h
  have cells : CellsAt [("__class__", cc)] ["__class__"] [some (.ref C)] s.heap H := by
    refine ⟨rfl, fun y c h => ?_, fun x y c h1 h2 => (one h1).1.trans (one h2).1.symm, fun i y h => ?_⟩
    · obtain ⟨rfl, rfl⟩ := one h
      exact ⟨(e0.bs _ _ (e0.mod.kin _ _ hcell)).2, _, _, KX _ _ hcell, rfl⟩
    · match i, h with
      | 0, h =>
        obtain rfl : ("__class__" : Str) = y := Option.some.inj h
        exact ⟨cc, rfl, fun v e => ⟨.ref C, by cases e; rfl, _, KX _ _ hcell, rfl⟩⟩
      | i + 1, h => cases h
  obtain ⟨a, Mid, ta, t, hA, hS, h0, ea, hta, ht⟩ := hbody A outer s H vs Q E hsp
  refine ks_codeAny_call_defAt (body := body) (binds := ps.zip us) hr.depth (KX _ _ lk) rfl lim (PySem.W.codeRec_of KX hcd) rfl hb S.nocell (fun ⟨n, _⟩ hy => S.par n (List.of_mem_zip hy).1) (fun h₁ hns kp => ?_) S.co S.gen S.kind
  have I : Inv (ncx CX P w K mg base N ⟨name, qual, params, body, scope, [("__class__", cc)], cda⟩ f A outer s H E) [] (startF N vs [some (.ref C)]) H { s with heap := h₁, toks := s.toks + (ps.zip us).length } := inv_startN S hr.hd e0 hl r cells hns kp
  obtain ⟨pl, hc, hsw, hi, hstar⟩ := hst (envF ⟨name, qual, params, body, scope, [("__class__", cc)], cda⟩ f s.heap.objs.size) _ rfl
  have fin : ∀ {σ' : L2.St} {H' : Hp} {v : V} {u : Value} {s' : Shared}, Inv (ncx CX P w K mg base N ⟨name, qual, params, body, scope, [("__class__", cc)], cda⟩ f A outer s H E) [] σ' H' s' → L2.RelV v u → Q v H' → CE outer P w H s Q u s' :=
    fun {σ' H' v u s'} J rv q => ⟨v, H', J.os, J.bare, J.base, J.hok, rv, q⟩
  have first := super_stmt (X := ncx CX P w K mg base N ⟨name, qual, params, body, scope, [("__class__", cc)], cda⟩ f A outer s H E) (body := body) (Qn := Mid) U T hm rfl rfl rfl hks (S.frk _ (by simp)) hka hN hc hsw hi I h0 ea hA hstar hta
  subst hbd
  refine ks_wpAt_execs_cons (ks_wpAt_mono first (fun fl s1 ⟨e, H1, I1, q1⟩ => ?_) fun _ _ z => z)
  subst e
  refine wpAt_of_wpAny (wpAny_mono (hS.run [] s1 _ H1 _ I1 (ht H1 q1)) (fun fl s' hs => ?_) fun _ _ z => z)
  cases fl with
  | ret u =>
    obtain ⟨v, σ', H', J, rv, q⟩ := hs
    exact fin J rv q
  | next =>
    obtain ⟨σ', H', J, q⟩ := hs
    exact fin (v := V.non) (u := Value.none) J rfl q
  | brk =>
    obtain ⟨_, _, _, q⟩ := hs
    exact False.elim q
  | cont =>
    obtain ⟨_, _, _, q⟩ := hs
    exact False.elim q
end TX
end
section
set_option Elab.async false
set_option maxRecDepth 100000
set_option linter.all false
namespace TX
open PySem PySem.Spec PyProof.Rows L2 NdefX TK
section
variable {CX : CXT} {P : Program} {w : World} {K : PySem.W.Frag} {mg : Str → Option Value} {base : Heap} {f C cc cda : Addr} {kV doc pm ct oc : Value} {an od : Option Addr} {osl : Array (Option Value)} {ar : Arg}
def spUm (C : Addr) : Sp := fun vs H Q _ => ∃ (a : Addr) (v : V), vs = [.ref a, v] ∧ H a = some (exo a C none) ∧ ∀ dx, H dx = none → dx ≠ a → Q .non (upd (upd H dx (exd dx [("marble", v)])) a (exo a C (some dx)))
theorem scUm : NScope ["self", "marble", "__class__"] ["self", "marble"] ["__class__"] (defScope sUnknownMarbleInit) := nscope_by (by decide +kernel)
theorem ok_um (lk : K.lookup f = some ⟨oc, od, .func (PySem.W.fnX "__init__" "UnknownMarble.__init__" (defArgs sUnknownMarbleInit) (defBody sUnknownMarbleInit) (defScope sUnknownMarbleInit) [("__class__", cc)] .none kV doc pm an (.ref cda) ct), osl⟩) (hcd : PySem.W.codeIn K (.ref cda) "UnknownMarble.__init__" = true)
    (U : SupI P K C f cc cda (PySem.W.fnX "__init__" "UnknownMarble.__init__" (defArgs sUnknownMarbleInit) (defBody sUnknownMarbleInit) (defScope sUnknownMarbleInit) [("__class__", cc)] .none kV doc pm an (.ref cda) ct) ar) (har : ar.arg = "self") (T : OexC K C) (hm : mg "super" = none) (hno : PySem.W.findIn K (.ref C) "marble" = some none) :
    FnOk P w K mg base CX 1 f (PySem.W.fnX "__init__" "UnknownMarble.__init__" (defArgs sUnknownMarbleInit) (defBody sUnknownMarbleInit) (defScope sUnknownMarbleInit) [("__class__", cc)] .none kV doc pm an (.ref cda) ct) ["self", "marble"] (spUm C) := by
  refine super_fn (N := ["self", "marble", "__class__"]) (k := 0) lk hcd scUm U T hm rfl (by decide +kernel) (by rw [har]; decide +kernel) (by rw [har]; rfl) (fun vs H Q E h => ?_) (fun env L he => ?_) fun A outer s H vs Q E h => ?_
  · obtain ⟨a, v, rfl, _⟩ := h
    rfl
  · subst he
    exact ⟨_, rfl, rfl, rfl, rfl⟩
  · obtain ⟨a, v, rfl, e, k⟩ := h
    refine ⟨a, fun H1 => H1 = H, _, _, pa_cons pe_str pa_nil, pss_one (ps_ost (pv 0) (pv 1)), rfl, e, ?_, ?_⟩
    · exact ⟨by show 1 ≤ 1000; decide, e, rfl⟩
    · rintro H1 rfl
      exact ⟨_, rfl, _, rfl, a, C, rfl, T, hno, .inl ⟨e, k⟩⟩
end
end TX
end
section
set_option Elab.async false
set_option maxRecDepth 100000
set_option linter.all false
namespace TK
open PySem L2 TM
open TX
section
variable {P : Program} {w : World} {K : PySem.W.Frag} {mg : Str → Option Value} {base : Heap} {C fT : Addr} {fdT : FuncData}
/-- a value that is no text -/
def NoText (K : PySem.W.Frag) (H : Hp) (x : V) : Prop := ∃ ty, TyX K H x (.type ty) ∧ kitB ty "str" = some false
/-- what is written of an exception class of the program -/
structure ExcT (K : PySem.W.Frag) (mg : Str → Option Value) (x : Str) (CE fE : Addr) : Prop where
  ox : OexC K CE
  mgE : mg x = some (.ref CE)
  iE : PySem.W.findIn K (.ref CE) "__init__" = some (some (.ref fE))
  tE : PySem.W.typeIn K (.ref fE) = some (.type "function")
end
end TK
end
section
set_option Elab.async false
set_option maxRecDepth 100000
set_option linter.all false
namespace TX
open PySem PySem.Spec PyProof.Rows L2
/-- isinstance(e, c), e the exception that the suite holds, its dict at d -/
def rIsX (K : PySem.W.Frag) (cls : Value) (a : Addr) (d : Option Addr) : List V → Hp → VK → Prop := fun xs H Q => ∃ (D : Addr) (c : V) (cv : Value) (b : Bool), cls = .ref D ∧ ExcC K D ∧ xs = [.ref a, c] ∧ (∀ u, RelV c u → u = cv) ∧ (∀ dd, d = some dd → ∃ fs, H dd = some (.xd fs)) ∧ PySem.W.kitOne K (.ref D) cv = some b ∧ Q (.bl b) H
theorem call_isX {X : Cx} {a : Addr} {cls : Value} {d : Option Addr} {oe : Obj} {pn : List (Addr × Obj)} (hz : Zc cls d oe) (hf : ∃ vs, oe.data = .fields vs) : CallR (X.suite a ((a, oe) :: pn)) (.builtin "isinstance") (rIsX X.K cls a d) := by
  intro pins s σ H xs us Q I r h
  obtain ⟨D, c, cv, b, rfl, C, rfl, hcv, hdd, e, q⟩ := h
  obtain ⟨u1, u2, rfl, rx, rt⟩ := vals2 r
  obtain rfl : u1 = Value.ref a := rx
  obtain rfl := hcv _ rt
  obtain ⟨hget, _⟩ := I.pin (a, oe) (List.mem_append.mpr (.inl List.mem_cons_self))
  obtain ⟨vs, hv⟩ := hf
  obtain ⟨od, J⟩ : ∃ od, PySem.W.InstAt s.heap a oe D od := by
    cases d with
    | none => exact ⟨none, hget, hz.1, by unfold PySem.W.notCls; rw [hv] <;> rfl, by rw [hz.2]; exact True.intro⟩
    | some dd =>
      obtain ⟨fs, hx⟩ := hdd dd rfl
      have hx' : ObjOk X.prog X.w H s.heap dd (.xd fs) := I.hok dd _ hx
      obtain ⟨mA, hns, _⟩ := hx'
      obtain ⟨od, ho, _⟩ := lookIn_ns hns
      exact ⟨some od, hget, hz.1, by unfold PySem.W.notCls; rw [hv] <;> rfl, by rw [hz.2]; exact ho⟩
  have hcl : (PySem.W.clsIn X.K D).isSome = true := by
    obtain ⟨cd, hc, _⟩ := PySem.W.any_some C.hd
    rw [hc]
    rfl
  exact PySem.W.kia_one (PySem.W.kitx_exc hcl C.hg C.hk C.hs C.ha C.hn C.ht C.hm) I.kIn J e (fun z => nomatch z) fun tk => ⟨.bl b, H, I.kept (t' := tk) fun _ _ z => z, rfl, q⟩
/-- xs.count(k), xs of bools -/
def rCntB (K : PySem.W.Frag) : V → List V → Hp → VK → Prop := fun x xs H Q => ∃ (p : Addr) (bs : List Bool) (k : Bool), x = .ref p ∧ xs = [.bl k] ∧ SqL K H p (bs.map V.bl) ∧ Q (.int (bs.count k : Nat)) H
def isB (k : Bool) : Value → Bool
  | .bool b => b == k
  | _ => false
theorem isB_count {k : Bool} : ∀ {bs : List Bool} {us : List Value}, Vals (bs.map V.bl) us → us.countP (isB k) = bs.count k
  | [], us, h => by cases h; rfl
  | b :: bs, us, h => by
    cases h with
    | @cons _ u _ ur ru rr =>
      obtain rfl : u = Value.bool b := ru
      rw [List.countP_cons, isB_count rr, List.count_cons]
      rfl
theorem mt_countB {X : Cx} : MtR X "list.count" (rCntB X.K) := by
  intro pins s σ H x xs v us Q I rx rxs h
  obtain ⟨p, bs, k, rfl, rfl, hs, q⟩ := h
  cases rx
  obtain ⟨u, rfl, ru⟩ := rxs.one
  obtain rfl : u = Value.bool k := ru
  obtain ⟨its, rv, ⟨⟨cls, dd, data, sl⟩, n, ho, hc, hdn, hd⟩, hlen⟩ := I.list hs
  simp only at hc hd
  subst hc hd
  refine call_meets PySem.F.slot_list_count ⟨_, ho, rfl⟩ PySem.F.entry_list_count (PySem.F.args_list_count_2 _ _)
    (SeqAt.list_countAt p its.toArray n dd sl (.bool k) (isB k)) ⟨ho, fun y hy => ?_, ?_⟩
  · obtain ⟨i, hi⟩ := List.mem_iff_getElem?.mp (show y ∈ its by simpa using hy)
    obtain ⟨b, rb⟩ : ∃ b, y = Value.bool b := by
      have hl := rv.length
      have hb : i < bs.length := by
        have := (List.getElem?_eq_some_iff.mp hi).1
        rw [List.length_map] at hl
        omega
      obtain ⟨u, hu, ru⟩ := rv.get (i := i) (x := V.bl bs[i]) (by rw [List.getElem?_map, List.getElem?_eq_getElem hb]; all_goals rfl)
      rw [hi] at hu
      cases hu
      exact ⟨_, ru⟩
    subst rb
    exact eqAt_V (y := .bl b) (x := .bl k) rfl rfl rfl rfl
  · refine ⟨.int (bs.count k : Nat), H, I.tok _, ⟨s.toks, ?_⟩, q⟩
    show Value.int ((its.toArray.toList.countP (isB k) : Nat) : Int) s.toks = Value.int ((bs.count k : Nat) : Int) s.toks
    rw [show its.toArray.toList = its by simp, isB_count rv]
end TX
end
section
set_option Elab.async false
set_option maxRecDepth 100000
set_option linter.all false
namespace TA
open TK
open PySem PySem.Spec PyProof.Rows L2 LamX TX
abbrev NRa : List Str := ["_law_work", "e", "_law_kinds", "_law_at", "_law_word"]
theorem scRa : FnScope NRa ["_law_work"] (defScope sLawRaised) := ⟨rfl, rfl, rfl, by decide +kernel, rfl, by decide +kernel, by decide +kernel⟩
/-- the error classes by their number -/
structure TxtE (K : PySem.W.Frag) (mg : Str → Option Value) (ce : Nat → Addr) (cT : Addr) : Prop where
  g0 : mg "InvalidWord" = some (.ref (ce 0))
  g1 : mg "InvalidTray" = some (.ref (ce 1))
  g2 : mg "UnknownMarble" = some (.ref (ce 2))
  g3 : mg "InvalidPlace" = some (.ref (ce 3))
  g4 : mg "InvalidNumber" = some (.ref (ce 4))
  g5 : mg "SameMarble" = some (.ref (ce 5))
  gT : mg "TrayError" = some (.ref cT)
  isi : mg "isinstance" = none
  ve : mg "ValueError" = none
  x0 : XfC K (ce 0)
  x1 : XfC K (ce 1)
  x2 : XfC K (ce 2)
  n0 : PySem.W.findIn K (.ref (ce 0)) "index" = some none
  n1 : PySem.W.findIn K (.ref (ce 1)) "row" = some none
  n2 : PySem.W.findIn K (.ref (ce 1)) "column" = some none
  n3 : PySem.W.findIn K (.ref (ce 2)) "marble" = some none
  xc : ∀ j, j < 6 → ExcC K (ce j)
  one : ∀ j k, j < 6 → k < 6 → PySem.W.kitOne K (.ref (ce j)) (.ref (ce k)) = some (j == k)
  isv : ∀ j, j < 6 → PySem.W.kitOne K (.ref (ce j)) (.type "ValueError") = some true
  ism : ∀ j, j < 6 → PySem.W.exmOne K (.ref (ce j)) (.ref cT) = some true
/-- what the suite says of the j-th class, its fields fs -/
def told (j : Nat) (fs : List (Str × V)) : Option (List V) := match j with
  | 0 => (fs.lookup ("index" : Str)).map fun v => [.str "word", v]
  | 1 => match fs.lookup ("row" : Str), fs.lookup ("column" : Str) with
    | some v, some u => some [.str "tray", v, u]
    | _, _ => none
  | 2 => (fs.lookup ("marble" : Str)).map fun v => [.str "nomarble", v]
  | 3 => some [.str "place"]
  | 4 => some [.str "number"]
  | _ => some [.str "same"]
theorem same_new {H : Hp} {l : Addr} {o : HO} (h : H l = none) : Same H (upd H l o) := fun b o' e => by
  rw [upd_ne (ne_of_none e h)]
  exact e
abbrev six (j : Nat) : List Bool := [j == 0, j == 1, j == 2, j == 3, j == 4, j == 5]
def wordOf (j : Nat) : Str := match j with
  | 0 => "word"
  | 1 => "tray"
  | 2 => "nomarble"
  | 3 => "place"
  | 4 => "number"
  | _ => "same"
theorem six_all {p : Nat → Prop} (h0 : p 0) (h1 : p 1) (h2 : p 2) (h3 : p 3) (h4 : p 4) (h5 : p 5) : ∀ j, j < 6 → p j
  | 0, _ => h0
  | 1, _ => h1
  | 2, _ => h2
  | 3, _ => h3
  | 4, _ => h4
  | 5, _ => h5
theorem six_count : ∀ j, j < 6 → (six j).count true = 1 := six_all (by decide) (by decide) (by decide) (by decide) (by decide) (by decide)
theorem six_at : ∀ j, j < 6 → ((six j).map V.bl)[j]? = some (V.bl true) := six_all rfl rfl rfl rfl rfl rfl
theorem six_no : ∀ j, j < 6 → ∀ (m : Nat) (z : V), m < j → ((six j).map V.bl)[m]? = some z → eqV z (V.bl true) = false := fun j hj m z hm hz => by
  have : ∀ j : Fin 6, ∀ m : Fin 6, m.1 < j.1 → (six j.1)[m.1]? = some false := by decide
  have h := this ⟨j, hj⟩ ⟨m, by omega⟩ hm
  rw [List.getElem?_map, h] at hz
  cases hz
  rfl
theorem six_word : ∀ j, j < 6 → ([V.str "word", V.str "tray", V.str "nomarble", V.str "place", V.str "number", V.str "same"] : List V)[j]? = some (V.str (wordOf j)) := six_all rfl rfl rfl rfl rfl rfl
theorem six_flat (j : Nat) : ((six j).map V.bl).all flatV = true := rfl
theorem ix_listK {X : Cx} {K : PySem.W.Frag} (h : X.K = K) : IxR X (rIxL K) := by
  subst h
  exact ix_list
theorem mt_countBK {X : Cx} {K : PySem.W.Frag} (h : X.K = K) : MtR X "list.count" (rCntB K) := by
  subst h
  exact mt_countB
theorem mt_indexK {X : Cx} {K : PySem.W.Frag} (h : X.K = K) : MtR X "list.index" (rIndex K) := by
  subst h
  exact mt_index
theorem pe_bmK {X : Cx} {K : PySem.W.Frag} {o e : Expr} {es : List Expr} {to : TE} {t : TA} {name : Str} {apos cpos : Pos} {Ty id : String} {r : V → List V → Hp → VK → Prop} (h : X.K = K) (pa : PlainAttrs Ty) (slot : Slot Ty name id) (hty : typeOf (.builtin id) = pure (.type "method_descriptor")) (hm : MtR X id r) (ho : PE X o to) (ha : PA X (e :: es) t)
    (hbase : attributeBase o name X.env (eval o X.env) = eval o X.env := by rfl)
    (hfew : ((backTo cpos (starEach (e :: es) X.env)).all (fun z => !z.1) && (backToKw cpos (keywordEach [] X.env)).all (fun z => z.1.isSome) && decide ((e :: es).length + ([] : List Keyword).length + (if ([] : List Keyword).isEmpty then 0 else 1) < 30)) = true := by rfl)
    (hline : (apos.endLine == cpos.line) = true := by rfl)
    (he : starEach (e :: es) X.env = (false, eval e X.env) :: starEach es X.env := by rfl) (hpl : (backTo cpos (starEach es X.env)).any (·.1) = false := by rfl) : PE X (.Call (.Attribute o name apos) (e :: es) [] cpos) (tBM K Ty r to t) := by
  subst h
  exact pe_bm pa slot hty hm ho ha hbase hfew hline he hpl
/-- what is raised is wished for at slots of the frame's length alone -/
theorem takes_len {X : Cx} {W : WX} (t : Takes X W) : Takes X (fun c d σ H => σ.length = X.N.length → W c d σ H) := fun u s' ⟨a, B, sI, pins, σ, H, cls, d, e, I, nb, up, sky, na, os, ag, w⟩ =>
  t u s' ⟨a, B, sI, pins, σ, H, cls, d, e, I, nb, up, sky, na, os, ag, w I.len⟩
section
variable {X : Cx} {ce : Nat → Addr} {cT : Addr}
/-- None where nothing is raised; else the words of the error -/
def TRa (ce : Nat → Addr) : (XK → Hp → VK → Prop) → Hp → VK → Prop := fun tl H Q =>
  tl (fun cls d H' => ∃ (j : Nat) (fs : List (Str × V)) (xs : List V), j < 6 ∧ cls = .ref (ce j) ∧ (∀ dd, d = some dd → H' dd = some (.xd fs)) ∧ (j < 3 → d ≠ none) ∧ told j fs = some xs ∧
    ∀ H2 p, (∀ b o, H' b = some o → H2 b = some o) → H2 p = some (.tup xs) → Q (.ref p) H2) H (fun _ H' => Q .non H')
theorem raised_gives {g : Addr} {cdg : Value} {q : Str} (T : TxtE X.K X.mg ce cT) : GivesTo X NRa "_law_raised" (defScope sLawRaised) g cdg (defBody sLawRaised) "_law_work" q (TRa ce) := by
  intro f c' s H Q tl act hc h
  refine ⟨_, pss_cons (ps_try_as (X := (cxOf C8.CX0 X.prog X.w X.K X.mg X.base NRa "_law_raised" (defScope sLawRaised) g cdg X.A X.stack s H C8.E0).nox) (i := 1) (c := .ref cT)
      (tb := fun W D σ H => ∃ Ech : XK, (∀ cls d σ' H', σ'.length = 5 → Ech cls d H' → W cls d σ' H') ∧ σ[0]? = some (some (.ref f)) ∧ H c' = some (CodeO c' q) ∧ tl Ech H fun _ H1 => D.nx σ H1)
      rfl rfl scRa.nd rfl rfl ⟨rfl, by decide, .inl T.gT⟩ L2.takes0 (fun W pn xe tk _ => ?_) (fun a oe cls d pn hz hf => pss_cons (ps_set (i := 2) scRa.nd rfl (.inl rfl) (pe_lst
        (pa_cons (pe_callB (call_isX hz hf) (by rfl) T.isi (by decide +kernel) (pa_cons (pv 1) (pa_cons (pe_glob (v := .ref (ce 0)) rfl T.g0 rfl) pa_nil)))
        (pa_cons (pe_callB (call_isX hz hf) (by rfl) T.isi (by decide +kernel) (pa_cons (pv 1) (pa_cons (pe_glob (v := .ref (ce 1)) rfl T.g1 rfl) pa_nil)))
        (pa_cons (pe_callB (call_isX hz hf) (by rfl) T.isi (by decide +kernel) (pa_cons (pv 1) (pa_cons (pe_glob (v := .ref (ce 2)) rfl T.g2 rfl) pa_nil))) pa_nil)))))
      (pss_cons (ps_set (i := 2) scRa.nd rfl (.inl rfl) (pe_op op_cat (pv 2) (pe_lst
        (pa_cons (pe_callB (call_isX hz hf) (by rfl) T.isi (by decide +kernel) (pa_cons (pv 1) (pa_cons (pe_glob (v := .ref (ce 3)) rfl T.g3 rfl) pa_nil)))
        (pa_cons (pe_callB (call_isX hz hf) (by rfl) T.isi (by decide +kernel) (pa_cons (pv 1) (pa_cons (pe_glob (v := .ref (ce 4)) rfl T.g4 rfl) pa_nil)))
        (pa_cons (pe_callB (call_isX hz hf) (by rfl) T.isi (by decide +kernel) (pa_cons (pv 1) (pa_cons (pe_glob (v := .ref (ce 5)) rfl T.g5 rfl) pa_nil))) pa_nil))))))
      (pss_cons (ps_if (PW.pt (pw_or (pt_cmpR op_ne (pe_bmK (K := X.K) rfl PySem.F.plainAttrs_list PySem.F.slot_list_count PySem.F.type_list_count (mt_countBK (K := X.K) rfl) (pv 2) (pa_cons pe_bl pa_nil)) pe_int (nomark _))
          (pw_or1 (pt_not (pt_val (pe_callB (call_isX hz hf) (by rfl) T.isi (by decide +kernel) (pa_cons (pv 1) (pa_cons (pe_bltn (v := .ty "ValueError") (by rfl) T.ve (by decide +kernel) rfl) pa_nil)))))))) pss_never pss_nil)
      (pss_cons (ps_set (i := 3) scRa.nd rfl (.inl rfl) (pe_bmK (K := X.K) rfl PySem.F.plainAttrs_list PySem.F.slot_list_index PySem.F.type_list_index (mt_indexK (K := X.K) rfl) (pv 2) (pa_cons pe_bl pa_nil)))
      (pss_cons (ps_set (i := 4) scRa.nd rfl (.inl rfl) (pe_ix (ix_listK (K := X.K) rfl) (pe_lst (pa_cons pe_str (pa_cons pe_str (pa_cons pe_str (pa_cons pe_str (pa_cons pe_str (pa_cons pe_str pa_nil))))))) (pv 3) (fun _ _ => rfl)))
      (pss_cons (ps_if (pt_cmpR op_eq (pv 3) pe_int (nomark _)) (pss_one (ps_ret (pe_tup (pa_cons (pv 4) (pa_cons (pe_xf T.x0 T.n0 hz hf (pv 1)) pa_nil))))) pss_nil)
      (pss_cons (ps_if (pt_cmpR op_eq (pv 3) pe_int (nomark _)) (pss_one (ps_ret (pe_tup (pa_cons (pv 4) (pa_cons (pe_xf T.x1 T.n1 hz hf (pv 1)) (pa_cons (pe_xf T.x1 T.n2 hz hf (pv 1)) pa_nil)))))) pss_nil)
      (pss_one (ps_ret (pe_ifExp (pt_cmpR op_eq (pv 3) pe_int (nomark _)) (pe_tup (pa_cons (pv 4) (pa_cons (pe_xf T.x2 T.n3 hz hf (pv 1)) pa_nil))) (pe_tup (pa_cons (pv 4) pa_nil))))))))))))) (pss_one (ps_ret pe_non)), ?_⟩
  · refine ⟨fun pins s' σ H' D I h' => ?_⟩
    obtain ⟨Ech, hW, h1, h2, h3⟩ := h'
    exact (pss_one (ps_expr (act _ pn xe Ech _ _ (takes_len tk) fun cls d σ2 H2 q hl => hW cls d σ2 H2 hl q))).run pins s' σ H' D I ⟨h1, h2, h3⟩
  · refine ⟨_, fun cls d σ' H' hσ ⟨j, fs, xs, hj, ec, hd, hdn, ht, k⟩ => ?_, rfl, hc, h⟩
    subst ec
    refine ⟨true, T.ism j hj, fun _ a ha => ?_, fun z => nomatch z⟩
    match σ', hσ with
    | [w0, w1, w2, w3, w4], _ =>
    have cl : ∀ (H1 : Hp), Same H' H1 → ∀ dd, d = some dd → ∃ fs, H1 dd = some (.xd fs) := fun H1 sm dd e => ⟨fs, sm _ _ (hd dd e)⟩
    have one : ∀ k, k < 6 → PySem.W.kitOne X.K (.ref (ce j)) (.ref (ce k)) = some (j == k) := fun k hk => T.one j k hj hk
    have cv : ∀ k, ∀ u, RelV (.ref (ce k)) u → u = .ref (ce k) := fun k u h => h
    have sm0 := Same.refl H'
    refine ⟨_, rfl, ce j, _, _, _, rfl, T.xc j hj, rfl, cv 0, cl _ sm0, one 0 (by decide), ?_⟩
    refine ⟨_, rfl, ce j, _, _, _, rfl, T.xc j hj, rfl, cv 1, cl _ sm0, one 1 (by decide), ?_⟩
    refine ⟨_, rfl, ce j, _, _, _, rfl, T.xc j hj, rfl, cv 2, cl _ sm0, one 2 (by decide), ?_⟩
    refine ⟨by show 3 ≤ sizeLine; decide, fun l1 hl1 => ?_⟩
    have sm1 := sm0.trans (same_new (o := .lst [V.bl (j == 0), V.bl (j == 1), V.bl (j == 2)]) hl1)
    refine ⟨_, rfl, ?_⟩
    refine ⟨_, rfl, ce j, _, _, _, rfl, T.xc j hj, rfl, cv 3, cl _ sm1, one 3 (by decide), ?_⟩
    refine ⟨_, rfl, ce j, _, _, _, rfl, T.xc j hj, rfl, cv 4, cl _ sm1, one 4 (by decide), ?_⟩
    refine ⟨_, rfl, ce j, _, _, _, rfl, T.xc j hj, rfl, cv 5, cl _ sm1, one 5 (by decide), ?_⟩
    refine ⟨by show 3 ≤ sizeLine; decide, fun l2 hl2 => ?_⟩
    have hl1' : (upd (upd H' l1 (.lst [V.bl (j == 0), V.bl (j == 1), V.bl (j == 2)])) l2 (.lst [V.bl (j == 3), V.bl (j == 4), V.bl (j == 5)])) l1 = some (.lst [V.bl (j == 0), V.bl (j == 1), V.bl (j == 2)]) := by
      have e1 : (upd H' l1 (.lst [V.bl (j == 0), V.bl (j == 1), V.bl (j == 2)])) l1 = some (.lst [V.bl (j == 0), V.bl (j == 1), V.bl (j == 2)]) := upd_same
      rw [upd_ne (ne_of_none e1 hl2)]
      exact e1
    have sm2 := sm1.trans (same_new (o := .lst [V.bl (j == 3), V.bl (j == 4), V.bl (j == 5)]) hl2)
    refine ⟨l1, l2, _, _, rfl, rfl, hl1', upd_same, by show 6 ≤ sizeLine; decide, fun l3 hl3 => ?_⟩
    have sm3 := sm2.trans (same_new (o := .lst ((six j).map V.bl)) hl3)
    have hl3' : (upd (upd (upd H' l1 (.lst [V.bl (j == 0), V.bl (j == 1), V.bl (j == 2)])) l2 (.lst [V.bl (j == 3), V.bl (j == 4), V.bl (j == 5)])) l3 (.lst ((six j).map V.bl))) l3 = some (.lst ((six j).map V.bl)) := upd_same
    show tSeq _ _ _ _ (upd (upd (upd H' l1 (.lst [V.bl (j == 0), V.bl (j == 1), V.bl (j == 2)])) l2 (.lst [V.bl (j == 3), V.bl (j == 4), V.bl (j == 5)])) l3 (.lst ((six j).map V.bl)))
    generalize (upd (upd (upd H' l1 (.lst [V.bl (j == 0), V.bl (j == 1), V.bl (j == 2)])) l2 (.lst [V.bl (j == 3), V.bl (j == 4), V.bl (j == 5)])) l3 (.lst ((six j).map V.bl))) = H3 at sm3 hl3'
    refine ⟨_, rfl, .inl ⟨rfl, _, SqL.of hl3'⟩, l3, six j, true, rfl, rfl, SqL.of hl3', rfl, _, rfl, ?_⟩
    rw [six_count j hj]
    refine iteF ⟨_, rfl, ce j, _, _, _, rfl, T.xc j hj, rfl, (fun u h => h), cl _ sm3, T.isv j hj, true, rfl, iteF ?_⟩
    refine ⟨_, rfl, .inl ⟨rfl, _, SqL.of hl3'⟩, l3, _, _, j, _, rfl, rfl, SqL.of hl3', rfl, six_flat j, six_at j hj, rfl, six_no j hj, ?_⟩
    refine ⟨by show 6 ≤ sizeLine; decide, fun l4 hl4 => ?_⟩
    have sm4 := sm3.trans (same_new (o := .lst [V.str "word", V.str "tray", V.str "nomarble", V.str "place", V.str "number", V.str "same"]) hl4)
    refine ⟨_, rfl, l4, _, _, _, rfl, rfl, SqL.of upd_same, atI_nat (six_word j hj), ?_⟩
    generalize upd H3 l4 (.lst [V.str "word", V.str "tray", V.str "nomarble", V.str "place", V.str "number", V.str "same"]) = H4 at sm4
    have fin : ∀ {p : Addr}, H4 p = none → Q (.ref p) (upd H4 p (.tup xs)) := fun {p} hp => k _ p (sm4.trans (same_new hp)) upd_same
    have tail : (j = 3 ∨ j = 4 ∨ j = 5) → xs = [V.str (wordOf j)] := fun h => by
      rcases h with rfl | rfl | rfl <;> exact (Option.some.inj ht).symm
    have hcases : j = 0 ∨ j = 1 ∨ j = 2 ∨ (j = 3 ∨ j = 4 ∨ j = 5) := by omega
    rcases hcases with rfl | rfl | rfl | h3
    · obtain ⟨dd, ed⟩ : ∃ dd, d = some dd := by
        cases d with
        | none => exact absurd rfl (hdn (by decide))
        | some dd => exact ⟨dd, rfl⟩
      obtain ⟨v, hv, rfl⟩ : ∃ v, fs.lookup ("index" : Str) = some v ∧ xs = [V.str "word", v] := by
        have ht' : (fs.lookup ("index" : Str)).map (fun v => [V.str "word", v]) = some xs := ht
        cases e : fs.lookup ("index" : Str) with
        | none => rw [e] at ht'; cases ht'
        | some v => rw [e] at ht'; exact ⟨v, rfl, (Option.some.inj ht').symm⟩
      refine ⟨_, rfl, rfl, _, rfl, iteT ⟨_, rfl, _, rfl, rfl, rfl, dd, fs, v, ed, sm4 _ _ (hd dd ed), hv, by show 2 ≤ sizeLine; decide, fun p hp => fin hp⟩⟩
    · obtain ⟨dd, ed⟩ : ∃ dd, d = some dd := by
        cases d with
        | none => exact absurd rfl (hdn (by decide))
        | some dd => exact ⟨dd, rfl⟩
      obtain ⟨v, u, hv, hu, rfl⟩ : ∃ v u, fs.lookup ("row" : Str) = some v ∧ fs.lookup ("column" : Str) = some u ∧ xs = [V.str "tray", v, u] := by
        have ht' : (match fs.lookup ("row" : Str), fs.lookup ("column" : Str) with | some v, some u => some [V.str "tray", v, u] | _, _ => none) = some xs := ht
        cases e : fs.lookup ("row" : Str) with
        | none => rw [e] at ht'; cases ht'
        | some v =>
          cases e2 : fs.lookup ("column" : Str) with
          | none => rw [e, e2] at ht'; cases ht'
          | some u => rw [e, e2] at ht'; exact ⟨v, u, rfl, rfl, (Option.some.inj ht').symm⟩
      refine ⟨_, rfl, rfl, _, rfl, iteF ⟨_, rfl, rfl, _, rfl, iteT ⟨_, rfl, _, rfl, rfl, rfl, dd, fs, v, ed, sm4 _ _ (hd dd ed), hv, _, rfl, rfl, rfl, dd, fs, u, ed, sm4 _ _ (hd dd ed), hu, by show 3 ≤ sizeLine; decide, fun p hp => fin hp⟩⟩⟩
    · obtain ⟨dd, ed⟩ : ∃ dd, d = some dd := by
        cases d with
        | none => exact absurd rfl (hdn (by decide))
        | some dd => exact ⟨dd, rfl⟩
      obtain ⟨v, hv, rfl⟩ : ∃ v, fs.lookup ("marble" : Str) = some v ∧ xs = [V.str "nomarble", v] := by
        have ht' : (fs.lookup ("marble" : Str)).map (fun v => [V.str "nomarble", v]) = some xs := ht
        cases e : fs.lookup ("marble" : Str) with
        | none => rw [e] at ht'; cases ht'
        | some v => rw [e] at ht'; exact ⟨v, rfl, (Option.some.inj ht').symm⟩
      refine ⟨_, rfl, rfl, _, rfl, iteF ⟨_, rfl, rfl, _, rfl, iteF ⟨_, rfl, rfl, _, rfl, iteT ⟨_, rfl, _, rfl, rfl, rfl, dd, fs, v, ed, sm4 _ _ (hd dd ed), hv, by show 2 ≤ sizeLine; decide, fun p hp => fin hp⟩⟩⟩⟩
    · have e0 : decide (V.int (j : Int) = V.int 0) = false := decide_eq_false (by simp; omega)
      have e1 : decide (V.int (j : Int) = V.int 1) = false := decide_eq_false (by simp; omega)
      have e2 : decide (V.int (j : Int) = V.int 2) = false := decide_eq_false (by simp; omega)
      obtain rfl := tail h3
      refine ⟨_, rfl, rfl, _, rfl, ?_⟩
      rw [e0]
      refine iteF ⟨_, rfl, rfl, _, rfl, ?_⟩
      rw [e1]
      refine iteF ⟨_, rfl, rfl, _, rfl, ?_⟩
      rw [e2]
      exact iteF ⟨_, rfl, by show 1 ≤ sizeLine; decide, fun p hp => fin hp⟩
end
end TA
end
section
set_option Elab.async false
set_option maxRecDepth 100000
set_option linter.all false
namespace TA
open TK
open PySem PySem.Spec PyProof.Rows L2
structure TxtA (K : PySem.W.Frag) (mg : Str → Option Value) : Prop where
  isi : mg "isinstance" = none
  tup : mg "tuple" = none
  lst : mg "list" = none
  bool : mg "bool" = none
  len : mg "len" = none
  range : mg "range" = none
/-- a sequence at a: a list, a tuple -/
inductive Sq (K : PySem.W.Frag) (H : Hp) (a : Addr) (xs : List V) : Bool → Prop where
  | lst (h : SqL K H a xs) : Sq K H a xs false
  | tup (h : SqT K H a xs) : Sq K H a xs true
/-- two values of one shape and content, at most n deep -/
inductive Alk (K : PySem.W.Frag) (H : Hp) : Nat → V → V → Prop where
  | non {n} : Alk K H n .non .non
  | bl {n} (b : Bool) : Alk K H n (.bl b) (.bl b)
  | int {n} (i : Int) : Alk K H n (.int i) (.int i)
  | str {n} (z : Str) : Alk K H n (.str z) (.str z)
  | seq {n} {a b : Addr} {xs ys : List V} {t : Bool} (hl : xs.length ≤ 1000) (ha : Sq K H a xs t) (hb : Sq K H b ys t) (hxy : xs.length = ys.length) (all : ∀ (i : Nat) (x y : V), xs[i]? = some x → ys[i]? = some y → Alk K H n x y) : Alk K H (n + 1) (.ref a) (.ref b)
theorem Sq.same {K : PySem.W.Frag} {H H' : Hp} {a : Addr} {xs : List V} {t : Bool} (h : Sq K H a xs t) (s : Same H H') : Sq K H' a xs t := by
  cases h with
  | lst h => exact .lst (s.seq h)
  | tup h =>
    refine .tup ?_
    rcases h with (h | ⟨o, h⟩) | h
    · exact .inl (.inl (s _ _ h))
    · exact .inl (.inr ⟨o, s _ _ h⟩)
    · exact .inr h
theorem Alk.same {K : PySem.W.Frag} {H H' : Hp} (s : Same H H') : ∀ {n : Nat} {x y : V}, Alk K H n x y → Alk K H' n x y
  | _, _, _, .non => .non
  | _, _, _, .bl b => .bl b
  | _, _, _, .int i => .int i
  | _, _, _, .str z => .str z
  | _, _, _, .seq hl ha hb hxy all => .seq hl (ha.same s) (hb.same s) hxy fun i x y h1 h2 => Alk.same s (all i x y h1 h2)
/-- what isinstance says of a value that is no sequence -/
def Scal (K : PySem.W.Frag) (x : V) : Prop := ∃ (ty : String) (bb : Bool), scal x x = true ∧ (∀ H, TyX K H x (.type ty)) ∧ PySem.W.kitAny K (.type ty) [.type "tuple", .type "list"] = some false ∧ kitB ty "bool" = some bb
theorem no_seq {K : PySem.W.Frag} {ty : String} (h1 : kitB ty "tuple" = some false) (h2 : kitB ty "list" = some false) : PySem.W.kitAny K (.type ty) [.type "tuple", .type "list"] = some false :=
  kitAny_cons (kit_ty h1) (fun _ => kitAny_cons (kit_ty h2) (fun _ => rfl) fun z => nomatch z) fun z => nomatch z
theorem scal_non {K : PySem.W.Frag} : Scal K .non := ⟨"NoneType", false, rfl, fun _ => .base .non, no_seq (by decide +kernel) (by decide +kernel), by decide +kernel⟩
theorem scal_bl {K : PySem.W.Frag} (b : Bool) : Scal K (.bl b) := ⟨"bool", true, rfl, fun _ => .base (.bl b), no_seq (by decide +kernel) (by decide +kernel), by decide +kernel⟩
theorem scal_int {K : PySem.W.Frag} (i : Int) : Scal K (.int i) := ⟨"int", false, rfl, fun _ => .base (.int i), no_seq (by decide +kernel) (by decide +kernel), by decide +kernel⟩
theorem scal_str {K : PySem.W.Frag} (z : Str) : Scal K (.str z) := ⟨"str", false, rfl, fun _ => .base (.str z), no_seq (by decide +kernel) (by decide +kernel), by decide +kernel⟩
def tyN (t : Bool) : String := if t then "tuple" else "list"
theorem sq_ty {K : PySem.W.Frag} {H : Hp} {a : Addr} {xs : List V} {t : Bool} (h : Sq K H a xs t) : TyX K H (.ref a) (.type (tyN t)) := by
  cases h with
  | lst h =>
    rcases h with (h | ⟨o, h⟩) | ⟨o, its, n, h, c, _⟩
    · exact .base (.lst h)
    · exact .base (.frz h)
    · exact .kList h c
  | tup h =>
    rcases h with (h | ⟨o, h⟩) | ⟨o, its, n, h, c, _⟩
    · exact .base (.tup h)
    · exact .fTuple h
    · exact .kTuple h c
theorem seq_kit {K : PySem.W.Frag} (t : Bool) : PySem.W.kitAny K (.type (tyN t)) [.type "tuple", .type "list"] = some true := by
  cases t with
  | true => exact kitAny_cons (b := true) (kit_ty (by decide +kernel)) (fun z => nomatch z) fun _ => rfl
  | false => exact kitAny_cons (b := false) (kit_ty (by decide +kernel)) (fun _ => kitAny_cons (b := true) (kit_ty (by decide +kernel)) (fun z => nomatch z) fun _ => rfl) fun z => nomatch z
theorem tup_kit (t : Bool) : kitB (tyN t) "tuple" = some t := by
  cases t <;> decide +kernel
theorem Sq.len {K : PySem.W.Frag} {H : Hp} {a : Addr} {xs : List V} {t : Bool} (h : Sq K H a xs t) : SqL K H a xs ∨ SqT K H a xs := by
  cases h with
  | lst h => exact .inl h
  | tup h => exact .inr h
theorem Sq.ix {K : PySem.W.Frag} {H : Hp} {a : Addr} {xs : List V} {t : Bool} (h : Sq K H a xs t) {i : Nat} {v : V} {Q : VK} (e : xs[i]? = some v) (q : Q v H) : rIxL K (.ref a) (.int (i : Nat)) H Q ∨ rIxT K (.ref a) (.int (i : Nat)) H Q := by
  cases h with
  | lst h => exact .inl ⟨a, xs, i, v, rfl, rfl, h, atI_nat e, q⟩
  | tup h => exact .inr ⟨a, xs, i, v, rfl, rfl, h, atI_nat e, q⟩
theorem ix_ltK {X : Cx} {K : PySem.W.Frag} (h : X.K = K) : IxR X (fun x y H Q => rIxL K x y H Q ∨ rIxT K x y H Q) := by
  subst h
  exact ix_list.or ix_tup
section
variable {P : Program} {w : World} {K : PySem.W.Frag} {mg : Str → Option Value} {base : Heap}
abbrev NAl : List Str := ["_law_one", "_law_due", "_law_k"]
theorem scAl : FnScope NAl ["_law_one", "_law_due"] (defScope sLawAlike) := ⟨rfl, rfl, rfl, by decide +kernel, rfl, by decide +kernel, by decide +kernel⟩
def spAl (K : PySem.W.Frag) (n : Nat) : Sp := fun vs H Q _ => ∃ x y, vs = [x, y] ∧ Alk K H n x y ∧ ∀ H', Same H H' → Q (.bl true) H'
theorem ok_al {f : Addr} {fd : FuncData} (F : Fun K "_law_alike" "_law_alike" sLawAlike f fd) (T : TxtA K mg) (b : Binds K fd ["_law_one", "_law_due"] []) (mf : mg "_law_alike" = some (.ref f)) : ∀ n, FnOk P w K mg base CX0 (n + 1) f fd ["_law_one", "_law_due"] (spAl K n)
  | 0 => by
    refine F.ok scAl (fun vs H Q E h => ?_) (fun cdv A outer s H vs Q E hr h => ?_)
    · obtain ⟨x, y, rfl, _⟩ := h
      rfl
    · obtain ⟨x, y, rfl, al, k⟩ := h
      have nd := scAl.nd
      refine ⟨_, pss_cons (ps_if (PW.pt (pw_and (pt_val (pe_callB call_isiT (by rfl) T.isi (by decide +kernel) (pa_cons (pv 0) (pa_cons (pe_tup (pa_cons (pe_bltn (v := .ty "tuple") (by rfl) T.tup (by decide +kernel) rfl) (pa_cons (pe_bltn (v := .ty "list") (by rfl) T.lst (by decide +kernel) rfl) pa_nil))) pa_nil)))) (pw_and1 (pt_val (pe_callB call_isiT (by rfl) T.isi (by decide +kernel) (pa_cons (pv 1) (pa_cons (pe_tup (pa_cons (pe_bltn (v := .ty "tuple") (by rfl) T.tup (by decide +kernel) rfl) (pa_cons (pe_bltn (v := .ty "list") (by rfl) T.lst (by decide +kernel) rfl) pa_nil))) pa_nil))))))) pss_never pss_nil)
        (pss_one (ps_ret (pe_and (pe_cmpR op_eq (pv 0) (pv 1) (nomark _)) (pe_one (pe_cmpR op_eq (pe_callB call_isi (by rfl) T.isi (by decide +kernel) (pa_cons (pv 0) (pa_cons (pe_bltn (v := .ty "bool") (by rfl) T.bool (by decide +kernel) rfl) pa_nil))) (pe_callB call_isi (by rfl) T.isi (by decide +kernel) (pa_cons (pv 1) (pa_cons (pe_bltn (v := .ty "bool") (by rfl) T.bool (by decide +kernel) rfl) pa_nil))) (nomark _)))))), ?_⟩
      have sc : y = x ∧ Scal K x := by
        cases al with
        | non => exact ⟨rfl, scal_non⟩
        | bl b => exact ⟨rfl, scal_bl b⟩
        | int i => exact ⟨rfl, scal_int i⟩
        | str z => exact ⟨rfl, scal_str z⟩
      obtain ⟨rfl, sc⟩ := sc
      obtain ⟨ty, bb, e1, e2, e3, e4⟩ := sc
      refine ⟨_, rfl, by show 2 ≤ sizeLine; decide, fun tp htp => ⟨_, tp, _, .type ty, _, false, rfl, upd_same, .cons (.ty _) (.cons (.ty _) .nil), e2 _, e3, false, rfl, iteF (iteF ?_)⟩⟩
      have sm := same_new (o := .tup [V.ty "tuple", V.ty "list"]) htp
      refine ⟨_, rfl, _, rfl, e1, true, congrArg V.bl (decide_eq_true rfl), iteT ?_⟩
      refine ⟨_, rfl, _, _, _, _, bb, rfl, .ty _, e2 _, kit_ty e4, _, rfl, _, _, _, _, bb, rfl, .ty _, e2 _, kit_ty e4, rfl, ?_⟩
      rw [decide_eq_true rfl]
      exact k _ sm
  | n + 1 => by
    have G := ok_al F T b mf n
    refine F.ok scAl (fun vs H Q E h => ?_) (fun cdv A outer s H vs Q E hr h => ?_)
    · obtain ⟨x, y, rfl, _⟩ := h
      rfl
    · obtain ⟨x, y, rfl, al, k⟩ := h
      have nd := scAl.nd
      refine ⟨_, pss_cons (ps_if (PW.pt (pw_and (pt_val (pe_callB call_isiT (by rfl) T.isi (by decide +kernel) (pa_cons (pv 0) (pa_cons (pe_tup (pa_cons (pe_bltn (v := .ty "tuple") (by rfl) T.tup (by decide +kernel) rfl) (pa_cons (pe_bltn (v := .ty "list") (by rfl) T.lst (by decide +kernel) rfl) pa_nil))) pa_nil))))
            (pw_and1 (pt_val (pe_callB call_isiT (by rfl) T.isi (by decide +kernel) (pa_cons (pv 1) (pa_cons (pe_tup (pa_cons (pe_bltn (v := .ty "tuple") (by rfl) T.tup (by decide +kernel) rfl) (pa_cons (pe_bltn (v := .ty "list") (by rfl) T.lst (by decide +kernel) rfl) pa_nil))) pa_nil)))))))
          (pss_cons (ps_if (PW.pt (pw_or (pt_cmpR op_ne (pe_callB call_isi (by rfl) T.isi (by decide +kernel) (pa_cons (pv 0) (pa_cons (pe_bltn (v := .ty "tuple") (by rfl) T.tup (by decide +kernel) rfl) pa_nil))) (pe_callB call_isi (by rfl) T.isi (by decide +kernel) (pa_cons (pv 1) (pa_cons (pe_bltn (v := .ty "tuple") (by rfl) T.tup (by decide +kernel) rfl) pa_nil))) (nomark _))
              (pw_or1 (pt_cmpR op_ne (pe_callB call_len_seq (by rfl) T.len PySem.boot_len (pa_cons (pv 0) pa_nil)) (pe_callB call_len_seq (by rfl) T.len PySem.boot_len (pa_cons (pv 1) pa_nil)) (nomark _))))) pss_never pss_nil)
          (pss_one (ps_ret (pe_cmpR (op_eqD hr.units) (pe_lc (own := [("_law_k", 2)]) (g := gName 2) rfl nd (pi_range1 (by rfl) T.range (pa_cons (pe_callB call_len_seq (by rfl) T.len PySem.boot_len (pa_cons (pv 0) pa_nil)) pa_nil)) (blkOk_by (N := NAl) (sc := defScope sLawAlike) (by decide +kernel)) (fun _ _ _ _ _ => pg_name (i := 2) nd rfl (.inl rfl))
            (fun _ _ _ _ _ => pts_one (pt_not (pt_val (pe_call G hr rfl mf F.kp b .nil pass0 (pa_cons (pe_ix (ix_ltK (K := K) rfl) (pv 0) (pv 2) (fun _ _ => rfl)) (pa_cons (pe_ix (ix_ltK (K := K) rfl) (pv 1) (pv 2) (fun _ _ => rfl)) pa_nil)))))) (fun _ _ _ _ _ => pv 2)) (pe_lst pa_nil) (nomark _))))) pss_nil)
        (pss_one (ps_ret (pe_and (pe_cmpR op_eq (pv 0) (pv 1) (nomark _)) (pe_one (pe_cmpR op_eq (pe_callB call_isi (by rfl) T.isi (by decide +kernel) (pa_cons (pv 0) (pa_cons (pe_bltn (v := .ty "bool") (by rfl) T.bool (by decide +kernel) rfl) pa_nil))) (pe_callB call_isi (by rfl) T.isi (by decide +kernel) (pa_cons (pv 1) (pa_cons (pe_bltn (v := .ty "bool") (by rfl) T.bool (by decide +kernel) rfl) pa_nil))) (nomark _)))))), ?_⟩
      by_cases hsc : y = x ∧ Scal K x
      · obtain ⟨rfl, sc⟩ := hsc
        obtain ⟨ty, bb, e1, e2, e3, e4⟩ := sc
        refine ⟨_, rfl, by show 2 ≤ sizeLine; decide, fun tp htp => ⟨_, tp, _, .type ty, _, false, rfl, upd_same, .cons (.ty _) (.cons (.ty _) .nil), e2 _, e3, false, rfl, iteF (iteF ?_)⟩⟩
        have sm := same_new (o := .tup [V.ty "tuple", V.ty "list"]) htp
        refine ⟨_, rfl, _, rfl, e1, true, congrArg V.bl (decide_eq_true rfl), iteT ?_⟩
        refine ⟨_, rfl, _, _, _, _, bb, rfl, .ty _, e2 _, kit_ty e4, _, rfl, _, _, _, _, bb, rfl, .ty _, e2 _, kit_ty e4, rfl, ?_⟩
        rw [decide_eq_true rfl]
        exact k _ sm
      · cases al with
        | non => exact absurd ⟨rfl, scal_non⟩ hsc
        | bl b => exact absurd ⟨rfl, scal_bl b⟩ hsc
        | int i => exact absurd ⟨rfl, scal_int i⟩ hsc
        | str z => exact absurd ⟨rfl, scal_str z⟩ hsc
        | @seq _ a b' xs ys t hl ha hb hxy all =>
          have kT : PySem.W.kitAny K (.type (tyN t)) [.type "tuple", .type "list"] = some true := seq_kit t
          refine ⟨_, rfl, by show 2 ≤ sizeLine; decide, fun tp htp => ⟨_, tp, _, .type (tyN t), _, true, rfl, upd_same, .cons (.ty _) (.cons (.ty _) .nil), sq_ty (ha.same (same_new htp)), kT, true, rfl, iteT ?_⟩⟩
          have s1 := same_new (o := .tup [V.ty "tuple", V.ty "list"]) htp
          refine ⟨_, rfl, by show 2 ≤ sizeLine; decide, fun tq htq => ⟨_, tq, _, .type (tyN t), _, true, rfl, upd_same, .cons (.ty _) (.cons (.ty _) .nil), sq_ty (hb.same (s1.trans (same_new htq))), kT, true, rfl, iteT ?_⟩⟩
          have s2 := s1.trans (same_new (o := .tup [V.ty "tuple", V.ty "list"]) htq)
          generalize upd (upd H tp (.tup [V.ty "tuple", V.ty "list"])) tq (.tup [V.ty "tuple", V.ty "list"]) = H2 at s2
          refine ⟨_, rfl, _, _, _, _, t, rfl, .ty _, sq_ty (ha.same s2), kit_ty (tup_kit t), _, rfl, _, _, _, _, t, rfl, .ty _, sq_ty (hb.same s2), kit_ty (tup_kit t), rfl, _, rfl, ?_⟩
          rw [show (!decide (V.bl t = V.bl t)) = false by simp]
          refine iteF ⟨_, rfl, a, xs, rfl, (ha.same s2).len, _, rfl, b', ys, rfl, (hb.same s2).len, rfl, _, rfl, ?_⟩
          rw [show (!decide (V.int (xs.length : Int) = V.int (ys.length : Int))) = false by simp [hxy]]
          refine iteF ⟨_, rfl, a, xs, rfl, (ha.same s2).len, (xs.length : Int), rfl, by omega, by omega, fun D hD => lc_range (lo := 0) (n := ((xs.length : Nat) : Int).toNat) (fun i H3 => Same H2 H3 ∧ H3 D = some (.lst [])) ⟨same_new hD, upd_same⟩ ?_ ?_⟩
          · rintro i H3 hi ⟨s3, hD3⟩
            rw [Int.toNat_natCast] at hi
            rw [Int.zero_add]
            obtain ⟨v, hv⟩ : ∃ v, xs[i]? = some v := ⟨_, List.getElem?_eq_getElem hi⟩
            obtain ⟨u, hu⟩ : ∃ u, ys[i]? = some u := ⟨_, List.getElem?_eq_getElem (by omega)⟩
            have s23 := s2.trans s3
            refine ⟨rfl, _, rfl, _, rfl, (ha.same s23).ix hv ⟨_, rfl, _, rfl, (hb.same s23).ix hu ⟨v, u, rfl, (all i v u hv hu).same s23, fun H4 s4 => ⟨true, rfl, ?_⟩⟩⟩⟩
            exact iteF ⟨s3.trans s4, s4 _ _ hD3⟩
          · rintro H3 ⟨s3, hD3⟩
            refine ⟨by show 0 ≤ sizeLine; decide, fun p hp => ?_⟩
            refine ⟨_, _, .lst (SqL.of (by rw [upd_ne (ne_of_none hD3 hp)]; exact hD3)) .nil, .lst (SqL.of upd_same) .nil, rfl, rfl, ?_⟩
            exact k _ ((s2.trans s3).trans (same_new hp))
end
end TA
end
section
set_option Elab.async false
set_option maxRecDepth 100000
set_option maxHeartbeats 4000000
set_option linter.all false
namespace TB
open PySem PySem.Spec PyProof.Rows L2
section
variable {X : Cx} {CX : CXT} {n : Nat} {C g : Addr} {sp : Sp} {E : XK}
/-- a op y, y an instance of the class at C or a value of the built-in type T -/
def rCmpOwn (K : PySem.W.Frag) (C : Addr) (sp : Sp) (E : XK) : R2 := fun x y H Q => ∃ a dx fs, x = .ref a ∧ H a = some (.ins C dx fs) ∧
  ((∃ b dy gs, y = .ref b ∧ H b = some (.ins C dy gs)) ∨ ∃ T, (∀ u, RelV y u → typeOf u = pure (.type T)) ∧ PySem.W.notFirst K C (.type T) = true) ∧ sp [x, y] H Q E
theorem op_cmpOwn {op : CmpOp} (hop : ∀ a b, compareOp op a b = richCompare op a b) (hs : PySem.W.findIn X.K (.ref C) (cmpInfo op).2.1 = some (some (.ref g))) (hf : PySem.W.isFn X.K (.ref g) = true) (F : FnR X.prog X.w X.K X.mg X.base CX n g sp)
    (hr : Room n X.A) (hx : Passes CX X E) : OpR X (compareOp op) (rCmpOwn X.K C sp E) := by
  intro pins s σ H x y v u Q I rx ry h
  obtain ⟨a, dx, fs, rfl, ha, hy, q⟩ := h
  cases (show v = Value.ref a from rx)
  obtain ⟨mA, O, _⟩ := ins_get I.hok ha
  obtain ⟨od, J, _⟩ := O.look
  obtain ⟨m, hF⟩ := I.fr
  obtain ⟨tb, hb, hn⟩ : ∃ tb, PySem.W.Looks (model X.prog X.w) s.heap (typeOf u) tb ∧ PySem.W.notFirst X.K C tb = true := by
    rcases hy with ⟨b, dy, gs, rfl, hb⟩ | ⟨T, ht, hn⟩
    · cases (show u = Value.ref b from ry)
      obtain ⟨mB, O', _⟩ := ins_get I.hok hb
      obtain ⟨od', J', _⟩ := O'.look
      exact ⟨.ref C, J'.type, by simp [PySem.W.notFirst]⟩
    · exact ⟨.type T, PySem.W.Looks.of_pure (ht _ ry), hn⟩
  rw [hop]
  refine PySem.W.cmp_K (op := op) (tb := tb) hr.units0 hF I.ok.mod.kin J hb hn hs hf ?_
  refine wpAny_mono (wpAny_call (run_fnR (us := [.ref a, u]) (vs := [.ref a, y]) F hr hx I (.cons rfl (.cons ry .nil)) q)) (fun w s' z => ?_) fun _ _ x => x
  obtain ⟨z', H', I', rz, qz⟩ := z
  exact SlX.cmpback rz ⟨z', H', I', rz, qz⟩
end
end TB
end
namespace TB
end TB
namespace TA
end TA
section
set_option Elab.async false
set_option maxRecDepth 100000
set_option linter.all false
namespace TA
open TK
open PySem PySem.Spec PyProof.Rows L2 LamX TX TK TM TB
def isN : V → Int → Bool
  | .int i, l => decide (0 ≤ i) && decide (i ≤ l)
  | _, _ => false
/-- what isinstance says of a value -/
structure Kn (K : PySem.W.Frag) (H : Hp) (x : V) (ty : String) (bb bi : Bool) : Prop where
  t : TyX K H x (.type ty)
  b : kitB ty "bool" = some bb
  i : kitB ty "int" = some bi
  yes : bb = false → bi = true → ∃ i, x = .int i
  no : bb = true ∨ bi = false → ∀ i, x ≠ .int i
theorem kn_int {K : PySem.W.Frag} {H : Hp} (i : Int) : Kn K H (.int i) "int" false true := ⟨.base (.int i), by decide +kernel, by decide +kernel, fun _ _ => ⟨i, rfl⟩, fun h => by rcases h with h | h <;> cases h⟩
structure TxtN (K : PySem.W.Frag) (mg : Str → Option Value) : Prop where
  isi : mg "isinstance" = none
  bool : mg "bool" = none
  int : mg "int" = none
section
variable {P : Program} {w : World} {K : PySem.W.Frag} {mg : Str → Option Value} {base : Heap} {C fT : Addr} {fdT : FuncData}
theorem scNu : FnScope ["value", "limit"] ["value", "limit"] (defScope sIsNumber) := ⟨rfl, rfl, rfl, by decide +kernel, rfl, by decide +kernel, by decide +kernel⟩
def spNum (K : PySem.W.Frag) : Sp := fun vs H Q _ => ∃ (x : V) (l : Int) (ty : String) (bb bi : Bool), vs = [x, .int l] ∧ Kn K H x ty bb bi ∧ Q (.bl (isN x l)) H
theorem ok_num {f : Addr} {fd : FuncData} (F : Fun K "is_number" "is_number" sIsNumber f fd) (T : TxtN K mg) : FnOk P w K mg base CX0 1 f fd ["value", "limit"] (spNum K) := by
  refine F.ok scNu (fun vs H Q E h => ?_) (fun cdv A outer s H vs Q E hr h => ?_)
  · obtain ⟨x, l, ty, bb, bi, rfl, _⟩ := h
    rfl
  · obtain ⟨x, l, ty, bb, bi, rfl, N, k⟩ := h
    refine ⟨_, pss_cons (ps_if (PW.pt (pw_or (pt_val (pe_callB call_isi (by rfl) T.isi (by decide +kernel) (pa_cons (pv 0) (pa_cons (pe_bltn (v := .ty "bool") (by rfl) T.bool (by decide +kernel) rfl) pa_nil))))
        (pw_or1 (pt_not (pt_val (pe_callB call_isi (by rfl) T.isi (by decide +kernel) (pa_cons (pv 0) (pa_cons (pe_bltn (v := .ty "int") (by rfl) T.int (by decide +kernel) rfl) pa_nil)))))))) (pss_one (ps_ret pe_bl)) pss_nil)
      (pss_one (ps_ret (pe_chain op_le op_le pe_int (pv 0) (pv 1)))), ?_⟩
    refine ⟨_, rfl, _, _, _, _, bb, rfl, .ty _, N.t, kit_ty N.b, bb, rfl, ?_⟩
    cases bb with
    | true =>
      refine iteT ?_
      have e : isN x l = false := by
        have h := N.no (.inl rfl)
        cases x with
        | int i => exact absurd rfl (h i)
        | _ => rfl
      rw [e] at k
      exact k
    | false =>
      refine iteF ⟨_, rfl, _, _, _, _, bi, rfl, .ty _, N.t, kit_ty N.i, bi, rfl, ?_⟩
      cases bi with
      | false =>
        refine iteT ?_
        have e : isN x l = false := by
          have h := N.no (.inr rfl)
          cases x with
          | int i => exact absurd rfl (h i)
          | _ => rfl
        rw [e] at k
        exact k
      | true =>
        obtain ⟨i, rfl⟩ := N.yes rfl rfl
        refine iteF ?_
        refine ⟨_, rfl, _, _, rfl, rfl, _, rfl, ?_⟩
        by_cases h0 : (0 : Int) ≤ i
        · rw [decide_eq_true h0]
          refine iteT ⟨_, rfl, _, _, rfl, rfl, ?_⟩
          have e : isN (.int i) l = decide (i ≤ l) := by
            show (decide (0 ≤ i) && decide (i ≤ l)) = _
            rw [decide_eq_true h0, Bool.true_and]
          rw [e] at k
          exact k
        · rw [decide_eq_false h0]
          refine iteF ?_
          have e : isN (.int i) l = false := by
            show (decide (0 ≤ i) && decide (i ≤ l)) = _
            rw [decide_eq_false h0, Bool.false_and]
          rw [e] at k
          exact k
end
end TA
end
section
set_option Elab.async false
set_option maxRecDepth 100000
set_option linter.all false
namespace TP
open PySem L2 TM TK TH TB TX
open PySem.Spec PyProof.Rows
def rNotOwn (C : Addr) (sp : Sp) (E : XK) : R2 := fun y x H Q => ∃ a dx fs, x = .ref a ∧ H a = some (.ins C dx fs) ∧ sp [.ref a, y] H (fun z H' => ∃ c, z = .bl c ∧ Q (.bl (!c)) H') E
theorem one_of {u : List Nat} (h : u.length = 1) : ∃ c, u = [c] := by
  match u, h with
  | [c], _ => exact ⟨c, rfl⟩
theorem op_notOwn {X : Cx} {CX : CXT} {n : Nat} {C g : Addr} {sp : Sp} {E : XK} (hs : PySem.W.findIn X.K (.ref C) "__contains__" = some (some (.ref g))) (hf : PySem.W.isFn X.K (.ref g) = true) (F : FnR X.prog X.w X.K X.mg X.base CX n g sp) (hr : Room n X.A) (hx : Passes CX X E) : OpR X (compareOp .NotIn) (rNotOwn C sp E) := by
  intro pins s σ H y x u v Q I ry rx h
  obtain ⟨a, dx, fs, rfl, ha, q⟩ := h
  cases (show v = Value.ref a from rx)
  obtain ⟨mA, O, _⟩ := ins_get I.hok ha
  obtain ⟨od, J, _⟩ := O.look
  obtain ⟨m, hF⟩ := I.fr
  refine PySem.W.notIn_K hF I.ok.mod.kin J hs hf (wpAny_mono (wpAny_call (SlX.run_at (us := [.ref a, u]) (ws := [.ref a, y]) F hr I.env0 hx I (.cons rfl (.cons ry .nil)) q)) (fun w s' z => ?_) fun _ _ x => x)
  obtain ⟨z', H', I', rz, b, rfl, qz⟩ := z
  obtain rfl : w = Value.bool b := rz
  exact wpAny_truthy_bool ⟨.bl (!b), H', I', rfl, qz⟩
theorem occ_at {t : List Nat} {c : Nat} (h : c ∈ t) : ∃ i rest, Builtin.Str.occurrences (S t) (S [c]) 0 (S t).length 1 = i :: rest ∧ t[i]? = some c := by
  have h1 := StrLaws.found_one (S t) c
  rw [S_list] at h1
  change (!(Builtin.Str.occurrences (S t) (S [c]) 0 (S t).length 1).isEmpty) = _ at h1
  rw [decide_eq_true h] at h1
  obtain ⟨f, hc⟩ := StrLaws.occ_chain (S t) (S [c]) 1
  cases e : Builtin.Str.occurrences (S t) (S [c]) 0 (S t).length 1 with
  | nil =>
    rw [e] at h1
    cases h1
  | cons i rest =>
    rw [e] at hc
    obtain ⟨_, ⟨h2, h3⟩, _⟩ := hc
    refine ⟨i, rest, rfl, ?_⟩
    rw [S_len, S_len] at h2
    have hi : i < t.length := by
      have : i + 1 ≤ t.length := h2
      omega
    have h4 := beq_iff_eq.mp h3
    have h5 := congrArg (fun a : Array Nat => a[0]?) h4
    simp only [Array.getElem?_extract] at h5
    rw [List.getElem?_eq_getElem hi]
    simp [S] at h5
    rw [← h5.2, List.getElem?_eq_getElem hi]
section
variable {P : Program} {w : World} {K : PySem.W.Frag} {mg : Str → Option Value} {base : Heap} {D CU fU pM gM pW gW fC : Addr} {fdM fdW fdU : FuncData}
theorem scTc : FnScope ["self", "x"] ["self", "x"] (defScope sTrayContains) := ⟨rfl, rfl, rfl, by decide +kernel, rfl, by decide +kernel, by decide +kernel⟩
def has (g : Grid) (u : List Nat) : Bool := decide (u.length = 1) && decide (u.getD 0 0 ∈ mb g.flatten)
def spTc (K : PySem.W.Frag) (D : Addr) : Sp := fun vs H Q _ => ∃ (p : Addr) (x : V) (h w : Nat) (g : Grid), vs = [.ref p, x] ∧ TrayAt K D H p g ∧ VG h w g ∧
  ((∃ u : List Nat, x = .str (S u) ∧ u.length ≤ 1000 ∧ ∀ H', Same H H' → Q (.bl (has g u)) H') ∨ (NoText K H x ∧ ∀ H', Same H H' → Q (.bl false) H'))
theorem ok_tc {f : Addr} {fd : FuncData} (F : Fun K "__contains__" "Tray.__contains__" sTrayContains f fd) (T : TxtW K mg) (CT : ClsT K mg D) (PM : PropOf K D "marbles" pM gM) (GM : FnOk P w K mg base CX0 1 gM fdM ["self"] (spMb K D)) (bM : Binds K fdM ["self"] []) :
    FnOk P w K mg base CX0 3 f fd ["self", "x"] (spTc K D) := by
  refine F.ok scTc (fun vs H Q E h => ?_) (fun cdv A outer s H vs Q E hr h => ?_)
  · obtain ⟨p, x, h, w, g, rfl, _⟩ := h
    rfl
  · obtain ⟨p, x, h, w, g, rfl, T0, hV, hx⟩ := h
    obtain ⟨dx, a, hp, hS⟩ := id T0
    refine ⟨_, pss_one (ps_ret (pe_and (pe_callB call_isi (by rfl) T.isi (by decide +kernel) (pa_cons (pv 1) (pa_cons (pe_bltn (v := .ty "str") (by rfl) T.str (by decide +kernel) rfl) pa_nil)))
      (pe_and (pe_cmpR op_eq (pe_callB call_len_str (by rfl) T.len PySem.boot_len (pa_cons (pv 1) pa_nil)) pe_int (nomark _))
        (pe_one (pe_cmpR op_in_sign (pv 1) (pe_prop (pv 0) CT.cl PM GM (hr.mono (by decide)) bM .nil pass0 rfl) (by rfl)))))), ?_⟩
    rcases hx with ⟨u, rfl, hl, k⟩ | ⟨⟨ty, hty, hk⟩, k⟩
    · refine ⟨_, rfl, _, _, _, _, true, rfl, .ty _, .base (.str _), kit_ty (by decide +kernel), true, rfl, iteT ?_⟩
      have hs : (S u).length ≤ sizeLine := by
        rw [S_len]
        show _ ≤ 16777216
        omega
      refine ⟨_, rfl, _, rfl, hs, rfl, _, rfl, ?_⟩
      by_cases h1 : u.length = 1
      · obtain ⟨c, rfl⟩ := one_of h1
        have e : decide (V.int ((S [c]).length : Nat) = V.int 1) = true := decide_eq_true (by rw [S_len]; rfl)
        rw [e]
        refine iteT ⟨_, rfl, _, rfl, p, dx, _, rfl, hp, p, h, w, g, rfl, T0, hV, fun H1 sm => ?_⟩
        refine ⟨c, _, rfl, rfl, ?_⟩
        rw [S_list]
        have k1 := k H1 sm
        have e2 : has g [c] = decide (c ∈ mb g.flatten) := rfl
        rw [e2] at k1
        rw [show decide (c ∈ srt (mb g.flatten)) = decide (c ∈ mb g.flatten) from decide_eq_decide.mpr (srt_perm _).mem_iff]
        exact k1
      · have e : decide (V.int ((S u).length : Nat) = V.int 1) = false := decide_eq_false (by
          rw [S_len]
          intro z
          injection z with z
          omega)
        rw [e]
        refine iteF ?_
        have k1 := k H (Same.refl H)
        unfold has at k1
        rw [decide_eq_false h1, Bool.false_and] at k1
        exact k1
    · exact ⟨_, rfl, _, _, _, _, false, rfl, .ty _, hty, kit_ty hk, false, rfl, iteF (k _ (Same.refl H))⟩
theorem scCl : FnScope ["self", "marble", "cells"] ["self", "marble"] (defScope sTrayCall) := ⟨rfl, rfl, rfl, by decide +kernel, rfl, by decide +kernel, by decide +kernel⟩
def spCl (K : PySem.W.Frag) (D CU : Addr) : Sp := fun vs H Q E => ∃ (p : Addr) (x : V) (h w : Nat) (g : Grid), vs = [.ref p, x] ∧ TrayAt K D H p g ∧ VG h w g ∧
  ((∃ c k : Nat, x = sg c ∧ c ≠ 46 ∧ g.flatten[k]? = some c ∧ ∀ H' q, Same H H' → H q = none → H' q = some (.tup [.int ((k : Int) / w), .int ((k : Int) % w)]) → Q (.ref q) H') ∨
    (((∃ u : List Nat, x = .str (S u) ∧ u.length ≤ 1000 ∧ has g u = false) ∨ NoText K H x) ∧ ∀ H' d, Same H H' → H d = none → H' d = some (.xd [("marble", x)]) → E (.ref CU) (some d) H'))
theorem mb_uniq {l : List Nat} (nd : (mb l).Nodup) {c i j : Nat} (hc : c ≠ 46) (hi : l[i]? = some c) (hj : l[j]? = some c) : i = j := by
  induction l generalizing i j with
  | nil => simp at hi
  | cons x l ih =>
    by_cases hx : x = 46
    · subst hx
      have e : mb (46 :: l) = mb l := by simp [mb]
      rw [e] at nd
      cases i with
      | zero => simp at hi; exact absurd hi.symm hc
      | succ i =>
        cases j with
        | zero => simp at hj; exact absurd hj.symm hc
        | succ j => rw [ih nd (i := i) (j := j) (by simpa using hi) (by simpa using hj)]
    · have e : mb (x :: l) = x :: mb l := by simp [mb, hx]
      rw [e] at nd
      have nd' := List.nodup_cons.mp nd
      have no : ∀ {k : Nat}, l[k]? = some x → False := fun {k} hk => nd'.1 (List.mem_filter.mpr ⟨List.mem_of_getElem? hk, by simp [hx]⟩)
      cases i with
      | zero =>
        simp at hi
        subst hi
        cases j with
        | zero => rfl
        | succ j => exact (no (by simpa using hj)).elim
      | succ i =>
        cases j with
        | zero =>
          simp at hj
          subst hj
          exact (no (by simpa using hi)).elim
        | succ j => rw [ih nd'.2 (i := i) (j := j) (by simpa using hi) (by simpa using hj)]
theorem flat_len {h w : Nat} {g : Grid} (R : Rect h w g) : g.flatten.length = h * w := by
  rw [List.length_flatten]
  have : g.map List.length = List.replicate h w := List.eq_replicate_iff.mpr ⟨by rw [List.length_map]; exact R.1, fun x hx => by
    obtain ⟨l, hl, rfl⟩ := List.mem_map.mp hx
    exact R.2 l hl⟩
  rw [this]
  simp
theorem join0 : ∀ g : Grid, Txt.join (S []) (g.map S) = S g.flatten := fun g => by
  rw [join_S, joinL_nil]
theorem ok_cl {f : Addr} {fd : FuncData} (F : Fun K "__call__" "Tray.__call__" sTrayCall f fd) (CT : ClsT K mg D) (dm : mg "divmod" = none)
    (hs : PySem.W.findIn K (.ref D) "__contains__" = some (some (.ref fC))) (hf : PySem.W.isFn K (.ref fC) = true) (FC : FnR P w K mg base CX0 3 fC (spTc K D))
    (PW_ : PropOf K D "width" pW gW) (GW : FnOk P w K mg base CX0 1 gW fdW ["self"] (spWd K D)) (bW : Binds K fdW ["self"] [])
    (X : ExcT K mg "UnknownMarble" CU fU) (GU : FnOk P w K mg base CX0 1 fU fdU ["self", "marble"] (spUm CU)) (bU : Binds K fdU ["self", "marble"] []) :
    FnOk P w K mg base (L2.CX P w) 4 f fd ["self", "marble"] (spCl K D CU) := by
  refine F.okX scCl (fun vs H Q E h => ?_) (fun cdv A outer s H vs Q E hr h => ?_)
  · obtain ⟨p, x, h, w, g, rfl, _⟩ := h
    rfl
  · obtain ⟨p, x, h, w, g, rfl, T0, hV, hx⟩ := h
    obtain ⟨dx, a, hp, hS⟩ := id T0
    refine ⟨_, pss_cons (ps_if (pt_cmpR (op_notOwn hs hf FC hr pass0) (pv 1) (pv 0) (by rfl)) (pss_one (ps_raise rfl (takes_of rfl rfl rfl rfl) (pmk_oex X.ox X.iE X.tE GU (hr.mono (by decide)) bU .nil pass0 rfl X.mgE (pa_cons (pv 1) pa_nil)))) pss_nil)
      (pss_cons (ps_set (i := 2) scCl.nd rfl (.inl rfl) (pe_join pe_str (pe_fld (pv 0) rfl)))
      (pss_one (ps_ret (pe_callB call_divmod (by rfl) dm (by decide +kernel) (pa_cons (pe_bm PySem.F.plainAttrs_str PySem.F.slot_str_index PySem.F.type_str_index mt_sindex (pv 2) (pa_cons (pv 1) pa_nil)) (pa_cons (pe_prop (pv 0) CT.cl PW_ GW (hr.mono (by decide)) bW .nil pass0 rfl) pa_nil)))))), ?_⟩
    rcases hx with ⟨c, kk, rfl, hc, hk, k⟩ | ⟨hn, k⟩
    · have hm : c ∈ mb g.flatten := List.mem_filter.mpr ⟨List.mem_of_getElem? hk, by simp [hc]⟩
      have hh : has g [c] = true := by
        show (true && decide (c ∈ mb g.flatten)) = true
        rw [decide_eq_true hm]
        rfl
      refine ⟨_, rfl, _, rfl, p, dx, _, rfl, hp, p, _, h, w, g, rfl, T0, hV, .inl ⟨[c], rfl, by show 1 ≤ 1000; decide, fun H1 sm => ?_⟩⟩
      rw [hh]
      refine ⟨true, rfl, _, rfl, iteF ?_⟩
      have hf64 := flat_len hV.rc
      have h64 : h * w ≤ 64 := Nat.mul_le_mul hV.n8 hV.m8
      refine ⟨⟨_, rfl⟩, _, rfl, p, D, dx, _, _, rfl, sm _ _ hp, CT.cl, CT.nR, rfl, _, a, g.map S, rfl, rfl, .inr ?_, ?_, ?_⟩
      · rw [List.map_map]
        exact sm.tup hS
      · have h1 := row_sum 8 g fun r hr => hV.row hr
        have h2 := hV.len
        rw [List.length_map]
        show _ + _ * 0 ≤ _
        omega
      rw [show Str.ofString "" = S [] from rfl, join0]
      have hcf : c ∈ g.flatten := List.mem_of_getElem? hk
      obtain ⟨i, rest, e1, e2⟩ := occ_at hcf
      have ei := mb_uniq hV.nd hc e2 hk
      subst ei
      refine ⟨_, rfl, rfl, _, rfl, _, _, i, rest, rfl, rfl, e1, ?_⟩
      refine ⟨_, rfl, p, dx, _, rfl, sm _ _ hp, p, h, w, g, rfl, T0.same sm, hV, _, _, rfl, ⟨by have := hV.m1; omega, by have := hV.m8; omega⟩, fun q hq => ?_⟩
      exact k _ q (sm.trans (same_new hq)) (sm.free hq) upd_same
    · have raised : ∀ {H1 : Hp}, Same H H1 → ∀ a, H1 a = none → spUm CU [.ref a, x] (upd H1 a (exo a CU none)) (fun v H2 => v = .non ∧ ∃ (d : Addr) (fs : List (Str × V)), H2 a = some (exo a CU (some d)) ∧ H2 d = some (exd d fs) ∧ H1 d = none ∧ E (.ref CU) (some d) (upd (del H2 a) d (.xd fs))) (fun _ _ _ => False) := by
        intro H1 sm a ha
        refine ⟨a, x, rfl, upd_same, fun d hd hne => ⟨rfl, d, _, upd_same, by rw [upd_ne hne, upd_same], ?_, ?_⟩⟩
        · rw [upd_ne hne] at hd
          exact hd
        · rw [upd_ne hne] at hd
          refine k _ _ (fun b o e => ?_) (sm.free hd) upd_same
          have e1 := sm b o e
          have nd := ne_of_none e1 hd
          have na := ne_of_none e1 ha
          rw [upd_ne nd, del_ne na, upd_ne na, upd_ne nd, upd_ne na]
          exact e1
      refine ⟨_, rfl, _, rfl, p, dx, _, rfl, hp, p, _, h, w, g, rfl, T0, hV, ?_⟩
      rcases hn with ⟨u, rfl, hu, hh⟩ | hn
      · refine .inl ⟨u, rfl, hu, fun H1 sm => ?_⟩
        rw [hh]
        exact ⟨false, rfl, _, rfl, iteT ⟨_, rfl, by show 1 ≤ 1000; decide, raised sm⟩⟩
      · exact .inr ⟨hn, fun H1 sm => ⟨false, rfl, _, rfl, iteT ⟨_, rfl, by show 1 ≤ 1000; decide, raised sm⟩⟩⟩
end
end TP
end
namespace TA
end TA
section
set_option Elab.async false
set_option maxRecDepth 100000
set_option linter.all false
namespace TA
open TK
open PySem PySem.Spec PyProof.Rows L2 LamX TX TK TM TB
/-- an own exception class that is made with a text -/
structure ExN (K : PySem.W.Frag) (mg : Str → Option Value) (x : Str) (CE : Addr) : Prop where
  q : PySem.W.excIn K CE [.type "ValueError", .type "Exception", .type "BaseException", .type "object"] "ValueError.__new__" = true
  g : mg x = some (.ref CE)
  k : PySem.W.keepIn K (.ref CE) = true
  s : PySem.W.subIn K (.ref CE) (.type "BaseException") = some true
  t : PySem.W.typeIn K (.ref CE) = some (.type "type")
section
variable {P : Program} {w : World} {K : PySem.W.Frag} {mg : Str → Option Value} {base : Heap} {C CN fU : Addr} {fdU : FuncData}
end
end TA
end
section
set_option Elab.async false
set_option maxRecDepth 100000
set_option linter.all false
namespace TP
open PySem L2 TM TK TH TB TX
open PySem.Spec PyProof.Rows
theorem passX {X : Cx} {E : XK} (tk : Takes X (fun cls d _ H => E cls d H)) : Passes (L2.CX X.prog X.w) X E := passes_call tk fun _ _ _ _ h => h
/-- what is_place says of a value -/
inductive Plc (K : PySem.W.Frag) (H : Hp) (h w : Nat) : V → Bool → Prop where
  | two {q : Addr} {a b : V} {ta tb : String} {xa ya xb yb : Bool} (hq : SqT K H q [a, b]) (ka : TA.Kn K H a ta xa ya) (kb : TA.Kn K H b tb xb yb) : Plc K H h w (.ref q) (TA.isN a ((h : Int) - 1) && TA.isN b ((w : Int) - 1))
  | tup {q : Addr} {xs : List V} (hq : SqT K H q xs) (hl : xs.length ≠ 2) : Plc K H h w (.ref q) false
  | other {x : V} {ty : String} (ht : TyX K H x (.type ty)) (hk : kitB ty "tuple" = some false) : Plc K H h w x false
section
variable {P : Program} {w : World} {K : PySem.W.Frag} {mg : Str → Option Value} {base : Heap} {D CP fN fL pH gH pW gW : Addr} {fdN fdL fdH fdW : FuncData}
structure TxtP (K : PySem.W.Frag) (mg : Str → Option Value) : Prop where
  isi : mg "isinstance" = none
  tup : mg "tuple" = none
  len : mg "len" = none
theorem scPl : FnScope ["value", "height", "width"] ["value", "height", "width"] (defScope sIsPlace) := ⟨rfl, rfl, rfl, by decide +kernel, rfl, by decide +kernel, by decide +kernel⟩
def spPl (K : PySem.W.Frag) : Sp := fun vs H Q _ => ∃ (x : V) (h w : Nat) (b : Bool), vs = [x, .int (h : Nat), .int (w : Nat)] ∧ Plc K H h w x b ∧ Q (.bl b) H
theorem ok_pl {f : Addr} {fd : FuncData} (F : Fun K "is_place" "is_place" sIsPlace f fd) (T : TxtP K mg) (GN : FnOk P w K mg base CX0 1 fN fdN ["value", "limit"] (TA.spNum K)) (kN : PySem.W.keepIn K (.ref fN) = true) (bN : Binds K fdN ["value", "limit"] []) (mN : mg "is_number" = some (.ref fN)) :
    FnOk P w K mg base CX0 2 f fd ["value", "height", "width"] (spPl K) := by
  refine F.ok scPl (fun vs H Q E h => ?_) (fun cdv A outer s H vs Q E hr h => ?_)
  · obtain ⟨x, h, w, b, rfl, _⟩ := h
    rfl
  · obtain ⟨x, h, w, b, rfl, hx, k⟩ := h
    refine ⟨_, pss_cons (ps_if (PW.pt (pw_or (pt_not (pt_val (pe_callB call_isi (by rfl) T.isi (by decide +kernel) (pa_cons (pv 0) (pa_cons (pe_bltn (v := .ty "tuple") (by rfl) T.tup (by decide +kernel) rfl) pa_nil)))))
        (pw_or1 (pt_cmpR op_ne (pe_callB call_len_seq (by rfl) T.len PySem.boot_len (pa_cons (pv 0) pa_nil)) pe_int (nomark _))))) (pss_one (ps_ret pe_bl)) pss_nil)
      (pss_one (ps_ret (pe_and (pe_call GN hr rfl mN kN bN .nil pass0 (pa_cons (pe_ix ix_tup (pv 0) pe_int (fun _ _ => rfl)) (pa_cons (pe_op op_sub (pv 1) pe_int) pa_nil)))
        (pe_one (pe_call GN hr rfl mN kN bN .nil pass0 (pa_cons (pe_ix ix_tup (pv 0) pe_int (fun _ _ => rfl)) (pa_cons (pe_op op_sub (pv 2) pe_int) pa_nil))))))), ?_⟩
    cases hx with
    | two hq ka kb =>
      rename_i q a b ta tb xa ya xb yb
      refine ⟨_, rfl, _, _, _, _, true, rfl, .ty _, TA.sq_ty (.tup hq), kit_ty (TA.tup_kit true), true, rfl, iteF ?_⟩
      refine ⟨_, rfl, q, _, rfl, .inr hq, rfl, _, rfl, iteF ?_⟩
      refine ⟨_, rfl, q, _, _, _, rfl, rfl, hq, rfl, _, rfl, _, _, rfl, rfl, a, _, _, _, _, rfl, ka, _, rfl, ?_⟩
      by_cases ha : TA.isN a ((h : Int) - 1) = true
      · rw [ha] at k ⊢
        refine iteT ⟨_, rfl, q, _, _, _, rfl, rfl, hq, rfl, _, rfl, _, _, rfl, rfl, b, _, _, _, _, rfl, kb, ?_⟩
        rw [Bool.true_and] at k
        exact k
      · rw [Bool.not_eq_true] at ha
        rw [ha] at k ⊢
        exact iteF k
    | tup hq hl =>
      rename_i q xs
      refine ⟨_, rfl, _, _, _, _, true, rfl, .ty _, TA.sq_ty (.tup hq), kit_ty (TA.tup_kit true), true, rfl, iteF ?_⟩
      refine ⟨_, rfl, q, _, rfl, .inr hq, rfl, _, rfl, ?_⟩
      rw [show (!decide (V.int (xs.length : Nat) = V.int 2)) = true by
        rw [decide_eq_false]
        · rfl
        · intro z
          injection z with z
          omega]
      exact iteT k
    | other ht hk =>
      refine ⟨_, rfl, _, _, _, _, false, rfl, .ty _, ht, kit_ty hk, false, rfl, iteT (iteT k)⟩
theorem scCp : FnScope ["tray", "place"] ["tray", "place"] (defScope sCheckPlace) := ⟨rfl, rfl, rfl, by decide +kernel, rfl, by decide +kernel, by decide +kernel⟩
def spCp (K : PySem.W.Frag) (D CP : Addr) : Sp := fun vs H Q E => ∃ (p : Addr) (x : V) (h w : Nat) (g : Grid), vs = [.ref p, x] ∧ TrayAt K D H p g ∧ VG h w g ∧
  ((∃ (q : Addr) (r c : Nat), x = .ref q ∧ SqT K H q [.int r, .int c] ∧ r < h ∧ c < w ∧ Q .non H) ∨ (Plc K H h w x false ∧ E (.ref CP) none H))
theorem ok_cp {f : Addr} {fd : FuncData} (F : Fun K "check_place" "check_place" sCheckPlace f fd) (CT : ClsT K mg D) (GL : FnOk P w K mg base CX0 2 fL fdL ["value", "height", "width"] (spPl K)) (kL : PySem.W.keepIn K (.ref fL) = true) (bL : Binds K fdL ["value", "height", "width"] []) (mL : mg "is_place" = some (.ref fL))
    (PH : PropOf K D "height" pH gH) (GH : FnOk P w K mg base CX0 1 gH fdH ["self"] (spHt K D)) (bH : Binds K fdH ["self"] [])
    (PW_ : PropOf K D "width" pW gW) (GW : FnOk P w K mg base CX0 1 gW fdW ["self"] (spWd K D)) (bW : Binds K fdW ["self"] []) (X : TA.ExN K mg "InvalidPlace" CP) :
    FnOk P w K mg base (L2.CX P w) 3 f fd ["tray", "place"] (spCp K D CP) := by
  refine F.okX scCp (fun vs H Q E h => ?_) (fun cdv A outer s H vs Q E hr h => ?_)
  · obtain ⟨p, x, h, w, g, rfl, _⟩ := h
    rfl
  · obtain ⟨p, x, h, w, g, rfl, T0, hV, hx⟩ := h
    obtain ⟨dx, a, hp, hS⟩ := id T0
    refine ⟨_, pss_one (ps_if (pt_not (pt_val (pe_call GL hr rfl mL kL bL .nil pass0 (pa_cons (pv 1) (pa_cons (pe_prop (pv 0) CT.cl PH GH (hr.mono (by decide)) bH .nil pass0 rfl) (pa_cons (pe_prop (pv 0) CT.cl PW_ GW (hr.mono (by decide)) bW .nil pass0 rfl) pa_nil))))))
        (pss_one (ps_raise rfl (takes_of rfl rfl rfl rfl) (pmk_own PySem.F.excBase_ValueError X.q X.g X.k (raises_own X.s X.t) rfl))) pss_nil), ?_⟩
    refine ⟨_, rfl, _, rfl, p, dx, _, rfl, hp, p, h, w, g, rfl, T0, hV, _, rfl, p, dx, _, rfl, hp, p, h, w, g, rfl, T0, hV, x, h, w, ?_⟩
    rcases hx with ⟨q, r, c, rfl, hq, hr', hc', k⟩ | ⟨hb, k⟩
    · refine ⟨_, rfl, .two hq (TA.kn_int _) (TA.kn_int _), ?_⟩
      have e1 : TA.isN (.int r) ((h : Int) - 1) = true := by
        show (decide ((0 : Int) ≤ r) && decide ((r : Int) ≤ (h : Int) - 1)) = true
        rw [decide_eq_true (by omega), decide_eq_true (by omega)]
        rfl
      have e2 : TA.isN (.int c) ((w : Int) - 1) = true := by
        show (decide ((0 : Int) ≤ c) && decide ((c : Int) ≤ (w : Int) - 1)) = true
        rw [decide_eq_true (by omega), decide_eq_true (by omega)]
        rfl
      rw [e1, e2]
      exact ⟨true, rfl, iteF k⟩
    · exact ⟨false, rfl, hb, false, rfl, iteT k⟩
abbrev NAt : List Str := ["self", "place", "row", "column", "cell"]
theorem scAt : FnScope NAt ["self", "place"] (defScope sTrayAt) := ⟨rfl, rfl, rfl, by decide +kernel, rfl, by decide +kernel, by decide +kernel⟩
def atV (g : Grid) (r c : Nat) : V := if (g.getD r []).getD c 46 = 46 then .non else sg ((g.getD r []).getD c 46)
def spAt (K : PySem.W.Frag) (D CP : Addr) : Sp := fun vs H Q E => ∃ (p : Addr) (x : V) (h w : Nat) (g : Grid), vs = [.ref p, x] ∧ TrayAt K D H p g ∧ VG h w g ∧
  ((∃ (q : Addr) (r c : Nat), x = .ref q ∧ SqT K H q [.int r, .int c] ∧ r < h ∧ c < w ∧ Q (atV g r c) H) ∨ (Plc K H h w x false ∧ E (.ref CP) none H))
theorem ok_at {fV : Addr} {fdV : FuncData} {f : Addr} {fd : FuncData} (F : Fun K "at" "Tray.at" sTrayAt f fd) (T : TxtM K mg) (CT : ClsT K mg D)
    (GV : FnOk P w K mg base (L2.CX P w) 3 fV fdV ["tray", "place"] (spCp K D CP)) (kV : PySem.W.keepIn K (.ref fV) = true) (bV : Binds K fdV ["tray", "place"] []) (mV : mg "check_place" = some (.ref fV)) :
    FnOk P w K mg base (L2.CX P w) 4 f fd ["self", "place"] (spAt K D CP) := by
  refine F.okX scAt (fun vs H Q E h => ?_) (fun cdv A outer s H vs Q E hr h => ?_)
  · obtain ⟨p, x, h, w, g, rfl, _⟩ := h
    rfl
  · obtain ⟨p, x, h, w, g, rfl, T0, hV, hx⟩ := h
    obtain ⟨dx, a, hp, hS⟩ := id T0
    have nd := scAt.nd
    refine ⟨_, pss_cons (ps_expr (pe_call GV hr rfl mV kV bV .nil (passX (takes_of rfl rfl rfl rfl)) (pa_cons (pv 0) (pa_cons (pv 1) pa_nil))))
      (pss_cons (ps_asg (pv 1) (pg_tup (by rfl) (pgs_cons (pg_name (i := 2) nd rfl (.inl rfl)) (pgs_cons (pg_name (i := 3) nd rfl (.inl rfl)) pgs_nil))))
      (pss_cons (ps_set (i := 4) nd rfl (.inl rfl) (pe_ix ix_str (pe_ix ix_tup (pe_fld (pv 0) rfl) (pv 2) (fun _ _ => rfl)) (pv 3) (fun _ _ => rfl)))
      (pss_one (ps_ret (pe_ifExp (pt_cmpR op_eq (pv 4) (C8.pe_gc rfl T.em) (nomark _)) pe_non (pv 4)))))), ?_⟩
    refine ⟨_, rfl, _, rfl, p, x, h, w, g, rfl, T0, hV, ?_⟩
    rcases hx with ⟨q, r, c, rfl, hq, hr', hc', k⟩ | ⟨hb, k⟩
    · refine .inl ⟨q, r, c, rfl, hq, hr', hc', ?_⟩
      refine ⟨_, rfl, q, _, rfl, hq, rfl, _, _, rfl, _, _, rfl, rfl, ?_⟩
      have hrg : r < g.length := by rw [hV.rc.1]; exact hr'
      have er : g[r]? = some (g.getD r []) := by
        rw [List.getD_eq_getElem?_getD, List.getElem?_eq_getElem hrg]
        rfl
      have lr : (g.getD r []).length = w := hV.rc.2 _ (List.mem_of_getElem? er)
      have h8 := hV.m8
      unfold atV at k
      generalize g.getD r [] = row at er lr k
      have ec : row[c]? = some (row.getD c 46) := by
        rw [List.getD_eq_getElem?_getD, List.getElem?_eq_getElem (by omega)]
        rfl
      refine ⟨_, rfl, p, D, dx, _, _, rfl, hp, CT.cl, CT.nR, rfl, _, rfl, a, _, _, _, rfl, rfl, hS, atI_nat (by rw [List.getElem?_map, er]; all_goals rfl), _, rfl, S row, (c : Int), row.getD c 46, rfl, rfl, by rw [S_len]; show _ ≤ 16777216; omega, by rw [S_list]; exact atI_nat ec, ?_⟩
      generalize row.getD c 46 = z at k
      refine ⟨_, rfl, rfl, _, rfl, ?_⟩
      rw [show decide (V.str (⟨#[z]⟩ : Str) = V.str (S [46])) = (z == 46) from dL z 46]
      by_cases q46 : z = 46
      · rw [beq_iff_eq.mpr q46]
        rw [if_pos q46] at k
        exact iteT k
      · rw [beq_eq_false_iff_ne.mpr q46]
        rw [if_neg q46] at k
        exact iteF ⟨_, rfl, k⟩
    · exact .inr ⟨hb, k⟩
end
end TP
end
namespace TR
end TR
section
set_option maxHeartbeats 4000000
set_option linter.all false
namespace TM
def fL : Nat → List Nat → List Nat
  | x, [] => [x]
  | x, y :: r => if x = 46 then y :: fL 46 r else x :: fL y r
def pL : List Nat → List Nat
  | [] => []
  | x :: r => fL x r
def fR : Nat → List Nat → List Nat
  | x, [] => [x]
  | x, y :: r => if y = 46 then 46 :: fR x r else x :: fR y r
def pR : List Nat → List Nat
  | [] => []
  | x :: r => fR x r
def it (f : List Nat → List Nat) : Nat → List Nat → List Nat
  | 0, l => l
  | k + 1, l => it f k (f l)
theorem it_snoc (f : List Nat → List Nat) : ∀ k l, it f (k + 1) l = f (it f k l)
  | 0, _ => rfl
  | k + 1, l => it_snoc f k (f l)
theorem fL_dot : ∀ r, fL 46 r = r ++ [46]
  | [] => rfl
  | y :: r => by simp [fL, fL_dot r]
theorem pL_dot (l : List Nat) : pL (46 :: l) = l ++ [46] := fL_dot l
theorem pL_mb {x : Nat} (h : x ≠ 46) (l : List Nat) : pL (x :: l) = x :: pL l := by
  cases l with
  | nil => rfl
  | cons y r => show fL x (y :: r) = _; rw [fL, if_neg h]; rfl
theorem pL_snoc : ∀ l, pL (l ++ [46]) = pL l ++ [46]
  | [] => rfl
  | x :: l => by
    by_cases h : x = 46
    · subst h
      rw [List.cons_append, pL_dot, pL_dot]
    · rw [List.cons_append, pL_mb h, pL_mb h, pL_snoc l, List.cons_append]
theorem itL_snoc : ∀ k l, it pL k (l ++ [46]) = it pL k l ++ [46]
  | 0, _ => rfl
  | k + 1, l => by show it pL k (pL (l ++ [46])) = _; rw [pL_snoc, itL_snoc k]; rfl
theorem itL_mb {x : Nat} (h : x ≠ 46) : ∀ k l, it pL k (x :: l) = x :: it pL k l
  | 0, _ => rfl
  | k + 1, l => by show it pL k (pL (x :: l)) = _; rw [pL_mb h, itL_mb h k]; rfl
theorem sl_dotL (l : List Nat) : sl true (46 :: l) = sl true l ++ [46] := by
  have e : mb (46 :: l) = mb l := by simp [mb]
  have := mb_le l
  simp only [sl, if_true, e, List.length_cons]
  rw [show l.length + 1 - (mb l).length = l.length - (mb l).length + 1 by omega]
  unfold dots
  rw [List.replicate_succ', List.append_assoc]
theorem sl_mbL {x : Nat} (h : x ≠ 46) (l : List Nat) : sl true (x :: l) = x :: sl true l := by
  have e : mb (x :: l) = x :: mb l := by simp [mb, h]
  simp only [sl, if_true, e, List.length_cons]
  rw [show l.length + 1 - ((mb l).length + 1) = l.length - (mb l).length by omega]
  rfl
theorem itL_sl : ∀ (l : List Nat) (k : Nat), l.length ≤ k → it pL k l = sl true l
  | [], k, _ => by
    have : ∀ k, it pL k [] = [] := fun k => by
      induction k with
      | zero => rfl
      | succ k ih => exact ih
    rw [this]
    rfl
  | x :: l, k, h => by
    by_cases hx : x = 46
    · subst hx
      cases k with
      | zero => simp at h
      | succ k =>
        show it pL k (pL (46 :: l)) = _
        rw [pL_dot, itL_snoc, itL_sl l k (by simpa using h), sl_dotL]
    · rw [itL_mb hx, itL_sl l k (by simp at h; omega), sl_mbL hx]
theorem fR_snoc {m : Nat} (hm : m ≠ 46) : ∀ x r, fR x (r ++ [m]) = fR x r ++ [m]
  | x, [] => by simp [fR, hm]
  | x, y :: r => by
    rw [List.cons_append, fR, fR]
    split
    · rw [fR_snoc hm x r, List.cons_append]
    · rw [fR_snoc hm y r, List.cons_append]
theorem pR_snoc {m : Nat} (hm : m ≠ 46) (l : List Nat) : pR (l ++ [m]) = pR l ++ [m] := by
  cases l with
  | nil => rfl
  | cons x r => exact fR_snoc hm x r
theorem itR_snoc {m : Nat} (hm : m ≠ 46) : ∀ k l, it pR k (l ++ [m]) = it pR k l ++ [m]
  | 0, _ => rfl
  | k + 1, l => by show it pR k (pR (l ++ [m])) = _; rw [pR_snoc hm, itR_snoc hm k]; rfl
theorem fR_last : ∀ (r : List Nat) (x : Nat), mb (x :: r) ≠ [] → ∃ l2 m, fR x r = l2 ++ [m] ∧ m ≠ 46 ∧ mb (x :: r) = mb l2 ++ [m] ∧ l2.length = r.length
  | [], x, h => by
    have hx : x ≠ 46 := fun z => h (by subst z; rfl)
    exact ⟨[], x, rfl, hx, by simp [mb, hx], rfl⟩
  | y :: r, x, h => by
    by_cases hy : y = 46
    · subst hy
      have e : mb (x :: 46 :: r) = mb (x :: r) := by
        rw [show x :: 46 :: r = [x] ++ ([46] ++ r) from rfl, mb_app, mb_app, show x :: r = [x] ++ r from rfl, mb_app]
        rfl
      rw [e] at h
      obtain ⟨l2, m, h1, h2, h3, h4⟩ := fR_last r x h
      refine ⟨46 :: l2, m, by rw [fR, if_pos rfl, h1]; rfl, h2, by rw [e, h3]; simp [mb], by simp [h4]⟩
    · have h' : mb (y :: r) ≠ [] := by simp [mb, hy]
      obtain ⟨l2, m, h1, h2, h3, h4⟩ := fR_last r y h'
      refine ⟨x :: l2, m, by rw [fR, if_neg hy, h1]; rfl, h2, ?_, by simp [h4]⟩
      rw [show x :: y :: r = [x] ++ (y :: r) from rfl, mb_app, h3, show x :: l2 = [x] ++ l2 from rfl, mb_app, List.append_assoc]
theorem pR_dots : ∀ n, pR (dots n) = dots n
  | 0 => rfl
  | n + 1 => by
    have : ∀ n, fR 46 (dots n) = dots (n + 1) := fun n => by
      induction n with
      | zero => rfl
      | succ n ih => show fR 46 (46 :: dots n) = _; rw [fR, if_pos rfl, ih]; rfl
    exact this n
theorem mb_none {l : List Nat} (h : mb l = []) : l = dots l.length := by
  refine List.eq_replicate_iff.mpr ⟨rfl, fun c hc => ?_⟩
  have := List.filter_eq_nil_iff.mp h c hc
  simpa using this
theorem itR_sl : ∀ (k : Nat) (l : List Nat), l.length ≤ k → it pR k l = sl false l
  | 0, l, h => by
    have : l = [] := List.length_eq_zero_iff.mp (by omega)
    subst this
    rfl
  | k + 1, l, h => by
    by_cases e : mb l = []
    · have z := mb_none e
      have ks : ∀ k, it pR k l = l := fun k => by
        induction k with
        | zero => rfl
        | succ k ih => show it pR k (pR l) = l; rw [z, pR_dots, ← z, ih]
      rw [ks]
      simp only [sl, Bool.false_eq_true, if_false, e, List.length_nil, Nat.sub_zero, List.append_nil]
      exact z
    · cases l with
      | nil => exact absurd rfl e
      | cons x r =>
        obtain ⟨l2, m, h1, h2, h3, h4⟩ := fR_last r x e
        show it pR k (fR x r) = _
        have hle := mb_le l2
        rw [h1, itR_snoc h2, itR_sl k l2 (by rw [h4]; simpa using h)]
        simp only [sl, Bool.false_eq_true, if_false, h3, List.length_append, List.length_cons, List.length_nil]
        rw [show r.length + 1 - ((mb l2).length + (0 + 1)) = l2.length - (mb l2).length by omega, List.append_assoc]
def st1 (s : Bool) (l : List Nat) (k : Nat) : List Nat := if s then (if 1 ≤ k ∧ l.getD (k - 1) 0 = 46 then (l.set (k - 1) (l.getD k 0)).set k 46 else l) else (if k + 1 < l.length ∧ l.getD (k + 1) 0 = 46 then (l.set (k + 1) (l.getD k 0)).set k 46 else l)
theorem st1_len (s : Bool) (l : List Nat) (k : Nat) : (st1 s l k).length = l.length := by
  unfold st1
  split <;> split <;> simp
def pass (s : Bool) (l : List Nat) : List Nat := (List.range l.length).foldl (st1 s) l
theorem shiftL (x : Nat) : ∀ (ks l : List Nat), (∀ k ∈ ks, 1 ≤ k) → (ks.map (· + 1)).foldl (st1 true) (x :: l) = x :: ks.foldl (st1 true) l
  | [], _, _ => rfl
  | k :: ks, l, h => by
    have hk := h k List.mem_cons_self
    obtain ⟨j, rfl⟩ : ∃ j, k = j + 1 := ⟨k - 1, by omega⟩
    have e : st1 true (x :: l) (j + 1 + 1) = x :: st1 true l (j + 1) := by
      simp only [st1, if_true, Nat.add_sub_cancel]
      by_cases q : l.getD j 0 = 46
      · rw [if_pos ⟨by omega, by simpa using q⟩, if_pos ⟨by omega, q⟩]
        simp
      · rw [if_neg (fun z => q (by simpa using z.2)), if_neg fun z => q z.2]
    rw [List.map_cons, List.foldl_cons, e, shiftL x ks _ fun k hk => h k (List.mem_cons_of_mem _ hk)]
    rfl
theorem shiftR (x : Nat) : ∀ (ks l : List Nat), (ks.map (· + 1)).foldl (st1 false) (x :: l) = x :: ks.foldl (st1 false) l
  | [], _ => rfl
  | k :: ks, l => by
    have e : st1 false (x :: l) (k + 1) = x :: st1 false l k := by
      simp only [st1, Bool.false_eq_true, if_false]
      by_cases q : k + 1 < l.length ∧ l.getD (k + 1) 0 = 46
      · rw [if_pos ⟨by simpa using q.1, by simpa using q.2⟩, if_pos q]
        simp
      · rw [if_neg (fun z => q ⟨by simpa using z.1, by simpa using z.2⟩), if_neg q]
    rw [List.map_cons, List.foldl_cons, e, shiftR x ks _]
    rfl
theorem foldL : ∀ (r : List Nat) (x : Nat), ((List.range r.length).map (· + 1)).foldl (st1 true) (x :: r) = fL x r
  | [], _ => rfl
  | y :: r, x => by
    have er : (List.range (y :: r).length).map (· + 1) = 1 :: (((List.range r.length).map (· + 1)).map (· + 1)) := by
      rw [List.length_cons, List.range_succ_eq_map]
      simp
    rw [er, List.foldl_cons]
    by_cases hx : x = 46
    · subst hx
      have e : st1 true (46 :: y :: r) 1 = y :: 46 :: r := by simp [st1]
      rw [e, shiftL _ _ _ (fun k hk => by obtain ⟨j, _, rfl⟩ := List.mem_map.mp hk; omega), foldL r 46, fL, if_pos rfl]
    · have e : st1 true (x :: y :: r) 1 = x :: y :: r := by simp [st1, hx]
      rw [e, shiftL _ _ _ (fun k hk => by obtain ⟨j, _, rfl⟩ := List.mem_map.mp hk; omega), foldL r y, fL, if_neg hx]
theorem pass_L (l : List Nat) : pass true l = pL l := by
  cases l with
  | nil => rfl
  | cons x r =>
    have er : List.range (x :: r).length = 0 :: (List.range r.length).map (· + 1) := by rw [List.length_cons, List.range_succ_eq_map]
    have e : st1 true (x :: r) 0 = x :: r := by simp [st1]
    unfold pass
    rw [er, List.foldl_cons, e, foldL r x]
    rfl
theorem foldR : ∀ (r : List Nat) (x : Nat), (List.range (r.length + 1)).foldl (st1 false) (x :: r) = fR x r
  | [], x => by simp [st1, fR]
  | y :: r, x => by
    rw [List.length_cons, List.range_succ_eq_map, List.foldl_cons]
    by_cases hy : y = 46
    · subst hy
      have e : st1 false (x :: 46 :: r) 0 = 46 :: x :: r := by simp [st1]
      rw [e, shiftR, foldR r x, fR, if_pos rfl]
    · have e : st1 false (x :: y :: r) 0 = x :: y :: r := by simp [st1, hy]
      rw [e, shiftR, foldR r y, fR, if_neg hy]
theorem pass_R (l : List Nat) : pass false l = pR l := by
  cases l with
  | nil => rfl
  | cons x r => exact foldR r x
theorem it_sl (s : Bool) (l : List Nat) (k : Nat) (h : l.length ≤ k) : it (pass s) k l = sl s l := by
  cases s with
  | true => rw [show pass true = pL from funext pass_L]; exact itL_sl l k h
  | false => rw [show pass false = pR from funext pass_R]; exact itR_sl k l h
theorem pass_len (s : Bool) (l : List Nat) : (pass s l).length = l.length := by
  unfold pass
  generalize List.range l.length = ks
  induction ks generalizing l with
  | nil => rfl
  | cons k ks ih => rw [List.foldl_cons, ih, st1_len]
end TM
end
section
set_option maxHeartbeats 4000000
set_option linter.all false
namespace TM
def cell (G : Grid) (i j : Nat) : Nat := (G.getD i []).getD j 0
def putc (G : Grid) (i j v : Nat) : Grid := G.set i ((G.getD i []).set j v)
/-- one cell's turn: the marble at (r, c) goes one place on, if that is free -/
def stepG (dr dc : Int) (h w : Nat) (G : Grid) (r c : Nat) : Grid :=
  if 0 ≤ (r : Int) + dr ∧ (r : Int) + dr < h ∧ 0 ≤ (c : Int) + dc ∧ (c : Int) + dc < w ∧ cell G ((r : Int) + dr).toNat ((c : Int) + dc).toNat = 46 then
    putc (putc G ((r : Int) + dr).toNat ((c : Int) + dc).toNat (cell G r c)) r c 46 else G
def rowG (dr dc : Int) (h w : Nat) (G : Grid) (r : Nat) : Grid := (List.range w).foldl (fun G c => stepG dr dc h w G r c) G
def passG (dr dc : Int) (h w : Nat) (G : Grid) : Grid := (List.range h).foldl (rowG dr dc h w) G
def itG (dr dc : Int) (h w : Nat) : Nat → Grid → Grid
  | 0, G => G
  | k + 1, G => passG dr dc h w (itG dr dc h w k G)
theorem getD_at {G : Grid} {i : Nat} (h : i < G.length) : G[i]? = some (G.getD i []) := by
  rw [List.getD_eq_getElem?_getD, List.getElem?_eq_getElem h]
  rfl
theorem getD_len {h w i : Nat} {G : Grid} (R : Rect h w G) (hi : i < h) : (G.getD i []).length = w := R.2 _ (List.mem_of_getElem? (getD_at (by rw [R.1]; exact hi)))
theorem put_rect {h w i j v : Nat} {G : Grid} (R : Rect h w G) : Rect h w (putc G i j v) := by
  by_cases q : i < G.length
  · refine ⟨by unfold putc; rw [List.length_set]; exact R.1, fun r hr => ?_⟩
    unfold putc at hr
    rcases List.mem_or_eq_of_mem_set hr with h1 | h1
    · exact R.2 r h1
    · subst h1
      rw [List.length_set]
      exact R.2 _ (List.mem_of_getElem? (getD_at q))
  · have : putc G i j v = G := by unfold putc; exact List.set_eq_of_length_le (by omega)
    rw [this]
    exact R
theorem step_rect {dr dc : Int} {h w r c : Nat} {G : Grid} (R : Rect h w G) : Rect h w (stepG dr dc h w G r c) := by
  unfold stepG
  split
  · exact put_rect (put_rect R)
  · exact R
theorem fold_rect {h w : Nat} {f : Grid → Nat → Grid} (hf : ∀ G k, Rect h w G → Rect h w (f G k)) : ∀ (ks : List Nat) (G : Grid), Rect h w G → Rect h w (ks.foldl f G)
  | [], _, R => R
  | k :: ks, G, R => fold_rect hf ks _ (hf G k R)
theorem rowG_rect {dr dc : Int} {h w r : Nat} {G : Grid} (R : Rect h w G) : Rect h w (rowG dr dc h w G r) := fold_rect (fun _ _ => step_rect) _ _ R
theorem passG_rect {dr dc : Int} {h w : Nat} {G : Grid} (R : Rect h w G) : Rect h w (passG dr dc h w G) := fold_rect (fun _ _ => rowG_rect) _ _ R
theorem itG_rect {dr dc : Int} {h w : Nat} {G : Grid} (R : Rect h w G) : ∀ k, Rect h w (itG dr dc h w k G)
  | 0 => R
  | k + 1 => passG_rect (itG_rect R k)
def dir (s : Bool) : Int := if s then -1 else 1
theorem getD_set_same {α : Type} {l : List α} {i : Nat} {x d : α} (h : i < l.length) : (l.set i x).getD i d = x := by
  rw [List.getD_eq_getElem?_getD, List.getElem?_set_self h]
  rfl
theorem putput {G : Grid} {r j k a b : Nat} (hr : r < G.length) : putc (putc G r j a) r k b = G.set r (((G.getD r []).set j a).set k b) := by
  unfold putc
  rw [getD_set_same hr, List.set_set]
/-- along a row -/
theorem step_h {s : Bool} {h w r c : Nat} {G : Grid} (R : Rect h w G) (hr : r < h) (hc : c < w) : stepG 0 (dir s) h w G r c = G.set r (st1 s (G.getD r []) c) := by
  have hl := getD_len R hr
  have hG : r < G.length := by rw [R.1]; exact hr
  have same : G.set r (G.getD r []) = G := by
    refine List.ext_getElem? fun k => ?_
    rw [List.getElem?_set]
    split
    · rename_i e
      subst e
      simp [hG]
    · rfl
  unfold stepG
  rw [Int.add_zero, Int.toNat_natCast]
  cases s with
  | true =>
    simp only [dir, if_true, st1, cell]
    by_cases q : 1 ≤ c ∧ (G.getD r []).getD (c - 1) 0 = 46
    · have e : ((c : Int) + -1).toNat = c - 1 := by omega
      rw [if_pos ⟨by omega, by omega, by omega, by omega, by rw [e]; exact q.2⟩, if_pos q, e, putput hG]
    · rw [if_neg (fun z => q ⟨by omega, by
        have := z.2.2.2.2
        rw [show ((c : Int) + -1).toNat = c - 1 by omega] at this
        exact this⟩), if_neg q, same]
  | false =>
    simp only [dir, Bool.false_eq_true, if_false, st1, cell]
    have e : ((c : Int) + 1).toNat = c + 1 := by omega
    by_cases q : c + 1 < (G.getD r []).length ∧ (G.getD r []).getD (c + 1) 0 = 46
    · rw [if_pos ⟨by omega, by omega, by omega, by omega, by rw [e]; exact q.2⟩, if_pos q, e, putput hG]
    · rw [if_neg (fun z => q ⟨by omega, by
        have := z.2.2.2.2
        rw [e] at this
        exact this⟩), if_neg q, same]
theorem fold_set {f : List Nat → Nat → List Nat} {r : Nat} : ∀ (ks : List Nat) (G : Grid), r < G.length → ks.foldl (fun G k => G.set r (f (G.getD r []) k)) G = G.set r (ks.foldl f (G.getD r []))
  | [], G, h => by
    refine List.ext_getElem? fun k => ?_
    rw [List.foldl_nil, List.foldl_nil, List.getElem?_set]
    split
    · rename_i e
      subst e
      simp [h]
    · rfl
  | k :: ks, G, h => by
    rw [List.foldl_cons, fold_set ks _ (by rw [List.length_set]; exact h), getD_set_same h, List.set_set, List.foldl_cons]
theorem fold_map {f : List Nat → List Nat} (G : Grid) : ∀ n, n ≤ G.length → (List.range n).foldl (fun G k => G.set k (f (G.getD k []))) G = (G.take n).map f ++ G.drop n
  | 0, _ => by simp
  | n + 1, h => by
    rw [List.range_succ, List.foldl_append, fold_map G n (by omega), List.foldl_cons, List.foldl_nil]
    have hn : n < G.length := by omega
    have hl : ((G.take n).map f).length = n := by simp; omega
    have e1 : ((G.take n).map f ++ G.drop n).getD n [] = G.getD n [] := by
      rw [List.getD_eq_getElem?_getD, List.getElem?_append_right (by omega), hl, Nat.sub_self, List.getElem?_drop, Nat.add_zero, List.getD_eq_getElem?_getD]
    rw [e1, List.set_append_right _ _ (by omega), hl, Nat.sub_self, List.take_add_one, getD_at hn, List.map_append, List.append_assoc]
    congr 1
    rw [List.drop_eq_getElem_cons hn, List.set_cons_zero]
    have : G[n] = G.getD n [] := by simp [hn]
    rfl
theorem fold_map' {f : List Nat → List Nat} {G : Grid} {n : Nat} (h : G.length = n) : (List.range n).foldl (fun G k => G.set k (f (G.getD k []))) G = G.map f := by
  subst h
  rw [fold_map G _ (Nat.le_refl _), List.take_length, List.drop_length, List.append_nil]
theorem foldl_same {f g : Grid → Nat → Grid} {I : Grid → Prop} : ∀ (ks : List Nat) (G : Grid), I G → (∀ G k, k ∈ ks → I G → f G k = g G k ∧ I (g G k)) → ks.foldl f G = ks.foldl g G
  | [], _, _, _ => rfl
  | k :: ks, G, i, h => by
    have := h G k List.mem_cons_self i
    rw [List.foldl_cons, List.foldl_cons, this.1, foldl_same ks _ this.2 fun G k hk => h G k (List.mem_cons_of_mem _ hk)]
theorem set_rect {h w r : Nat} {l : List Nat} {G : Grid} (R : Rect h w G) (hl : l.length = w) : Rect h w (G.set r l) := by
  refine ⟨by rw [List.length_set]; exact R.1, fun x hx => ?_⟩
  rcases List.mem_or_eq_of_mem_set hx with h1 | h1
  · exact R.2 x h1
  · rw [h1]; exact hl
theorem row_h {s : Bool} {h w r : Nat} {G : Grid} (R : Rect h w G) (hr : r < h) : rowG 0 (dir s) h w G r = G.set r (pass s (G.getD r [])) := by
  unfold rowG
  rw [foldl_same (g := fun G k => G.set r (st1 s (G.getD r []) k)) (I := Rect h w) _ _ R fun G k hk i => ⟨step_h i hr (List.mem_range.mp hk), set_rect i (by rw [st1_len]; exact getD_len i hr)⟩]
  rw [fold_set _ _ (by rw [R.1]; exact hr)]
  unfold pass
  rw [getD_len R hr]
theorem pass_h {s : Bool} {h w : Nat} {G : Grid} (R : Rect h w G) : passG 0 (dir s) h w G = G.map (pass s) := by
  unfold passG
  rw [foldl_same (g := fun G k => G.set k (pass s (G.getD k []))) (I := Rect h w) _ _ R fun G k hk i => ⟨row_h i (List.mem_range.mp hk), set_rect i (by rw [pass_len]; exact getD_len i (List.mem_range.mp hk))⟩]
  exact fold_map' R.1
theorem it_h {s : Bool} {h w : Nat} {G : Grid} (R : Rect h w G) : ∀ k, itG 0 (dir s) h w k G = G.map (it (pass s) k)
  | 0 => by simp [itG, it]
  | k + 1 => by
    rw [itG, pass_h (itG_rect R k), it_h R k, List.map_map]
    refine List.map_congr_left fun l _ => ?_
    exact (it_snoc (pass s) k l).symm
theorem all_h {s : Bool} {h w k : Nat} {G : Grid} (R : Rect h w G) (hk : w ≤ k) : itG 0 (dir s) h w k G = LT s G := by
  rw [it_h R]
  exact List.map_congr_left fun l hl => it_sl s l k (by rw [R.2 l hl]; exact hk)
/-- along a column: the grid turned -/
theorem tr_cell {h w i j : Nat} {G : Grid} (R : Rect h w G) (hi : i < h) (hj : j < w) : cell (tr w G) j i = cell G i j := by
  unfold cell
  rw [List.getD_eq_getElem?_getD (l := tr w G), tr_get hj]
  show (G.map fun r => r.getD j 46).getD i 0 = _
  rw [List.getD_eq_getElem?_getD, List.getElem?_map, getD_at (by rw [R.1]; exact hi)]
  show (G.getD i []).getD j 46 = _
  have hl := getD_len R hi
  generalize G.getD i [] = l at hl ⊢
  rw [List.getD_eq_getElem?_getD, List.getD_eq_getElem?_getD, List.getElem?_eq_getElem (show j < l.length by omega)]
  rfl
theorem cell_ext {h w : Nat} {A B : Grid} (RA : Rect h w A) (RB : Rect h w B) (e : ∀ i j, i < h → j < w → cell A i j = cell B i j) : A = B := by
  refine List.ext_getElem? fun i => ?_
  by_cases hi : i < h
  · rw [getD_at (by rw [RA.1]; exact hi), getD_at (by rw [RB.1]; exact hi)]
    refine congrArg some (List.ext_getElem? fun j => ?_)
    have la := getD_len RA hi
    have lb := getD_len RB hi
    by_cases hj : j < w
    · have := e i j hi hj
      unfold cell at this
      rw [List.getD_eq_getElem?_getD, List.getD_eq_getElem?_getD (l := B.getD i []), List.getElem?_eq_getElem (show j < (A.getD i []).length by omega), List.getElem?_eq_getElem (show j < (B.getD i []).length by omega)] at this
      rw [List.getElem?_eq_getElem (show j < (A.getD i []).length by omega), List.getElem?_eq_getElem (show j < (B.getD i []).length by omega)]
      exact congrArg some this
    · rw [List.getElem?_eq_none_iff.mpr (show (A.getD i []).length ≤ j by omega), List.getElem?_eq_none_iff.mpr (show (B.getD i []).length ≤ j by omega)]
  · rw [List.getElem?_eq_none_iff.mpr (by have := RA.1; omega), List.getElem?_eq_none_iff.mpr (by have := RB.1; omega)]
theorem put_cell {h w i j v i' j' : Nat} {G : Grid} (R : Rect h w G) (hi : i < h) (hj : j < w) (hi' : i' < h) (hj' : j' < w) : cell (putc G i j v) i' j' = if i' = i ∧ j' = j then v else cell G i' j' := by
  have hG : i < G.length := by rw [R.1]; exact hi
  have hl := getD_len R hi
  unfold cell putc
  by_cases e : i' = i
  · subst e
    rw [getD_set_same hG]
    by_cases e2 : j' = j
    · subst e2
      rw [if_pos ⟨rfl, rfl⟩, getD_set_same (by omega)]
    · rw [if_neg fun z => e2 z.2, List.getD_eq_getElem?_getD (l := List.set _ _ _), List.getElem?_set_ne (fun z => e2 z.symm), ← List.getD_eq_getElem?_getD]
  · rw [if_neg fun z => e z.1, List.getD_eq_getElem?_getD (l := G.set i _), List.getElem?_set_ne (fun z => e z.symm), ← List.getD_eq_getElem?_getD]
theorem tr_put {h w i j v : Nat} {G : Grid} (R : Rect h w G) (hi : i < h) (hj : j < w) : tr w (putc G i j v) = putc (tr w G) j i v := by
  refine cell_ext (tr_rect (put_rect R)) (put_rect (tr_rect R)) fun a b ha hb => ?_
  rw [tr_cell (put_rect R) hb ha, put_cell R hi hj hb ha, put_cell (tr_rect R) hj hi ha hb, tr_cell R hb ha]
  by_cases q : b = i ∧ a = j
  · rw [if_pos q, if_pos ⟨q.2, q.1⟩]
  · rw [if_neg q, if_neg fun z => q ⟨z.2, z.1⟩]
theorem step_tr {d : Int} {h w r c : Nat} {G : Grid} (R : Rect h w G) (hr : r < h) (hc : c < w) : tr w (stepG d 0 h w G r c) = stepG 0 d w h (tr w G) c r := by
  unfold stepG
  rw [Int.add_zero, Int.toNat_natCast]
  by_cases q : 0 ≤ (r : Int) + d ∧ (r : Int) + d < h
  · have hl : ((r : Int) + d).toNat < h := by omega
    have hc2 : 0 ≤ (c : Int) ∧ (c : Int) < w := by omega
    rw [tr_cell R hl hc, tr_cell R hr hc]
    by_cases q2 : cell G ((r : Int) + d).toNat c = 46
    · rw [if_pos ⟨q.1, q.2, hc2.1, hc2.2, q2⟩, if_pos ⟨hc2.1, hc2.2, q.1, q.2, q2⟩, tr_put (put_rect R) hr hc, tr_put R hl hc]
    · rw [if_neg fun z => q2 z.2.2.2.2, if_neg fun z => q2 z.2.2.2.2]
  · rw [if_neg fun z => q ⟨z.1, z.2.1⟩, if_neg fun z => q ⟨z.2.2.1, z.2.2.2.1⟩]
theorem fold_tr {h w : Nat} {f g : Grid → Nat → Grid} : ∀ (ks : List Nat) (G : Grid), Rect h w G → (∀ G k, k ∈ ks → Rect h w G → tr w (f G k) = g (tr w G) k ∧ Rect h w (f G k)) → tr w (ks.foldl f G) = ks.foldl g (tr w G)
  | [], _, _, _ => rfl
  | k :: ks, G, R, H => by
    have := H G k List.mem_cons_self R
    rw [List.foldl_cons, List.foldl_cons, fold_tr ks _ this.2 (fun G k hk => H G k (List.mem_cons_of_mem _ hk)), this.1]
theorem map_rect {h w : Nat} {f : List Nat → List Nat} {G : Grid} (R : Rect h w G) (hf : ∀ l, (f l).length = l.length) : Rect h w (G.map f) := by
  refine ⟨by rw [List.length_map]; exact R.1, fun r hr => ?_⟩
  obtain ⟨l, hl, rfl⟩ := List.mem_map.mp hr
  rw [hf]
  exact R.2 l hl
theorem row_v {s : Bool} {h w r : Nat} {G : Grid} (R : Rect h w G) (hr : r < h) : tr w (rowG (dir s) 0 h w G r) = (tr w G).map fun l => st1 s l r := by
  unfold rowG
  rw [fold_tr (g := fun T c => stepG 0 (dir s) w h T c r) _ _ R fun G k hk i => ⟨step_tr i hr (List.mem_range.mp hk), step_rect i⟩]
  rw [foldl_same (g := fun T c => T.set c (st1 s (T.getD c []) r)) (I := Rect w h) _ _ (tr_rect R) fun G k hk i => ⟨step_h i (List.mem_range.mp hk) hr, set_rect i (by rw [st1_len]; exact getD_len i (List.mem_range.mp hk))⟩]
  exact fold_map' (f := fun l => st1 s l r) (tr_rect R).1
theorem fold_maps {s : Bool} : ∀ (ks : List Nat) (T : Grid), ks.foldl (fun T k => T.map fun l => st1 s l k) T = T.map fun l => ks.foldl (st1 s) l
  | [], T => by simp
  | k :: ks, T => by
    rw [List.foldl_cons, fold_maps ks, List.map_map]
    rfl
theorem pass_v {s : Bool} {h w : Nat} {G : Grid} (R : Rect h w G) : tr w (passG (dir s) 0 h w G) = (tr w G).map (pass s) := by
  unfold passG
  rw [fold_tr (g := fun T k => T.map fun l => st1 s l k) _ _ R fun G k hk i => ⟨row_v i (List.mem_range.mp hk), rowG_rect i⟩, fold_maps]
  refine List.map_congr_left fun l hl => ?_
  unfold pass
  rw [(tr_rect R).2 l hl]
theorem it_v {s : Bool} {h w : Nat} {G : Grid} (R : Rect h w G) : ∀ k, tr w (itG (dir s) 0 h w k G) = (tr w G).map (it (pass s) k)
  | 0 => by simp [itG, it]
  | k + 1 => by
    rw [itG, pass_v (itG_rect R k), it_v R k, List.map_map]
    refine List.map_congr_left fun l _ => ?_
    exact (it_snoc (pass s) k l).symm
theorem all_v {s : Bool} {h w k : Nat} {G : Grid} (R : Rect h w G) (hk : h ≤ k) : itG (dir s) 0 h w k G = UT s h w G := by
  rw [← tr_tr (itG_rect R k), it_v R]
  unfold UT LT
  congr 1
  exact List.map_congr_left fun l hl => it_sl s l k (by rw [(tr_rect R).2 l hl]; exact hk)
/-- the four tilts -/
def dirs (c : Nat) : Int × Int := if c = 108 then (0, -1) else if c = 114 then (0, 1) else if c = 117 then (-1, 0) else (1, 0)
theorem all_tilt {h w k c : Nat} {G : Grid} (R : Rect h w G) (hk : w ≤ k ∧ h ≤ k) (hc : c = 108 ∨ c = 114 ∨ c = 117 ∨ c = 100) : itG (dirs c).1 (dirs c).2 h w k G = tilt h w G c := by
  rcases hc with rfl | rfl | rfl | rfl
  · exact all_h (s := true) R hk.1
  · exact all_h (s := false) R hk.1
  · exact all_v (s := true) R hk.2
  · exact all_v (s := false) R hk.2
end TM
end
section
set_option maxHeartbeats 4000000
set_option linter.all false
namespace TM
/-- other signs for the marbles -/
structure Sig (f : Nat → Nat) : Prop where
  z : f 46 = 46
  nz : ∀ c, c ≠ 46 → f c ≠ 46
abbrev rel (f : Nat → Nat) (g : Grid) : Grid := g.map (List.map f)
theorem mb_map {f : Nat → Nat} (s : Sig f) : ∀ l : List Nat, mb (l.map f) = (mb l).map f
  | [] => rfl
  | x :: l => by
    by_cases h : x = 46
    · subst h
      have e1 : mb (46 :: l) = mb l := by simp [mb]
      have e2 : mb (f 46 :: l.map f) = mb (l.map f) := by rw [s.z]; simp [mb]
      rw [List.map_cons, e1, e2, mb_map s l]
    · have e1 : mb (x :: l) = x :: mb l := by simp [mb, h]
      have e2 : mb (f x :: l.map f) = f x :: mb (l.map f) := by simp [mb, s.nz x h]
      rw [List.map_cons, e1, e2, mb_map s l, List.map_cons]
theorem sl_map {f : Nat → Nat} (s : Sig f) (b : Bool) (l : List Nat) : sl b (l.map f) = (sl b l).map f := by
  have e := mb_map s l
  have d : ∀ n, dots n = (dots n).map f := fun n => by simp [dots, s.z]
  unfold sl
  rw [e, List.length_map, List.length_map]
  cases b with
  | true => simp only [if_true, List.map_append, ← d]
  | false => simp only [Bool.false_eq_true, if_false, List.map_append, ← d]
theorem lt_rel {f : Nat → Nat} (s : Sig f) (b : Bool) (g : Grid) : LT b (rel f g) = rel f (LT b g) := by
  show (g.map (List.map f)).map (sl b) = (g.map (sl b)).map (List.map f)
  rw [List.map_map, List.map_map]
  exact List.map_congr_left fun l _ => sl_map s b l
theorem tr_rel {f : Nat → Nat} (s : Sig f) (m : Nat) (g : Grid) : tr m (rel f g) = rel f (tr m g) := by
  show (List.range m).map _ = ((List.range m).map _).map (List.map f)
  rw [List.map_map]
  refine List.map_congr_left fun j _ => ?_
  show (g.map (List.map f)).map (fun r => r.getD j 46) = (g.map fun r => r.getD j 46).map f
  rw [List.map_map, List.map_map]
  refine List.map_congr_left fun r _ => ?_
  show (r.map f).getD j 46 = f (r.getD j 46)
  rw [List.getD_eq_getElem?_getD, List.getD_eq_getElem?_getD, List.getElem?_map]
  cases r[j]? with
  | none => exact s.z.symm
  | some x => rfl
theorem tilt_rel {f : Nat → Nat} (s : Sig f) (n m c : Nat) (g : Grid) : tilt n m (rel f g) c = rel f (tilt n m g c) := by
  unfold tilt UT
  split
  · exact lt_rel s _ g
  · rw [tr_rel s, lt_rel s, tr_rel s]
theorem tilts_rel {f : Nat → Nat} (s : Sig f) (n m : Nat) : ∀ (t : List Nat) (g : Grid), tilts n m t (rel f g) = rel f (tilts n m t g)
  | [], _ => rfl
  | c :: t, g => by
    show tilts n m t (tilt n m (rel f g) c) = _
    rw [tilt_rel s, tilts_rel s n m t]
    rfl
theorem snoc_ind {p : List Nat → Prop} (h0 : p []) (hs : ∀ t c, p t → p (t ++ [c])) (t : List Nat) : p t := by
  have : ∀ l : List Nat, p l.reverse := fun l => by
    induction l with
    | nil => exact h0
    | cons c l ih => rw [List.reverse_cons]; exact hs _ c ih
  have h := this t.reverse
  rw [List.reverse_reverse] at h
  exact h
theorem lt_still {a o : Bool} {n m : Nat} {g : Grid} (R : Rect n m g) (h : UT a n m g = g) : UT a n m (LT o g) = LT o g := by
  have := ulu (a := a) (o := o) R
  rw [h] at this
  exact this
theorem ut_still {a o : Bool} {n m : Nat} {g : Grid} (R : Rect n m g) (h : LT a g = g) : LT a (UT o n m g) = UT o n m g := by
  have := lul (a := a) (o := o) R
  rw [h] at this
  exact this
/-- the last tilt along rows, along columns: to the beginning -/
def lastH (t : List Nat) : Option Bool := ((t.filter isH).getLast?).map (· == 108)
def lastV (t : List Nat) : Option Bool := ((t.filter fun c => !isH c).getLast?).map (· == 117)
theorem lastH_snoc (t : List Nat) (c : Nat) : lastH (t ++ [c]) = if isH c then some (c == 108) else lastH t := by
  unfold lastH
  rw [List.filter_append]
  by_cases h : isH c = true
  · rw [if_pos h]; simp [h]
  · rw [if_neg h]; simp [h]
theorem lastV_snoc (t : List Nat) (c : Nat) : lastV (t ++ [c]) = if isH c then lastV t else some (c == 117) := by
  unfold lastV
  rw [List.filter_append]
  by_cases h : isH c = true
  · rw [if_pos h]; simp [h]
  · rw [if_neg h]; simp [h]
theorem tilt_H {n m c : Nat} {g : Grid} (h : isH c = true) : tilt n m g c = LT (c == 108) g := if_pos h
theorem tilt_V {n m c : Nat} {g : Grid} (h : ¬ isH c = true) : tilt n m g c = UT (c == 117) n m g := if_neg h
theorem still {n m : Nat} {g : Grid} (R : Rect n m g) (t : List Nat) : (∀ b, lastH t = some b → LT b (tilts n m t g) = tilts n m t g) ∧ ∀ b, lastV t = some b → UT b n m (tilts n m t g) = tilts n m t g := by
  refine snoc_ind (p := fun t => (∀ b, lastH t = some b → LT b (tilts n m t g) = tilts n m t g) ∧ ∀ b, lastV t = some b → UT b n m (tilts n m t g) = tilts n m t g) ⟨fun b h => by simp [lastH] at h, fun b h => by simp [lastV] at h⟩ (fun t c ih => ?_) t
  · have R2 := tilts_rect t R
    rw [tilts_snoc, lastH_snoc, lastV_snoc]
    by_cases h : isH c = true
    · rw [if_pos h, if_pos h, tilt_H h]
      refine ⟨fun b e => ?_, fun b e => lt_still R2 (ih.2 b e)⟩
      cases e
      exact lt_lt _ _ _
    · rw [if_neg h, if_neg h, tilt_V h]
      refine ⟨fun b e => ut_still R2 (ih.1 b e), fun b e => ?_⟩
      cases e
      exact ut_ut R2
def Bin (g : Grid) : Prop := ∀ r ∈ g, ∀ c ∈ r, c = 46 ∨ c = 97
theorem bin_mb {l : List Nat} (h : ∀ c ∈ l, c = 46 ∨ c = 97) : mb l = List.replicate (mb l).length 97 := by
  refine List.eq_replicate_iff.mpr ⟨rfl, fun c hc => ?_⟩
  have := List.mem_filter.mp hc
  rcases h c this.1 with e | e
  · rw [e] at this; simp at this
  · exact e
theorem bin_rev {s : Bool} {l : List Nat} (hb : ∀ c ∈ l, c = 46 ∨ c = 97) (h : sl s l = l) : sl (!s) l = l.reverse := by
  have e := bin_mb hb
  cases s with
  | true =>
    simp only [sl, if_true] at h
    simp only [sl, Bool.not_true, Bool.false_eq_true, if_false]
    conv => rhs; rw [← h]
    rw [List.reverse_append, e]
    simp [dots]
  | false =>
    simp only [sl, Bool.false_eq_true, if_false] at h
    simp only [sl, Bool.not_false, if_true]
    conv => rhs; rw [← h]
    rw [List.reverse_append, e]
    simp [dots]
abbrev MH (g : Grid) : Grid := g.map List.reverse
theorem lt_mirror {s b : Bool} {g : Grid} (hb : Bin g) (h : LT s g = g) : LT b g = if b = s then g else MH g := by
  by_cases q : b = s
  · rw [if_pos q, q, h]
  · rw [if_neg q]
    have e : b = !s := by cases b <;> cases s <;> simp_all
    subst e
    refine List.map_congr_left fun l hl => bin_rev (hb l hl) ?_
    unfold LT at h
    obtain ⟨i, hi, rfl⟩ := List.mem_iff_getElem.mp hl
    have h2 := congrArg (fun g => g[i]?) h
    simp only [List.getElem?_map, List.getElem?_eq_getElem hi] at h2
    exact Option.some.inj h2
theorem rev_cell {h w i j : Nat} {g : Grid} (R : Rect h w g) (hi : i < h) (hj : j < w) : cell (MH g) i j = cell g i (w - 1 - j) := by
  have hg : i < g.length := by rw [R.1]; exact hi
  have hl := getD_len R hi
  unfold cell
  have e : (MH g).getD i [] = (g.getD i []).reverse := by
    rw [List.getD_eq_getElem?_getD, List.getElem?_map, getD_at hg]
    rfl
  rw [e]
  generalize g.getD i [] = l at hl ⊢
  rw [List.getD_eq_getElem?_getD, List.getElem?_reverse (by omega), List.getD_eq_getElem?_getD, hl]
theorem vrev_cell {h w i j : Nat} {g : Grid} (R : Rect h w g) (hi : i < h) (_hj : j < w) : cell g.reverse i j = cell g (h - 1 - i) j := by
  unfold cell
  rw [List.getD_eq_getElem?_getD (l := g.reverse), List.getElem?_reverse (by rw [R.1]; exact hi), R.1, ← List.getD_eq_getElem?_getD]
theorem mh_rect {h w : Nat} {g : Grid} (R : Rect h w g) : Rect h w (MH g) := map_rect R fun l => List.length_reverse
theorem mv_rect {h w : Nat} {g : Grid} (R : Rect h w g) : Rect h w g.reverse := ⟨by rw [List.length_reverse]; exact R.1, fun r hr => R.2 r (List.mem_reverse.mp hr)⟩
theorem tr_mh {h w : Nat} {g : Grid} (R : Rect h w g) : tr w (MH g) = (tr w g).reverse := by
  refine cell_ext (tr_rect (mh_rect R)) (mv_rect (tr_rect R)) fun i j hi hj => ?_
  rw [tr_cell (mh_rect R) hj hi, rev_cell R hj hi, vrev_cell (tr_rect R) hi hj, tr_cell R hj (by omega)]
theorem tr_mv {h w : Nat} {g : Grid} (R : Rect h w g) : tr w g.reverse = MH (tr w g) := by
  refine cell_ext (tr_rect (mv_rect R)) (mh_rect (tr_rect R)) fun i j hi hj => ?_
  rw [tr_cell (mv_rect R) hj hi, vrev_cell R hj hi, rev_cell (tr_rect R) hi hj, tr_cell R (by omega) hi]
theorem lt_mv (s : Bool) (g : Grid) : LT s g.reverse = (LT s g).reverse := List.map_reverse ..
theorem ut_mh {s : Bool} {h w : Nat} {g : Grid} (R : Rect h w g) : UT s h w (MH g) = MH (UT s h w g) := by
  unfold UT
  rw [tr_mh R, lt_mv, tr_mv (lt_rect (tr_rect R))]
theorem bin_tr {h w : Nat} {g : Grid} (R : Rect h w g) (hb : Bin g) : Bin (tr w g) := by
  intro r hr c hc
  obtain ⟨j, hj, rfl⟩ := List.mem_map.mp hr
  obtain ⟨l, hl, rfl⟩ := List.mem_map.mp hc
  have hj := List.mem_range.mp hj
  have ll := R.2 l hl
  rw [List.getD_eq_getElem?_getD, List.getElem?_eq_getElem (by omega)]
  exact hb l hl _ (List.getElem_mem _)
theorem ut_mirror {s b : Bool} {h w : Nat} {g : Grid} (R : Rect h w g) (hb : Bin g) (hs : UT s h w g = g) : UT b h w g = if b = s then g else g.reverse := by
  have hs' : LT s (tr w g) = tr w g := by
    have e := congrArg (tr w) hs
    unfold UT at e
    rw [tr_tr (lt_rect (tr_rect R))] at e
    exact e
  unfold UT
  rw [lt_mirror (bin_tr R hb) hs']
  by_cases q : b = s
  · rw [if_pos q, if_pos q, tr_tr R]
  · rw [if_neg q, if_neg q, tr_mh (tr_rect R), tr_tr R]
/-- where both kinds of tilts leave a heap of two signs, they do not mind each other -/
theorem lt_ut {v h s b : Bool} {n m : Nat} {g : Grid} (R : Rect n m g) (hb : Bin g) (hv : UT v n m g = g) (hh : LT h g = g) : LT s (UT b n m g) = UT b n m (LT s g) := by
  rw [ut_mirror R hb hv, lt_mirror (b := s) hb hh]
  by_cases q : b = v
  · rw [if_pos q, q]
    by_cases q2 : s = h
    · rw [if_pos q2, q2, hh, hv]
    · rw [if_neg q2, ut_mh R, hv, lt_mirror hb hh, if_neg q2]
  · rw [if_neg q, lt_mv, lt_mirror hb hh]
    by_cases q2 : s = h
    · rw [if_pos q2, ut_mirror R hb hv, if_neg q]
    · rw [if_neg q2, ut_mh R, ut_mirror R hb hv, if_neg q]
      exact (List.map_reverse ..).symm
theorem bin_lt {s : Bool} {g : Grid} (hb : Bin g) : Bin (LT s g) := by
  intro r hr c hc
  obtain ⟨l, hl, rfl⟩ := List.mem_map.mp hr
  have : c = 46 ∨ c ∈ l := by
    cases s with
    | true =>
      rcases List.mem_append.mp hc with h | h
      · exact .inr (List.mem_filter.mp h).1
      · exact .inl (List.mem_replicate.mp h).2
    | false =>
      rcases List.mem_append.mp hc with h | h
      · exact .inl (List.mem_replicate.mp h).2
      · exact .inr (List.mem_filter.mp h).1
  rcases this with h | h
  · exact .inl h
  · exact hb l hl c h
theorem bin_tilt {n m c : Nat} {g : Grid} (R : Rect n m g) (hb : Bin g) : Bin (tilt n m g c) := by
  unfold tilt
  split
  · exact bin_lt hb
  · exact bin_tr (lt_rect (tr_rect R)) (bin_lt (bin_tr R hb))
theorem bin_tilts {n m : Nat} : ∀ (t : List Nat) {g : Grid}, Rect n m g → Bin g → Bin (tilts n m t g)
  | [], _, _, hb => hb
  | _ :: t, _, R, hb => bin_tilts t (tilt_rect R) (bin_tilt R hb)
theorem goes {v h : Bool} {n m : Nat} {g : Grid} (R : Rect n m g) (hb : Bin g) (hv : UT v n m g = g) (hh : LT h g = g) (t : List Nat) : tilts n m t g = UT ((lastV t).getD v) n m (LT ((lastH t).getD h) g) := by
  refine snoc_ind (p := fun t => tilts n m t g = UT ((lastV t).getD v) n m (LT ((lastH t).getD h) g)) ?_ (fun t c ih => ?_) t
  · show g = UT v n m (LT h g)
    rw [hh, hv]
  · rw [tilts_snoc, ih, lastH_snoc, lastV_snoc]
    by_cases q : isH c = true
    · rw [if_pos q, if_pos q, tilt_H q]
      show LT (c == 108) _ = UT _ n m (LT (c == 108) g)
      rw [← lt_ut R hb hv hh, lt_lt, lt_ut R hb hv hh]
    · rw [if_neg q, if_neg q, tilt_V q]
      show UT (c == 117) n m _ = UT (c == 117) n m _
      exact ut_ut (lt_rect R)
end TM
end
section
set_option maxHeartbeats 4000000
set_option linter.all false
namespace TM
def occ (c : Nat) : Nat := if c = 46 then 46 else 97
theorem occ_sig : Sig occ := ⟨rfl, fun c h => by unfold occ; rw [if_neg h]; decide⟩
theorem occ_bin (g : Grid) : Bin (rel occ g) := by
  intro r hr c hc
  obtain ⟨l, _, rfl⟩ := List.mem_map.mp hr
  obtain ⟨x, _, rfl⟩ := List.mem_map.mp hc
  unfold occ
  split
  · exact .inl rfl
  · exact .inr rfl
theorem rel_rect {f : Nat → Nat} {n m : Nat} {g : Grid} (R : Rect n m g) : Rect n m (rel f g) := map_rect R fun l => List.length_map ..
theorem lastH_none {t : List Nat} (h : lastH t = none) : ∀ c ∈ t, isH c = false := fun c hc => by
  unfold lastH at h
  rw [Option.map_eq_none_iff, List.getLast?_eq_none_iff, List.filter_eq_nil_iff] at h
  have := h c hc
  simpa using this
theorem lastV_none {t : List Nat} (h : lastV t = none) : ∀ c ∈ t, isH c = true := fun c hc => by
  unfold lastV at h
  rw [Option.map_eq_none_iff, List.getLast?_eq_none_iff, List.filter_eq_nil_iff] at h
  have := h c hc
  simpa using this
theorem all_H {n m : Nat} (g : Grid) (t : List Nat) : (∀ c ∈ t, isH c = true) → tilts n m t g = match lastH t with
    | some b => LT b g
    | none => g := by
  refine snoc_ind (p := fun t => (∀ c ∈ t, isH c = true) → tilts n m t g = match lastH t with
    | some b => LT b g
    | none => g) (fun _ => rfl) (fun t c ih h => ?_) t
  have hc := h c (by simp)
  rw [tilts_snoc, ih fun d hd => h d (List.mem_append_left _ hd), lastH_snoc, if_pos hc, tilt_H hc]
  cases lastH t with
  | none => rfl
  | some b => exact lt_lt _ _ _
theorem all_V {n m : Nat} {g : Grid} (R : Rect n m g) (t : List Nat) : (∀ c ∈ t, isH c = false) → tilts n m t g = match lastV t with
    | some b => UT b n m g
    | none => g := by
  refine snoc_ind (p := fun t => (∀ c ∈ t, isH c = false) → tilts n m t g = match lastV t with
    | some b => UT b n m g
    | none => g) (fun _ => rfl) (fun t c ih h => ?_) t
  have hc : ¬ isH c = true := by rw [h c (by simp)]; exact Bool.false_ne_true
  rw [tilts_snoc, ih fun d hd => h d (List.mem_append_left _ hd), lastV_snoc, if_neg hc, tilt_V hc]
  cases lastV t with
  | none => rfl
  | some b => exact ut_ut R
/-- a second round leaves the shape -/
theorem twice_bin {n m : Nat} {g : Grid} (R : Rect n m g) (hb : Bin g) (t : List Nat) : tilts n m t (tilts n m t g) = tilts n m t g := by
  have S := still R t
  have R2 := tilts_rect t R
  cases eh : lastH t with
  | none =>
    have a := lastH_none eh
    rw [all_V R2 t a, all_V R t a]
    cases lastV t with
    | none => rfl
    | some b => exact ut_ut R
  | some h =>
    cases ev : lastV t with
    | none =>
      have a := lastV_none ev
      rw [all_H _ t a, all_H _ t a, eh]
      exact lt_lt _ _ _
    | some v =>
      have sh := S.1 h eh
      have sv := S.2 v ev
      rw [goes R2 (bin_tilts t R hb) sv sh t, eh, ev]
      show UT v n m (LT h _) = _
      rw [sh, sv]
theorem twice_occ {n m : Nat} {g : Grid} (R : Rect n m g) (t : List Nat) : rel occ (tilts n m t (tilts n m t g)) = rel occ (tilts n m t g) := by
  rw [← tilts_rel occ_sig, ← tilts_rel occ_sig]
  exact twice_bin (rel_rect R) (occ_bin g) t
/-- signs told by places -/
theorem find_sig : ∀ (a b : List Nat), a.map occ = b.map occ → (mb a).Nodup → ∃ f, Sig f ∧ b = a.map f
  | [], [], _, _ => ⟨id, ⟨rfl, fun _ h => h⟩, rfl⟩
  | [], _ :: _, h, _ => by cases h
  | _ :: _, [], h, _ => by cases h
  | x :: a, y :: b, h, nd => by
    rw [List.map_cons, List.map_cons] at h
    injection h with h1 h2
    by_cases hx : x = 46
    · subst hx
      have hy : y = 46 := by
        by_cases q : y = 46
        · exact q
        · unfold occ at h1
          rw [if_pos rfl, if_neg q] at h1
          cases h1
      have e : mb (46 :: a) = mb a := by simp [mb]
      rw [e] at nd
      obtain ⟨f, s, hf⟩ := find_sig a b h2 nd
      exact ⟨f, s, by rw [List.map_cons, s.z, ← hf, hy]⟩
    · have hy : y ≠ 46 := fun q => by
        unfold occ at h1
        rw [if_neg hx, if_pos q] at h1
        cases h1
      have e : mb (x :: a) = x :: mb a := by simp [mb, hx]
      rw [e] at nd
      have nd' := List.nodup_cons.mp nd
      obtain ⟨f, s, hf⟩ := find_sig a b h2 nd'.2
      refine ⟨fun c => if c = x then y else f c, ⟨?_, fun c hc => ?_⟩, ?_⟩
      · show (if 46 = x then y else f 46) = 46
        rw [if_neg (fun z => hx z.symm)]
        exact s.z
      · show (if c = x then y else f c) ≠ 46
        split
        · exact hy
        · exact s.nz c hc
      · rw [List.map_cons]
        show y :: b = (if x = x then y else f x) :: _
        rw [if_pos rfl, hf]
        congr 1
        refine List.map_congr_left fun c hc => ?_
        show f c = if c = x then y else f c
        rw [if_neg]
        intro z
        subst z
        exact nd'.1 (List.mem_filter.mpr ⟨hc, by simp [hx]⟩)
theorem rel_flat {f : Nat → Nat} : ∀ g : Grid, (rel f g).flatten = g.flatten.map f := fun g => (List.map_flatten ..).symm
theorem same_flat {n m : Nat} {a b : Grid} (ha : Rect n m a) (hb : Rect n m b) (e : a.flatten = b.flatten) : a = b := by
  refine List.eq_iff_flatten_eq.mpr ⟨e, ?_⟩
  have h1 : a.map List.length = List.replicate n m := by
    refine List.eq_replicate_iff.mpr ⟨by rw [List.length_map]; exact ha.1, fun x hx => ?_⟩
    obtain ⟨l, hl, rfl⟩ := List.mem_map.mp hx
    exact ha.2 l hl
  have h2 : b.map List.length = List.replicate n m := by
    refine List.eq_replicate_iff.mpr ⟨by rw [List.length_map]; exact hb.1, fun x hx => ?_⟩
    obtain ⟨l, hl, rfl⟩ := List.mem_map.mp hx
    exact hb.2 l hl
  rw [h1, h2]
/-- so many rounds -/
def rounds (n m : Nat) (t : List Nat) : Nat → Grid → Grid
  | 0, g => g
  | k + 1, g => tilts n m t (rounds n m t k g)
/-- the exchange of signs after the first round -/
theorem turn_sig {n m : Nat} {t : List Nat} {g : Grid} (R : Rect n m g) (nd : (mb (tilts n m t g).flatten).Nodup) : ∃ f, Sig f ∧ tilts n m t (tilts n m t g) = rel f (tilts n m t g) := by
  have R2 := tilts_rect t R
  have R3 := tilts_rect t R2
  have e : (tilts n m t g).flatten.map occ = (tilts n m t (tilts n m t g)).flatten.map occ := by
    rw [← rel_flat, ← rel_flat, twice_occ R t]
  obtain ⟨f, s, hf⟩ := find_sig _ _ e nd
  exact ⟨f, s, same_flat R3 (rel_rect R2) (by rw [rel_flat]; exact hf)⟩
theorem rounds_rel {n m : Nat} {t : List Nat} {f : Nat → Nat} {g : Grid} (s : Sig f) (h : tilts n m t (tilts n m t g) = rel f (tilts n m t g)) : ∀ k, rounds n m t (k + 2) g = rel f (rounds n m t (k + 1) g)
  | 0 => h
  | k + 1 => by
    have e := congrArg (tilts n m t) (rounds_rel s h k)
    rw [tilts_rel s] at e
    exact e
end TM
end
section
set_option maxHeartbeats 4000000
set_option linter.all false
namespace TM
/-- what follows c: the sign in B where A has c -/
def nxt (A B : List Nat) (c : Nat) : Nat := B.getD (A.idxOf c) 46
def pw (φ : Nat → Nat) : Nat → Nat → Nat
  | 0, s => s
  | n + 1, s => φ (pw φ n s)
theorem pw_add (φ : Nat → Nat) (m s : Nat) : ∀ n, pw φ (m + n) s = pw φ m (pw φ n s) := fun n => by
  induction m with
  | zero => rw [Nat.zero_add]; rfl
  | succ m ih =>
    rw [Nat.succ_add]
    show φ (pw φ (m + n) s) = φ (pw φ m (pw φ n s))
    rw [ih]
theorem pw_mem {φ : Nat → Nat} {M : List Nat} (h : ∀ c ∈ M, φ c ∈ M) {s : Nat} (hs : s ∈ M) : ∀ n, pw φ n s ∈ M
  | 0 => hs
  | n + 1 => h _ (pw_mem h hs n)
/-- maps M to M, no two to one -/
structure Onto (φ : Nat → Nat) (M : List Nat) : Prop where
  mem : ∀ c ∈ M, φ c ∈ M
  inj : ∀ c ∈ M, ∀ d ∈ M, φ c = φ d → c = d
theorem pw_inj {φ : Nat → Nat} {M : List Nat} (O : Onto φ M) : ∀ (n : Nat) {c d : Nat}, c ∈ M → d ∈ M → pw φ n c = pw φ n d → c = d
  | 0, _, _, _, _, e => e
  | n + 1, c, d, hc, hd, e => pw_inj O n hc hd (O.inj _ (pw_mem O.mem hc n) _ (pw_mem O.mem hd n) e)
theorem few : ∀ (n : Nat) (l : List Nat), l.Nodup → (∀ c ∈ l, 97 ≤ c ∧ c < 97 + n) → l.length ≤ n
  | 0, l, _, h => by
    cases l with
    | nil => exact Nat.le_refl _
    | cons c l =>
      have := h c List.mem_cons_self
      omega
  | n + 1, l, nd, h => by
    by_cases q : (97 + n) ∈ l
    · have e := List.length_erase_of_mem q
      have ih := few n (l.erase (97 + n)) (nd.erase _) fun c hc => by
        have h1 := (List.Nodup.mem_erase_iff nd).mp hc
        have h2 := h c h1.2
        have h3 := h1.1
        omega
      omega
    · have ih := few n l nd fun c hc => by
        have h2 := h c hc
        have : c ≠ 97 + n := fun z => q (by rw [← z]; exact hc)
        omega
      omega
theorem least {p : Nat → Prop} : ∀ n, (∃ k, k ≤ n ∧ p k) → ∃ k, k ≤ n ∧ p k ∧ ∀ j, j < k → ¬ p j
  | 0, ⟨k, hk, h⟩ => by
    obtain rfl : k = 0 := by omega
    exact ⟨0, Nat.le_refl _, h, fun j hj => absurd hj (Nat.not_lt_zero _)⟩
  | n + 1, ⟨k, hk, h⟩ => by
    by_cases q : ∃ k, k ≤ n ∧ p k
    · obtain ⟨k, h1, h2, h3⟩ := least n q
      exact ⟨k, by omega, h2, h3⟩
    · have : k = n + 1 := by
        by_cases z : k ≤ n
        · exact absurd ⟨k, z, h⟩ q
        · omega
      subst this
      exact ⟨n + 1, Nat.le_refl _, h, fun j hj hp => q ⟨j, by omega, hp⟩⟩
/-- a circle's length -/
structure Ring (φ : Nat → Nat) (s L : Nat) : Prop where
  one : 1 ≤ L
  back : pw φ L s = s
  no : ∀ i, 1 ≤ i → i < L → pw φ i s ≠ s
theorem ring_ex {φ : Nat → Nat} {M : List Nat} (O : Onto φ M) (hM : ∀ c ∈ M, 97 ≤ c ∧ c < 123) {s : Nat} (hs : s ∈ M) : ∃ L, L ≤ 26 ∧ Ring φ s L := by
  have two : ∃ i j, i < j ∧ j ≤ 26 ∧ pw φ i s = pw φ j s := by
    refine Classical.byContradiction fun hn => ?_
    have nd : ((List.range 27).map fun i => pw φ i s).Nodup := by
      refine List.pairwise_map.mpr ((List.pairwise_lt_range (n := 27)).imp_of_mem fun {a b} ha hb hab => ?_)
      intro e
      exact hn ⟨a, b, hab, by have := List.mem_range.mp hb; omega, e⟩
    have := few 26 _ nd fun c hc => by
      obtain ⟨i, _, rfl⟩ := List.mem_map.mp hc
      exact hM _ (pw_mem O.mem hs i)
    rw [List.length_map, List.length_range] at this
    omega
  obtain ⟨i, j, hij, hj, e⟩ := two
  have e2 : pw φ (j - i) s = s := by
    have : j = i + (j - i) := by omega
    rw [this, pw_add] at e
    exact (pw_inj O i hs (pw_mem O.mem hs _) e).symm
  obtain ⟨k, h1, ⟨h2, h3⟩, h4⟩ := least (p := fun k => 1 ≤ k ∧ pw φ k s = s) 26 ⟨j - i, by omega, by omega, e2⟩
  exact ⟨k, h1, h2, h3, fun i hi hk e => h4 i hk ⟨hi, e⟩⟩
/-- the next ring place -/
theorem Ring.step {φ : Nat → Nat} {M : List Nat} (O : Onto φ M) {s L i j : Nat} (hs : s ∈ M) (a : Ring φ s L) (hi : i < L) (hj : j < L) (e : pw φ i s = pw φ j s) : i = j := by
  have aux : ∀ {i j : Nat}, i < j → j < L → pw φ i s = pw φ j s → False := fun {i j} hij hj e => by
    have hh : j = i + (j - i) := by omega
    rw [hh, pw_add] at e
    have := (pw_inj O i hs (pw_mem O.mem hs _) e).symm
    exact a.no _ (by omega) (by omega) this
  rcases Nat.lt_trichotomy i j with h | h | h
  · exact (aux h hj e).elim
  · exact h
  · exact (aux h hi e.symm).elim
structure Two (f : Nat → Nat) (A B : List Nat) : Prop where
  s : Sig f
  e : B = A.map f
  nd : (mb A).Nodup
  pm : (mb B).Perm (mb A)
theorem mem_mb {l : List Nat} {c : Nat} : c ∈ mb l ↔ c ∈ l ∧ c ≠ 46 := by
  unfold mb
  rw [List.mem_filter]
  simp
theorem one_place : ∀ {l : List Nat} {c i j : Nat}, (mb l).Nodup → c ≠ 46 → l[i]? = some c → l[j]? = some c → i = j
  | [], _, _, _, _, _, h, _ => by simp at h
  | x :: l, c, i, j, nd, hc, hi, hj => by
    have nd' : (mb l).Nodup := by
      by_cases q : x = 46
      · subst q
        exact nd
      · have e : mb (x :: l) = x :: mb l := by simp [mb, q]
        rw [e] at nd
        exact (List.nodup_cons.mp nd).2
    have no : x = c → c ∉ l := fun q hm => by
      subst q
      have e : mb (x :: l) = x :: mb l := by simp [mb, hc]
      rw [e] at nd
      exact (List.nodup_cons.mp nd).1 (mem_mb.mpr ⟨hm, hc⟩)
    match i, j with
    | 0, 0 => rfl
    | 0, j + 1 =>
      have h1 : x = c := by simpa using hi
      have h2 : l[j]? = some c := by simpa using hj
      exact (no h1 (List.mem_of_getElem? h2)).elim
    | i + 1, 0 =>
      have h1 : x = c := by simpa using hj
      have h2 : l[i]? = some c := by simpa using hi
      exact (no h1 (List.mem_of_getElem? h2)).elim
    | i + 1, j + 1 => rw [one_place (i := i) (j := j) nd' hc (by simpa using hi) (by simpa using hj)]
theorem idx_at {l : List Nat} {c : Nat} (h : c ∈ l) : l.idxOf c < l.length ∧ l[l.idxOf c]? = some c := by
  have h1 := List.idxOf_lt_length_of_mem h
  exact ⟨h1, by rw [List.getElem?_eq_getElem h1, List.getElem_idxOf]⟩
theorem idx_uniq {l : List Nat} {c i : Nat} (nd : (mb l).Nodup) (hc : c ≠ 46) (h : l[i]? = some c) : l.idxOf c = i :=
  one_place nd hc (idx_at (List.mem_of_getElem? h)).2 h
section
variable {f : Nat → Nat} {A B : List Nat}
theorem Two.ndB (T : Two f A B) : (mb B).Nodup := T.pm.nodup_iff.mpr T.nd
theorem Two.mbB (T : Two f A B) : mb B = (mb A).map f := by rw [T.e, mb_map T.s]
theorem Two.onto (T : Two f A B) : Onto f (mb A) := by
  have h := T.mbB
  refine ⟨fun c hc => T.pm.mem_iff.mp (by rw [h]; exact List.mem_map_of_mem hc), fun c hc d hd e => ?_⟩
  obtain ⟨i, hi⟩ := List.mem_iff_getElem?.mp hc
  obtain ⟨j, hj⟩ := List.mem_iff_getElem?.mp hd
  have nd := T.ndB
  rw [h] at nd
  have e1 : ((mb A).map f)[i]? = some (f c) := by rw [List.getElem?_map, hi]; rfl
  have e2 : ((mb A).map f)[j]? = some (f c) := by rw [List.getElem?_map, hj, e]; rfl
  obtain ⟨l1, g1⟩ := List.getElem?_eq_some_iff.mp e1
  obtain ⟨l2, g2⟩ := List.getElem?_eq_some_iff.mp e2
  have pw_ := List.pairwise_iff_getElem.mp nd
  have ij : i = j := by
    rcases Nat.lt_trichotomy i j with q | q | q
    · exact absurd (g1.trans g2.symm) (pw_ i j l1 l2 q)
    · exact q
    · exact absurd (g2.trans g1.symm) (pw_ j i l2 l1 q)
  subst ij
  rw [hi] at hj
  exact Option.some.inj hj
theorem Two.nxt (T : Two f A B) {c : Nat} (hc : c ∈ mb A) : nxt A B c = f c := by
  obtain ⟨h1, h2⟩ := idx_at (mem_mb.mp hc).1
  unfold TM.nxt
  have : B[A.idxOf c]? = some (f c) := by rw [T.e, List.getElem?_map, h2]; rfl
  rw [List.getD_eq_getElem?_getD, this]
  rfl
end
theorem rounds_pw {n m : Nat} {t : List Nat} {f : Nat → Nat} {g : Grid} (s : Sig f) (h : tilts n m t (tilts n m t g) = rel f (tilts n m t g)) : ∀ k, rounds n m t (k + 1) g = rel (pw f k) (rounds n m t 1 g)
  | 0 => by
    show _ = (rounds n m t 1 g).map (List.map fun c => c)
    simp
  | k + 1 => by
    rw [rounds_rel s h k, rounds_pw s h k]
    show ((rounds n m t 1 g).map (List.map (pw f k))).map (List.map f) = _
    rw [List.map_map]
    refine List.map_congr_left fun l _ => ?_
    show (l.map (pw f k)).map f = _
    rw [List.map_map]
    rfl
/-- the sign at a place of the flat list -/
theorem flat_at {w j : Nat} : ∀ {g : Grid} {h i : Nat}, Rect h w g → i < h → j < w → g.flatten[i * w + j]? = some (cell g i j)
  | [], h, i, R, hi, _ => by
    have := R.1
    simp at this
    omega
  | r :: g, h, i, R, hi, hj => by
    have hr : r.length = w := R.2 r List.mem_cons_self
    have R' : Rect (h - 1) w g := ⟨by have := R.1; simp at this; omega, fun x hx => R.2 x (List.mem_cons_of_mem _ hx)⟩
    rw [List.flatten_cons]
    match i with
    | 0 =>
      rw [Nat.zero_mul, Nat.zero_add, List.getElem?_append_left (by omega)]
      show _ = some (r.getD j 0)
      rw [List.getD_eq_getElem?_getD, List.getElem?_eq_getElem (by omega)]
      rfl
    | i + 1 =>
      rw [List.getElem?_append_right (by rw [hr, Nat.succ_mul]; omega)]
      have : (i + 1) * w + j - r.length = i * w + j := by rw [hr, Nat.succ_mul]; omega
      rw [this, flat_at (i := i) R' (by omega) hj]
      rfl
end TM
end
namespace TB
end TB
namespace TA
end TA
namespace TA
end TA
namespace TA
end TA
section
set_option Elab.async false
set_option maxRecDepth 100000
set_option linter.all false
namespace TA
open TK
open PySem PySem.Spec PyProof.Rows L2 LamX TX TK TM TB
def opp (c : Nat) : Nat := if c = 108 then 114 else if c = 114 then 108 else if c = 117 then 100 else 117
theorem ix_kdictK {X : Cx} {K : PySem.W.Frag} {w : World} (h : X.K = K) (h2 : X.w = w) : IxR X (rIxD K w) := by
  subst h
  subst h2
  exact ix_kdict
section
variable {P : Program} {w : World} {K : PySem.W.Frag} {mg : Str → Option Value} {base : Heap} {C CE fI aO : Addr} {fdI : FuncData}
end
end TA
end
section
set_option Elab.async false
set_option maxRecDepth 100000
set_option linter.all false
namespace TB
open PySem PySem.Spec PyProof.Rows L2 TK
theorem call_list_txt {X : Cx} (hc : X.calm = true) : CallR X (.type "list") (fun xs H Q => ∃ t : List Nat, xs = [.str (S t)] ∧ t.length ≤ 1000 ∧ ∀ l, H l = none → Q (.ref l) (upd H l (.lst (t.map sg)))) := by
  intro pins s σ H xs us Q I r h
  obtain ⟨t, rfl, ht, q⟩ := h
  obtain ⟨u, rfl, rx⟩ := r.one
  obtain ⟨a, rfl⟩ := (show ∃ a, u = Value.str (S t) a from rx)
  refine call_list_str (I.ok.hd hc) (S t) a (fun h' tk acc c' kp e it => ?_) (by rw [S_size]; show _ ≤ 16777216; omega)
  have hsz : acc.toList.length = t.length := by
    have := it.1
    rw [S_size] at this
    simpa using this
  have rv : Vals (t.map sg) acc.toList := TH.sgn_vals _ _ hsz fun k c hk => by
    have hlt : k < acc.size := by
      have := (List.getElem?_eq_some_iff.mp hk).1
      have e2 : acc.toList.length = acc.size := by simp
      omega
    obtain ⟨c2, u2, h1, h2⟩ := it.2 k acc[k] (by simp [hlt])
    rw [S_at, hk] at h1
    cases h1
    exact ⟨u2, by rw [← h2]; simp [hlt]⟩
  exact ⟨.ref s.heap.objs.size, _, I.laid (t' := tk) kp (Nat.le_refl _) (show ObjOk X.prog X.w _ h' _ (.lst (t.map sg)) from ⟨by rw [List.length_map]; show _ ≤ 16777216; omega, acc.toList, c', rv, by simpa using e⟩), rfl, q _ (I.hok.fresh (Nat.le_refl _))⟩
end TB
end
section
set_option Elab.async false
set_option maxRecDepth 100000
set_option linter.all false
namespace TU
open PySem L2 TM TK TB
open PySem.Spec PyProof.Rows TH
abbrev NTl : List Str := ["_law_rows_here", "_law_tilt", "_law_cells", "_law_line", "_law_dr", "_law_dc", "_law_turn", "_law_r", "_law_c", "_law_low", "_law_right"]
theorem scTl : FnScope NTl ["_law_rows_here", "_law_tilt"] (defScope sLawTilted) := ⟨rfl, rfl, rfl, by decide +kernel, rfl, by decide +kernel, by decide +kernel⟩
/-- the cells at D, its rows at ds -/
def CellsAt (H : Hp) (D : Addr) (ds : List Addr) (G : Grid) : Prop := H D = some (.lst (ds.map V.ref)) ∧ ds.length = G.length ∧ ∀ i a, ds[i]? = some a → H a = some (.lst ((G.getD i []).map sg))
theorem CellsAt.row {H : Hp} {D a : Addr} {ds : List Addr} {G : Grid} {i : Nat} (h : CellsAt H D ds G) (e : ds[i]? = some a) : H a = some (.lst ((G.getD i []).map sg)) := h.2.2 i a e
theorem CellsAt.same {H H' : Hp} {D : Addr} {ds : List Addr} {G : Grid} (h : CellsAt H D ds G) (s : Same H H') : CellsAt H' D ds G := ⟨s _ _ h.1, h.2.1, fun i a e => s _ _ (h.2.2 i a e)⟩
theorem CellsAt.put {H : Hp} {D a : Addr} {ds : List Addr} {G : Grid} {i j v : Nat} (h : CellsAt H D ds G) (nd : ds.Nodup) (hD : D ∉ ds) (e : ds[i]? = some a) : CellsAt (upd H a (.lst (((G.getD i []).set j v).map sg))) D ds (putc G i j v) := by
  have ha : a ∈ ds := List.mem_of_getElem? e
  have hi : i < G.length := by rw [← h.2.1]; exact (List.getElem?_eq_some_iff.mp e).1
  refine ⟨by rw [upd_ne (fun z => hD (by rw [z]; exact ha))]; exact h.1, by unfold putc; rw [List.length_set]; exact h.2.1, fun k b hb => ?_⟩
  unfold putc
  by_cases q : k = i
  · subst q
    rw [e] at hb
    cases hb
    rw [upd_same, getD_set_same hi]
  · have hab : b ≠ a := fun z => by
      subst z
      have h1 := (List.getElem?_eq_some_iff.mp e)
      have h2 := (List.getElem?_eq_some_iff.mp hb)
      obtain ⟨l1, e1⟩ := h1
      obtain ⟨l2, e2⟩ := h2
      have pw := List.pairwise_iff_getElem.mp nd
      rcases Nat.lt_or_gt_of_ne q with q | q
      · exact pw k i l2 l1 q (e2.trans e1.symm)
      · exact pw i k l1 l2 q (e1.trans e2.symm)
    rw [upd_ne hab, h.2.2 k b hb, List.getD_eq_getElem?_getD (l := G.set i _), List.getElem?_set_ne (fun z => q z.symm), ← List.getD_eq_getElem?_getD]
abbrev S' (c : Nat) : Str := ⟨#[c]⟩
abbrev dkv (p1 p2 p3 p4 : Addr) : List (Key × V) := [(Sum.inr (S' 108), .ref p1), (Sum.inr (S' 114), .ref p2), (Sum.inr (S' 117), .ref p3), (Sum.inr (S' 100), .ref p4)]
theorem dkv_merge (p1 p2 p3 p4 : Addr) : mergeK [] (dkv p1 p2 p3 p4) = dkv p1 p2 p3 p4 := rfl
section
variable {P : Program} {w : World} {K : PySem.W.Frag} {mg : Str → Option Value} {base : Heap}
structure TxtS (K : PySem.W.Frag) (mg : Str → Option Value) : Prop where
  lst : mg "list" = none
  len : mg "len" = none
  range : mg "range" = none
def spTl (K : PySem.W.Frag) : Sp := fun vs H Q _ => ∃ (a c h w : Nat) (g : Grid), vs = [.ref a, sg c] ∧ SqL K H a (rowV g) ∧ Rect h w g ∧ 1 ≤ h ∧ h ≤ 8 ∧ 1 ≤ w ∧ w ≤ 8 ∧ isT c = true ∧ ∀ H' b, Same H H' → H b = none → H' b = some (.lst (rowV (tilt h w g c))) → Q (.ref b) H'
theorem ok_tl {f : Addr} {fd : FuncData} (F : Fun K "_law_tilted" "_law_tilted" sLawTilted f fd) (T : TxtS K mg) : FnOk P w K mg base CX0 1 f fd ["_law_rows_here", "_law_tilt"] (spTl K) := by
  refine F.ok scTl (fun vs H Q E h => ?_) (fun cdv A outer s H vs Q E hr h => ?_)
  · obtain ⟨a, c, h, w, g, rfl, _⟩ := h
    rfl
  · obtain ⟨a, c, h, w, g, rfl, hS, R, h1, h8, w1, w8, hc, k⟩ := h
    have nd := scTl.nd
    refine ⟨_, C8.pss_cut (ps_setLc (i := 2) (own := [("_law_line", 3)]) (g := gName 3) (tt := tYes) rfl nd rfl rfl (sw_true rfl rfl rfl (by decide +kernel)) (pi_list (pv 0)) (blkOk_by (N := NTl) (sc := defScope sLawTilted) (by decide +kernel)) (fun _ _ _ _ _ => pg_name (i := 3) nd rfl (.inl rfl)) (fun _ _ _ _ _ => pts_nil)
          (fun _ _ _ _ _ => pe_callTy (call_list_txt rfl) (by rfl) T.lst (by decide +kernel) (pa_cons (pv 3) pa_nil)))
      (C8.pss_cut (ps_asg (pe_dget (hu_of hr) (pe_disp (pps_cons pe_str (pe_tup (pa_cons pe_int (pa_cons (pe_op op_sub pe_int pe_int) pa_nil))) (pps_cons pe_str (pe_tup (pa_cons pe_int (pa_cons pe_int pa_nil)))
            (pps_cons pe_str (pe_tup (pa_cons (pe_op op_sub pe_int pe_int) (pa_cons pe_int pa_nil))) (pps_cons pe_str (pe_tup (pa_cons pe_int (pa_cons pe_int pa_nil))) pps_nil)))) (by rfl) (by rfl) (fun z => by cases z) (by decide)) (pv 1) (fun _ _ => rfl))
          (pg_tup (by rfl) (pgs_cons (pg_name (i := 4) nd rfl (.inl rfl)) (pgs_cons (pg_name (i := 5) nd rfl (.inl rfl)) pgs_nil))))
      (C8.pss_cut (ps_for PassesOwn.never rfl (pi_range1 (by rfl) T.range (pa_cons (pe_op op_add (pe_callB call_len_seq (by rfl) T.len PySem.boot_len (pa_cons (pv 0) pa_nil)) (pe_callB call_len_str (by rfl) T.len PySem.boot_len (pa_cons (pe_ix ix_list (pv 0) pe_int (fun _ _ => rfl)) pa_nil))) pa_nil)) (pg_name (i := 6) nd rfl (.inl rfl))
        (pss_one (ps_for PassesOwn.never rfl (pi_range1 (by rfl) T.range (pa_cons (pe_callB call_len_seq (by rfl) T.len PySem.boot_len (pa_cons (pv 0) pa_nil)) pa_nil)) (pg_name (i := 7) nd rfl (.inl rfl))
          (pss_one (ps_for PassesOwn.never rfl (pi_range1 (by rfl) T.range (pa_cons (pe_callB call_len_str (by rfl) T.len PySem.boot_len (pa_cons (pe_ix ix_list (pv 0) pe_int (fun _ _ => rfl)) pa_nil)) pa_nil)) (pg_name (i := 8) nd rfl (.inl rfl))
            (pss_cons (ps_par (i := 9) (j := 10) rfl nd rfl rfl (by decide) rfl rfl (pa_cons (pe_op op_add (pv 7) (pv 4)) (pa_cons (pe_op op_add (pv 8) (pv 5)) pa_nil)) (by rfl))
            (pss_one (ps_if (PW.pt (pw_and (pt_chain op_le op_lt pe_int (pv 9) (pe_callB call_len_seq (by rfl) T.len PySem.boot_len (pa_cons (pv 0) pa_nil)))
                (pw_and (pt_chain op_le op_lt pe_int (pv 10) (pe_callB call_len_str (by rfl) T.len PySem.boot_len (pa_cons (pe_ix ix_list (pv 0) pe_int (fun _ _ => rfl)) pa_nil)))
                (pw_and1 (pt_cmpR op_eq (pe_ix ix_list (pe_ix ix_list (pv 2) (pv 9) (fun _ _ => rfl)) (pv 10) (fun _ _ => rfl)) pe_str (nomark _))))))
              (pss_one (ps_asg (pe_tup (pa_cons (pe_ix ix_list (pe_ix ix_list (pv 2) (pv 7) (fun _ _ => rfl)) (pv 8) (fun _ _ => rfl)) (pa_cons pe_str pa_nil)))
                (pg_tup (by rfl) (pgs_cons (pg_sub (pe_ix ix_list (pv 2) (pv 9) (fun _ _ => rfl)) (pv 10) set_list) (pgs_cons (pg_sub (pe_ix ix_list (pv 2) (pv 7) (fun _ _ => rfl)) (pv 8) set_list) pgs_nil)))))
              pss_nil))))))))
      (pss_one (ps_ret (pe_lc (own := [("_law_line", 3)]) (g := gName 3) (tt := tYes) rfl nd (pi_list (pv 2)) (blkOk_by (N := NTl) (sc := defScope sLawTilted) (by decide +kernel)) (fun _ _ _ _ _ => pg_name (i := 3) nd rfl (.inl rfl)) (fun _ _ _ _ _ => pts_nil)
        (fun _ _ _ _ _ => pe_joinK (K := K) rfl pe_str (pv 3))))))), ?_⟩
    have r0h : ∃ r0, g[0]? = some r0 ∧ r0.length = w := by
      have hg : 0 < g.length := by rw [R.1]; exact h1
      exact ⟨g[0], List.getElem?_eq_getElem hg, R.2 _ (List.getElem_mem hg)⟩
    obtain ⟨r0, e0, hr0⟩ := r0h
    have at0 : atI (rowV g) ((0 : Nat) : Int) = some (V.str (S r0)) := atI_nat (by rw [List.getElem?_map, e0]; all_goals rfl)
    have lg : (rowV g).length = h := by rw [List.length_map]; exact R.1
    have l0 : (S r0).length = w := by rw [S_len]; exact hr0
    have s0 : (S r0).length ≤ sizeLine := by rw [l0]; show _ ≤ 16777216; omega
    refine ⟨fun σ H1 => ∃ D ds v3, σ = [some (.ref a), some (sg c), some (.ref D), v3, none, none, none, none, none, none, none] ∧ CellsAt H1 D ds g ∧ ds.Nodup ∧ D ∉ ds ∧ H D = none ∧ (∀ b ∈ ds, H b = none) ∧ Same H H1, ?_, ?_⟩
    · refine ⟨_, rfl, a, rfl, ⟨_, hS⟩, fun D hD => lc_list (K := K) (a := a) (xs := rowV g) (fun i H1 => ∃ ds, H1 D = some (.lst (ds.map V.ref)) ∧ ds.length = i ∧ (∀ k b, ds[k]? = some b → H1 b = some (.lst ((g.getD k []).map sg))) ∧ ds.Nodup ∧ D ∉ ds ∧ (∀ b ∈ ds, H b = none) ∧ Same H H1)
        ⟨[], upd_same, rfl, fun k b e => by simp at e, List.nodup_nil, by simp, fun b hb => (by cases hb), same_new hD⟩ (fun i H1 _ ⟨_, _, _, _, _, _, _, sm⟩ => sm.seq hS) ?_ ?_⟩
      · rintro i x H1 hi ⟨ds, hL, hl, hrow, ndp, hDn, fr, sm⟩
        obtain ⟨r, hri, rfl⟩ := at_map hi
        have hrl : r.length = w := R.2 r (List.mem_of_getElem? hri)
        refine ⟨rfl, _, rfl, r, rfl, by omega, fun l hln => ?_⟩
        have nD : D ≠ l := ne_of_none hL hln
        have nl : ∀ b ∈ ds, b ≠ l := fun b hb => by
          obtain ⟨k, hk, rfl⟩ := List.mem_iff_getElem.mp hb
          exact ne_of_none (hrow k _ (List.getElem?_eq_getElem hk)) hln
        have hi' : i < g.length := (List.getElem?_eq_some_iff.mp hri).1
        refine ⟨_, by rw [upd_ne nD]; exact hL, ?_, ds ++ [l], ?_, by simp [hl], fun k b e => ?_, ?_, ?_, ?_, same_put (sm.trans (same_new hln)) hD⟩
        · rw [List.length_map]
          have := R.1
          show _ < 16777216
          omega
        · rw [upd_same, List.map_append]
          rfl
        · by_cases q : k < ds.length
          · rw [List.getElem?_append_left q] at e
            have hb := List.mem_of_getElem? e
            rw [upd_ne (fun z => hDn (by rw [← z]; exact hb)), upd_ne (nl b hb)]
            exact hrow k b e
          · rw [List.getElem?_append_right (by omega)] at e
            have hk : k = i := by
              have := (List.getElem?_eq_some_iff.mp e).1
              simp at this
              omega
            subst hk
            rw [hl, Nat.sub_self] at e
            cases e
            rw [upd_ne nD.symm, upd_same, List.getD_eq_getElem?_getD, hri]
            rfl
        · rw [List.nodup_append]
          exact ⟨ndp, by simp, fun x hx y hy => by rw [List.mem_singleton.mp hy]; exact nl x hx⟩
        · intro z
          rcases List.mem_append.mp z with z | z
          · exact hDn z
          · exact nD (List.mem_singleton.mp z)
        · intro b hb
          rcases List.mem_append.mp hb with hb | hb
          · exact fr b hb
          · rw [List.mem_singleton.mp hb]
            cases e : H l with
            | none => rfl
            | some o =>
              rw [sm _ _ e] at hln
              cases hln
      · rintro H1 ⟨ds, hL, hl, hrow, ndp, hDn, fr, sm⟩
        rw [lg] at hl
        exact ⟨D, ds, _, rfl, ⟨hL, by rw [hl, R.1], hrow⟩, ndp, hDn, hD, fr, sm⟩
    rintro σ H1 ⟨D, ds, v3, rfl, C1, ndp, hDn, hD0, fr, sm1⟩
    have hc4 : c = 108 ∨ c = 114 ∨ c = 117 ∨ c = 100 := by
      simp only [isT, decide_eq_true_eq, List.mem_cons, List.not_mem_nil, or_false] at hc
      exact hc
    refine ⟨fun σ H2 => σ = [some (.ref a), some (sg c), some (.ref D), v3, some (.int (dirs c).1), some (.int (dirs c).2), none, none, none, none, none] ∧ CellsAt H2 D ds g ∧ Same H H2, ?_, ?_⟩
    · intro p hp
      refine ⟨_, _, rfl, rfl, (by show 2 ≤ sizeLine; decide), fun p1 q1 => ⟨(by show 2 ≤ sizeLine; decide), fun p2 q2 => ⟨_, _, rfl, rfl, (by show 2 ≤ sizeLine; decide), fun p3 q3 => ⟨(by show 2 ≤ sizeLine; decide), fun p4 q4 => ?_⟩⟩⟩⟩
      have e0p := upd_same (H := H1) (a := p) (o := .dK [])
      have e1p := same_new (o := .tup [V.int 0, V.int (0 - 1)]) q1 _ _ e0p
      have e2p := same_new (o := .tup [V.int 0, V.int 1]) q2 _ _ e1p
      have e3p := same_new (o := .tup [V.int (0 - 1), V.int 0]) q3 _ _ e2p
      have e4p := same_new (o := .tup [V.int 1, V.int 0]) q4 _ _ e3p
      have z1 := same_new (o := .tup [V.int 1, V.int 0]) q4 _ _ (same_new (o := .tup [V.int (0 - 1), V.int 0]) q3 _ _ (same_new (o := .tup [V.int 0, V.int 1]) q2 _ _ (upd_same (H := upd H1 p (.dK [])) (a := p1) (o := .tup [V.int 0, V.int (0 - 1)]))))
      have z2 := same_new (o := .tup [V.int 1, V.int 0]) q4 _ _ (same_new (o := .tup [V.int (0 - 1), V.int 0]) q3 _ _ (upd_same (H := upd (upd H1 p (.dK [])) p1 (.tup [V.int 0, V.int (0 - 1)])) (a := p2) (o := .tup [V.int 0, V.int 1])))
      have z3 := same_new (o := .tup [V.int 1, V.int 0]) q4 _ _ (upd_same (H := upd (upd (upd H1 p (.dK [])) p1 (.tup [V.int 0, V.int (0 - 1)])) p2 (.tup [V.int 0, V.int 1])) (a := p3) (o := .tup [V.int (0 - 1), V.int 0]))
      have z4 := upd_same (H := upd (upd (upd (upd H1 p (.dK [])) p1 (.tup [V.int 0, V.int (0 - 1)])) p2 (.tup [V.int 0, V.int 1])) p3 (.tup [V.int (0 - 1), V.int 0])) (a := p4) (o := .tup [V.int 1, V.int 0])
      have sm4 := ((((same_new (o := .dK []) hp).trans (same_new (o := .tup [V.int 0, V.int (0 - 1)]) q1)).trans (same_new (o := .tup [V.int 0, V.int 1]) q2)).trans (same_new (o := .tup [V.int (0 - 1), V.int 0]) q3)).trans (same_new (o := .tup [V.int 1, V.int 0]) q4)
      have np : ∀ {b : Addr} {x y : V}, (upd (upd (upd (upd (upd H1 p (.dK [])) p1 (.tup [V.int 0, V.int (0 - 1)])) p2 (.tup [V.int 0, V.int 1])) p3 (.tup [V.int (0 - 1), V.int 0])) p4 (.tup [V.int 1, V.int 0])) b = some (.tup [x, y]) → b ≠ p := fun e z => by
        rw [z, e4p] at e
        cases e
      refine ⟨e4p, dkv p1 p2 p3 p4, rfl, by show 4 ≤ 15; decide, _, rfl, p, ?_⟩
      rw [dkv_merge]
      have fin : ∀ {b : Addr} {x y : Int}, (upd (upd (upd (upd (upd H1 p (.dK [])) p1 (.tup [V.int 0, V.int (0 - 1)])) p2 (.tup [V.int 0, V.int 1])) p3 (.tup [V.int (0 - 1), V.int 0])) p4 (.tup [V.int 1, V.int 0])) b = some (.tup [V.int x, V.int y]) → dirs c = (x, y) → valV (dkv p1 p2 p3 p4) (Sum.inr (S' c)) = some (.ref b) →
          ∃ v, V.ref p = V.ref p ∧ DGet (upd (upd (upd (upd (upd (upd H1 p (.dK [])) p1 (.tup [V.int 0, V.int (0 - 1)])) p2 (.tup [V.int 0, V.int 1])) p3 (.tup [V.int (0 - 1), V.int 0])) p4 (.tup [V.int 1, V.int 0])) p (.dK (dkv p1 p2 p3 p4))) p (sg c) (some v) ∧ gTup K 2 (gCons (gName 4) (gCons (gName 5) gNil)) v [some (.ref a), some (sg c), some (.ref D), v3, none, none, none, none, none, none, none] (upd (upd (upd (upd (upd (upd H1 p (.dK [])) p1 (.tup [V.int 0, V.int (0 - 1)])) p2 (.tup [V.int 0, V.int 1])) p3 (.tup [V.int (0 - 1), V.int 0])) p4 (.tup [V.int 1, V.int 0])) p (.dK (dkv p1 p2 p3 p4)))
            fun σ H2 => σ = [some (.ref a), some (sg c), some (.ref D), v3, some (.int (dirs c).1), some (.int (dirs c).2), none, none, none, none, none] ∧ CellsAt H2 D ds g ∧ Same H H2 := fun {b x y} eb ed ev => by
        have g := DGet.k (k := Sum.inr (S' c)) (upd_same (H := upd (upd (upd (upd (upd H1 p (.dK [])) p1 (.tup [V.int 0, V.int (0 - 1)])) p2 (.tup [V.int 0, V.int 1])) p3 (.tup [V.int (0 - 1), V.int 0])) p4 (.tup [V.int 1, V.int 0])) (a := p) (o := .dK (dkv p1 p2 p3 p4)))
        rw [ev] at g
        refine ⟨.ref b, rfl, g, b, _, rfl, SqT.of (by rw [upd_ne (np eb)]; exact eb), rfl, _, _, rfl, _, _, rfl, rfl, ?_⟩
        have sm5 : Same H1 (upd (upd (upd (upd (upd (upd H1 p (.dK [])) p1 (.tup [V.int 0, V.int (0 - 1)])) p2 (.tup [V.int 0, V.int 1])) p3 (.tup [V.int (0 - 1), V.int 0])) p4 (.tup [V.int 1, V.int 0])) p (.dK (dkv p1 p2 p3 p4))) := same_put sm4 hp
        rw [ed]
        exact ⟨rfl, C1.same sm5, sm1.trans sm5⟩
      rcases hc4 with rfl | rfl | rfl | rfl
      · exact fin z1 rfl rfl
      · exact fin z2 rfl rfl
      · exact fin z3 rfl rfl
      · exact fin z4 rfl rfl
    rintro σ H2 ⟨rfl, C2, sm2⟩
    have hd1 : -1 ≤ (dirs c).1 ∧ (dirs c).1 ≤ 1 ∧ -1 ≤ (dirs c).2 ∧ (dirs c).2 ≤ 1 := by
      rcases hc4 with rfl | rfl | rfl | rfl <;> decide
    have key := all_tilt (k := h + w) R ⟨by omega, by omega⟩ hc4
    generalize (dirs c).1 = d1 at hd1 key ⊢
    generalize (dirs c).2 = d2 at hd1 key ⊢
    have cont : ∀ {H' : Hp} {G : Grid} {i : Nat}, CellsAt H' D ds G → Rect h w G → i < h → ∃ b, ds[i]? = some b ∧ H' b = some (.lst ((G.getD i []).map sg)) ∧ atI (ds.map V.ref) (i : Int) = some (.ref b) ∧ b ∈ ds := fun {H' G i} C RG hi => by
      have hi' : i < ds.length := by rw [C.2.1, RG.1]; exact hi
      have e := List.getElem?_eq_getElem hi'
      exact ⟨ds[i], e, C.row e, atI_nat (by rw [List.getElem?_map, e]; all_goals rfl), List.getElem_mem hi'⟩
    have cellat : ∀ {G : Grid} {i j : Nat}, Rect h w G → i < h → j < w → atI ((G.getD i []).map sg) (j : Int) = some (sg (cell G i j)) := fun {G i j} RG hi hj => by
      have hl := getD_len RG hi
      refine atI_nat ?_
      rw [List.getElem?_map]
      unfold cell
      generalize G.getD i [] = l at hl ⊢
      rw [List.getD_eq_getElem?_getD, List.getElem?_eq_getElem (show j < l.length by omega)]
      rfl
    refine ⟨fun σ H3 => ∃ v6 v7 v8 v9 v10, σ = [some (.ref a), some (sg c), some (.ref D), v3, some (.int d1), some (.int d2), v6, v7, v8, v9, v10] ∧ CellsAt H3 D ds (itG d1 d2 h w (h + w) g) ∧ Same H H3, ?_, ?_⟩
    · refine ⟨_, rfl, a, _, rfl, .inl (sm2.seq hS), _, rfl, a, _, _, _, rfl, rfl, sm2.seq hS, at0, _, rfl, s0, _, _, rfl, rfl, ?_⟩
      rw [lg, l0]
      refine ⟨((h + w : Nat) : Int), congrArg (fun z => [V.int z]) (by omega), by omega, by omega, for_range (lo := 0) (n := ((h + w : Nat) : Int).toNat) (fun i σ H3 => ∃ v6 v7 v8 v9 v10, σ = [some (.ref a), some (sg c), some (.ref D), v3, some (.int d1), some (.int d2), v6, v7, v8, v9, v10] ∧ CellsAt H3 D ds (itG d1 d2 h w i g) ∧ Same H H3)
        ⟨none, none, none, none, none, rfl, C2, sm2⟩ ?_ fun σ H3 p => p⟩
      rintro i σ H3 hi ⟨v6, v7, v8, v9, v10, rfl, C3, sm3⟩
      have R3 := itG_rect (dr := d1) (dc := d2) R i
      refine ⟨_, rfl, a, _, rfl, .inl (sm3.seq hS), ?_⟩
      rw [lg]
      refine ⟨(h : Int), rfl, by omega, by omega, for_range (lo := 0) (n := ((h : Nat) : Int).toNat) (fun r σ H4 => ∃ v6 v7 v8 v9 v10, σ = [some (.ref a), some (sg c), some (.ref D), v3, some (.int d1), some (.int d2), v6, v7, v8, v9, v10] ∧ CellsAt H4 D ds ((List.range r).foldl (rowG d1 d2 h w) (itG d1 d2 h w i g)) ∧ Same H H4)
        ⟨_, v7, v8, v9, v10, rfl, C3, sm3⟩ ?_ fun σ H4 p => p⟩
      rintro r σ H4 hr4 ⟨v6, v7, v8, v9, v10, rfl, C4, sm4⟩
      rw [Int.toNat_natCast] at hr4
      have R4 : Rect h w ((List.range r).foldl (rowG d1 d2 h w) (itG d1 d2 h w i g)) := fold_rect (fun _ _ => rowG_rect) _ _ R3
      rw [show (List.range (r + 1)).foldl (rowG d1 d2 h w) (itG d1 d2 h w i g) = rowG d1 d2 h w ((List.range r).foldl (rowG d1 d2 h w) (itG d1 d2 h w i g)) r by rw [List.range_succ, List.foldl_append]; rfl]
      generalize (List.range r).foldl (rowG d1 d2 h w) (itG d1 d2 h w i g) = G4 at C4 R4 ⊢
      rw [Int.zero_add]
      refine ⟨_, rfl, a, _, _, _, rfl, rfl, sm4.seq hS, at0, _, rfl, s0, ?_⟩
      rw [l0]
      refine ⟨(w : Int), rfl, by omega, by omega, for_range (lo := 0) (n := ((w : Nat) : Int).toNat) (fun j σ H5 => ∃ v8 v9 v10, σ = [some (.ref a), some (sg c), some (.ref D), v3, some (.int d1), some (.int d2), v6, some (.int (r : Nat)), v8, v9, v10] ∧ CellsAt H5 D ds ((List.range j).foldl (fun G k => stepG d1 d2 h w G r k) G4) ∧ Same H H5)
        ⟨v8, v9, v10, rfl, C4, sm4⟩ ?_ fun σ H5 ⟨v8, v9, v10, e, p, q⟩ => ⟨_, _, v8, v9, v10, e, by rw [Int.toNat_natCast] at p; exact p, q⟩⟩
      rintro j σ H5 hj ⟨v8, v9, v10, rfl, C5, sm5⟩
      rw [Int.toNat_natCast] at hj
      have R5 : Rect h w ((List.range j).foldl (fun G k => stepG d1 d2 h w G r k) G4) := fold_rect (fun _ _ => step_rect) _ _ R4
      rw [show (List.range (j + 1)).foldl (fun G k => stepG d1 d2 h w G r k) G4 = stepG d1 d2 h w ((List.range j).foldl (fun G k => stepG d1 d2 h w G r k) G4) r j by rw [List.range_succ, List.foldl_append]; rfl]
      generalize (List.range j).foldl (fun G k => stepG d1 d2 h w G r k) G4 = G5 at C5 R5 ⊢
      rw [Int.zero_add]
      refine ⟨_, rfl, _, rfl, _, _, rfl, rfl, _, rfl, _, rfl, _, _, rfl, rfl, _, _, rfl, ?_⟩
      have stay : ¬ (0 ≤ (r : Int) + d1 ∧ (r : Int) + d1 < h ∧ 0 ≤ (j : Int) + d2 ∧ (j : Int) + d2 < w ∧ cell G5 ((r : Int) + d1).toNat ((j : Int) + d2).toNat = 46) → CellsAt H5 D ds (stepG d1 d2 h w G5 r j) := fun q => by
        rw [show stepG d1 d2 h w G5 r j = G5 from if_neg q]
        exact C5
      refine ⟨_, rfl, _, _, rfl, rfl, _, rfl, ?_⟩
      by_cases c1 : (0 : Int) ≤ (r : Int) + d1
      case neg =>
        rw [decide_eq_false c1]
        exact iteF ⟨_, rfl, iteF (iteF ⟨_, _, _, rfl, stay fun z => c1 z.1, sm5⟩)⟩
      rw [decide_eq_true c1]
      refine iteT ⟨_, rfl, a, _, rfl, .inl (sm5.seq hS), _, _, rfl, rfl, _, rfl, ?_⟩
      rw [lg]
      by_cases c2 : (r : Int) + d1 < ((h : Nat) : Int)
      case neg =>
        rw [decide_eq_false c2]
        exact iteF (iteF ⟨_, _, _, rfl, stay fun z => c2 z.2.1, sm5⟩)
      rw [decide_eq_true c2]
      refine iteT ⟨_, rfl, _, _, rfl, rfl, _, rfl, ?_⟩
      by_cases c3 : (0 : Int) ≤ (j : Int) + d2
      case neg =>
        rw [decide_eq_false c3]
        exact iteF ⟨_, rfl, iteF (iteF ⟨_, _, _, rfl, stay fun z => c3 z.2.2.1, sm5⟩)⟩
      rw [decide_eq_true c3]
      refine iteT ⟨_, rfl, a, _, _, _, rfl, rfl, sm5.seq hS, at0, _, rfl, s0, _, _, rfl, rfl, _, rfl, ?_⟩
      rw [l0]
      by_cases c4 : (j : Int) + d2 < ((w : Nat) : Int)
      case neg =>
        rw [decide_eq_false c4]
        exact iteF (iteF ⟨_, _, _, rfl, stay fun z => c4 z.2.2.2.1, sm5⟩)
      rw [decide_eq_true c4]
      obtain ⟨lo, hlo⟩ : ∃ lo : Nat, (r : Int) + d1 = lo := ⟨((r : Int) + d1).toNat, by omega⟩
      obtain ⟨ri, hri⟩ : ∃ ri : Nat, (j : Int) + d2 = ri := ⟨((j : Int) + d2).toNat, by omega⟩
      unfold stepG at stay ⊢
      rw [hlo, hri, Int.toNat_natCast, Int.toNat_natCast] at stay ⊢
      have lo1 : lo < h := by omega
      have ri1 : ri < w := by omega
      obtain ⟨bl, ebl, hbl, abl, mbl⟩ := cont C5 R5 lo1
      obtain ⟨br, ebr, hbr, abr, mbr⟩ := cont C5 R5 hr4
      refine iteT ⟨_, rfl, _, rfl, D, _, _, _, rfl, rfl, SqL.of C5.1, (by rw [hlo]; exact abl), _, rfl, bl, _, _, _, rfl, rfl, SqL.of hbl, (by rw [hri]; exact cellat R5 lo1 ri1), rfl, _, rfl, ?_⟩
      rw [show decide (sg (cell G5 lo ri) = V.str (Str.ofString ".")) = (cell G5 lo ri == 46) from dL _ 46]
      by_cases c5 : cell G5 lo ri = 46
      case neg =>
        rw [beq_eq_false_iff_ne.mpr c5]
        exact iteF ⟨_, _, _, rfl, stay fun z => c5 z.2.2.2.2, sm5⟩
      rw [beq_iff_eq.mpr c5, if_pos ⟨by omega, by omega, by omega, by omega, c5⟩]
      refine iteT ⟨_, rfl, _, rfl, D, _, _, _, rfl, rfl, SqL.of C5.1, abr, _, rfl, br, _, _, _, rfl, rfl, SqL.of hbr, cellat R5 hr4 hj, (by show 2 ≤ sizeLine; decide), fun p hp => ?_⟩
      have C6 := C5.same (same_new (o := .tup [sg (cell G5 r j), V.str (Str.ofString ".")]) hp)
      have sm6 := sm5.trans (same_new (o := .tup [sg (cell G5 r j), V.str (Str.ofString ".")]) hp)
      have C7 := C6.put (v := cell G5 r j) (j := ri) ndp hDn ebl
      have R7 := put_rect (i := lo) (j := ri) (v := cell G5 r j) R5
      have C8' := C7.put (v := 46) (j := j) ndp hDn ebr
      have ll := getD_len R5 lo1
      have lr := getD_len R7 hr4
      refine ⟨p, _, rfl, SqT.of upd_same, rfl, _, _, rfl, _, rfl, _, rfl, D, _, _, _, rfl, rfl, SqL.of C6.1, (by rw [hlo]; exact abl), _, rfl, bl, _, _, ri, rfl, rfl, C6.row ebl, ?_, ?_⟩
      · rw [hri, List.length_map, ll]
        unfold ixN
        rw [if_pos (by omega), if_pos (by omega), Int.toNat_natCast]
      rw [← List.map_set]
      obtain ⟨br2, ebr2, hbr2, abr2, mbr2⟩ := cont C7 R7 hr4
      rw [ebr] at ebr2
      cases ebr2
      refine ⟨_, _, rfl, _, rfl, _, rfl, D, _, _, _, rfl, rfl, SqL.of C7.1, abr, _, rfl, br, _, _, j, rfl, rfl, hbr2, ?_, ?_⟩
      · rw [List.length_map, lr]
        unfold ixN
        rw [if_pos (by omega), if_pos (by omega), Int.toNat_natCast]
      refine ⟨rfl, _, _, _, rfl, ?_, same_put (same_put sm6 (fr bl mbl)) (fr br mbr)⟩
      rw [show (List.map sg (List.getD (putc G5 lo ri (cell G5 r j)) r [])).set j (V.str (Str.ofString ".")) = List.map sg ((List.getD (putc G5 lo ri (cell G5 r j)) r []).set j 46) from List.map_set.symm]
      exact C8'
    rw [key]
    rintro σ H3 ⟨v6, v7, v8, v9, v10, rfl, C3, sm3⟩
    have Rt := tilt_rect (c := c) R
    refine ⟨_, rfl, D, rfl, ⟨_, SqL.of C3.1⟩, fun E2 hE2 => lc_list (K := K) (a := D) (xs := ds.map V.ref) (fun i H4 => Same H3 H4 ∧ H4 E2 = some (.lst (((tilt h w g c).take i).map fun r => V.str (S r))))
      ⟨same_new hE2, upd_same⟩ (fun i H4 _ ⟨sm, _⟩ => SqL.of (sm _ _ C3.1)) ?_ ?_⟩
    · rintro i x H4 hi ⟨sm, hL⟩
      obtain ⟨b, hb, rfl⟩ := at_map hi
      have hi' : i < (tilt h w g c).length := by rw [← C3.2.1]; exact (List.getElem?_eq_some_iff.mp hb).1
      have hrow := getD_at hi'
      have hlr : ((tilt h w g c).getD i []).length = w := getD_len Rt (by rw [← Rt.1]; exact hi')
      generalize hq : (tilt h w g c).getD i [] = r at hrow hlr
      have hbr := sm _ _ (C3.row hb)
      rw [hq] at hbr
      refine ⟨rfl, ⟨_, rfl⟩, _, rfl, _, b, r.map fun c => S [c], rfl, rfl, .inl ?_, ?_, _, hL, ?_, ?_⟩
      · rw [List.map_map]
        exact SqL.of hbr
      · rw [sum_ones, List.length_map]
        show _ + _ * 0 ≤ _
        omega
      · rw [List.length_map, List.length_take]
        have := Rt.1
        show _ < 16777216
        omega
      · refine ⟨same_put sm hE2, ?_⟩
        rw [upd_same, take_map_snoc hrow, join_signs]
    · rintro H4 ⟨sm, hL⟩
      rw [List.length_map, C3.2.1, List.take_length] at hL
      refine k _ E2 (sm3.trans sm) ?_ hL
      cases e : H E2 with
      | none => rfl
      | some o =>
        rw [sm3 _ _ e] at hE2
        cases hE2
end
end TU
end
section
set_option Elab.async false
set_option maxRecDepth 100000
set_option linter.all false
namespace TU
open PySem L2 TM TK TB
open PySem.Spec PyProof.Rows TH
section
variable {X : Cx} {n : Nat}
end
theorem fnR_n {P : Program} {w : World} {K : PySem.W.Frag} {mg : Str → Option Value} {base : Heap} {CX : CXT} {n k : Nat} {f : Addr} {sp : Sp} (F : FnR P w K mg base CX k f sp) : FnRn n P w K mg base CX k f sp := fun A outer s H us vs Q E _ hr e0 r hs => F A outer s H us vs Q E hr e0 r hs
theorem fnOk_n {P : Program} {w : World} {K : PySem.W.Frag} {mg : Str → Option Value} {base : Heap} {CX : CXT} {n k : Nat} {f : Addr} {fd : FuncData} {ps : List Str} {sp : Sp} (F : FnOk P w K mg base CX k f fd ps sp) (b : Binds K fd ps []) : FnRn n P w K mg base CX k f sp := fnR_n ((F.raw b .nil).imp fun vs H Q E h => by rw [List.append_nil]; exact h)
section
variable {P : Program} {w : World} {K : PySem.W.Frag} {mg : Str → Option Value} {base : Heap} {fT : Addr} {fdT : FuncData}
end
end TU
end
section
set_option Elab.async false
set_option maxRecDepth 100000
set_option linter.all false
namespace TW
open PySem L2 TM TK TB TU
open PySem.Spec PyProof.Rows TH
section
variable {X : Cx} {n : Nat}
end
theorem eqv_rows : ∀ g g' : Grid, PyData.eqvAll (rowD g) (rowD g') = decide (g = g')
  | [], [] => rfl
  | [], _ :: _ => by simp [PyData.eqvAll]
  | _ :: _, [] => by simp [PyData.eqvAll]
  | x :: g, y :: g' => by
    have e : PyData.eqv (.str (S x)) (.str (S y)) = decide (x = y) := by
      show (S x == S y) = _
      rw [Bool.eq_iff_iff]
      simp [beq_iff_eq]
    show PyData.eqvAll (PyData.str (S x) :: rowD g) (PyData.str (S y) :: rowD g') = _
    rw [PyData.eqvAll, e, eqv_rows g g']
    rw [Bool.eq_iff_iff]
    simp
theorem eqv_tup (g g' : Grid) : PyData.eqv (.tuple (rowD g)) (.tuple (rowD g')) = decide (g = g') := eqv_rows g g'
section
variable {P : Program} {w : World} {K : PySem.W.Frag} {mg : Str → Option Value} {base : Heap} {C D : Addr}
theorem scTe : FnScope ["self", "other"] ["self", "other"] (defScope sTrayEq) := ⟨rfl, rfl, rfl, by decide +kernel, rfl, by decide +kernel, by decide +kernel⟩
def spTe (K : PySem.W.Frag) (D : Addr) : Sp := fun vs H Q _ => ∃ (p q : Addr) (h w h' w' : Nat) (g g' : Grid), vs = [.ref p, .ref q] ∧ TrayAt K D H p g ∧ TrayAt K D H q g' ∧ VG h w g ∧ VG h' w' g' ∧ Q (.bl (decide (g = g'))) H
theorem ok_te {f : Addr} {fd : FuncData} (F : Fun K "__eq__" "Tray.__eq__" sTrayEq f fd) (T : TxtW K mg) (CT : ClsT K mg D) (IC : C8.InsC K D) : FnOk P w K mg base CX0 1 f fd ["self", "other"] (spTe K D) := by
  refine F.ok scTe (fun vs H Q E h => ?_) (fun cdv A outer s H vs Q E hr h => ?_)
  · obtain ⟨p, q, h, w, h', w', g, g', rfl, _⟩ := h
    rfl
  · obtain ⟨p, q, h, w, h', w', g, g', rfl, ⟨dp, ap, hp, hSp⟩, ⟨dq, aq, hq, hSq⟩, V1, V2, k⟩ := h
    refine ⟨_, pss_one (ps_ret (pe_and (pe_callB (C8.call_isC IC) (by rfl) T.isi (by decide +kernel) (pa_cons (pv 1) (pa_cons (pe_glob (v := .ref D) rfl CT.mgC rfl) pa_nil)))
      (pe_one (pe_cmpR (op_eqD hr.units) (pe_fld (pv 0) rfl) (pe_fld (pv 1) rfl) (nomark _))))), ?_⟩
    refine ⟨_, rfl, q, dq, _, rfl, hq, true, rfl, iteT ?_⟩
    refine ⟨_, rfl, p, D, dp, _, _, rfl, hp, CT.cl, CT.nR, rfl, ?_⟩
    refine ⟨_, rfl, q, D, dq, _, _, rfl, hq, CT.cl, CT.nR, rfl, ?_⟩
    refine ⟨_, _, .tup hSp (row_all _), .tup hSq (row_all _), row_shaped V1, row_shaped V2, ?_⟩
    rw [eqv_tup]
    exact k
end
end TW
end
namespace TW
end TW
section
set_option Elab.async false
set_option maxRecDepth 100000
set_option linter.all false
namespace TR
open PySem PySem.Spec PyProof.Rows L2 TM TK TB TP TH
theorem pssn_cut {X : Cx} {n : Nat} {st : Stmt} {rest : List Stmt} {t u : TS} (h1 : PSn n X st t) (h2 : PSsn n X rest u) : PSsn n X (st :: rest) (C8.tCut t u) := by
  intro pins s σ H D hn I h
  obtain ⟨Mid, hm, hu⟩ := h
  refine wpAny_execs_cons (thnN hn (h1 pins s σ H { D with nx := Mid } hn I hm) fun f s1 hn1 q => ?_)
  cases f with
  | next =>
    obtain ⟨σ', H', I', q⟩ := q
    exact h2 pins s1 σ' H' D hn1 I' (hu σ' H' q)
  | ret v => exact q
  | brk => exact q
  | cont => exact q
def tCallO (C : Addr) (sp : Sp) (E : XK) (tf : TE) (t : TA) : TE := fun σ H Q => tf σ H fun y H1 => ∃ a, y = V.ref a ∧ t σ H1 fun vs H2 => (∃ dx fs, H2 a = some (HO.ins C dx fs)) ∧ sp (V.ref a :: vs) H2 Q E
/-- f(e, ..), f an instance with its own __call__ -/
theorem pe_callO {X : Cx} {CX : CXT} {k : Nat} {C : Addr} {sp : Sp} {E : XK} {e fe : Expr} {es : List Expr} {tf : TE} {t : TA} {pos : Pos} {g : Addr} (hf : PE X fe tf) (c : StX.CallO X.K C g) (F : FnR X.prog X.w X.K X.mg X.base CX k g sp) (hr : Room k X.A) (hx : Passes CX X E) (ha : PA X (e :: es) t)
    (ht : eval (.Call fe (e :: es) [] pos) X.env = (do callWith pos (← eval fe X.env) [] (backTo pos (starEach (e :: es) X.env)) (backToKw pos (keywordEach [] X.env))) := by rfl)
    (he : starEach (e :: es) X.env = (false, eval e X.env) :: starEach es X.env := by rfl) (hpl : (backTo pos (starEach es X.env)).any (·.1) = false := by rfl) : PE X (.Call fe (e :: es) [] pos) (tCallO C sp E tf t) := by
  refine ⟨fun pins s σ H Q I h => ?_⟩
  refine Call_ (thn (hf.run pins s σ H _ I h) fun u s1 ⟨y, H1, I1, ry, a, ey, q⟩ => ?_) ht
  subst ey
  obtain rfl : u = Value.ref a := ry
  refine StX.callO_with (thn (ha.run pos pins s1 σ H1 _ I1 q) fun us s2 ⟨vs, H2, I2, r, hi, q2⟩ => ?_) he hpl
  obtain ⟨ox, od, J, hd⟩ := StX.insC_at I2 (.inr hi)
  exact ⟨⟨C, ox, od, J, hd⟩, StX.run_callO c F hr hx I2 (.inr hi) r q2⟩
def plV (w k : Nat) : List V := [.int ((k : Int) / w), .int ((k : Int) % w)]
def plK (w k : Nat) : List Key := [Sum.inl ((k : Int) / w), Sum.inl ((k : Int) % w)]
theorem plK_inj {w a b : Nat} (e : plK w a = plK w b) : a = b := by
  have h1 : (a : Int) / w = (b : Int) / w := by
    injection e with e1 e2
    exact Sum.inl.inj e1
  have h2 : (a : Int) % w = (b : Int) % w := by
    injection e with e1 e2
    injection e2 with e3 e4
    exact Sum.inl.inj e3
  have ha := Int.mul_ediv_add_emod (a : Int) w
  have hb := Int.mul_ediv_add_emod (b : Int) w
  rw [h1, h2] at ha
  have : (a : Int) = b := ha.symm.trans hb
  omega
theorem valV_no {κ : Type} [DecidableEq κ] {S : List Nat} {f : Nat → κ} {v : Nat → V} {k : κ} (h : ∀ m ∈ S, f m ≠ k) : valV (S.map fun m => (f m, v m)) k = none := by
  unfold valV
  rw [Option.map_eq_none_iff, List.find?_eq_none]
  intro x hx
  obtain ⟨m, hm, rfl⟩ := List.mem_map.mp hx
  simpa using h m hm
theorem valV_at {κ : Type} [DecidableEq κ] {f : Nat → κ} {v : Nat → V} : ∀ {S : List Nat} {m : Nat}, m ∈ S → (∀ a ∈ S, f a = f m → a = m) → valV (S.map fun m => (f m, v m)) (f m) = some (v m)
  | [], _, h, _ => by cases h
  | a :: S, m, h, hi => by
    unfold valV
    rw [List.map_cons, List.find?_cons]
    by_cases q : f a = f m
    · have e := hi a List.mem_cons_self q
      subst e
      simp
    · have : decide (f a = f m) = false := decide_eq_false q
      rw [this]
      have hm : m ∈ S := by
        rcases List.mem_cons.mp h with z | z
        · subst z
          exact absurd rfl q
        · exact z
      exact valV_at hm fun b hb => hi b (List.mem_cons_of_mem _ hb)
theorem like_tilts {n m : Nat} : ∀ (t : List Nat) {g : Grid}, Rect n m g → Like g (tilts n m t g)
  | [], _, _ => ⟨List.Perm.refl _, fun h => h⟩
  | c :: t, _, R => (like_tilt (c := c) R).trans (like_tilts t (tilt_rect R))
theorem mem_srt {l : List Nat} {c : Nat} : c ∈ srt l ↔ c ∈ l := (srt_perm l).mem_iff
section
variable {P : Program} {w_ : World} {K : PySem.W.Frag} {mg : Str → Option Value} {base : Heap} {C D CU fRs fCl pM gM : Addr} {n : Nat} {fdM : FuncData}
end
end TR
end
namespace TR
end TR
section
set_option maxHeartbeats 4000000
set_option linter.all false
namespace TM
theorem flatten_len {h w : Nat} {g : Grid} (R : Rect h w g) : g.flatten.length = h * w := by
  rw [List.length_flatten]
  have : g.map List.length = List.replicate h w := List.eq_replicate_iff.mpr ⟨by rw [List.length_map]; exact R.1, fun x hx => by
    obtain ⟨l, hl, rfl⟩ := List.mem_map.mp hx
    exact R.2 l hl⟩
  rw [this]
  simp
theorem pw_46 {f : Nat → Nat} (h : f 46 = 46) : ∀ n, pw f n 46 = 46
  | 0 => rfl
  | n + 1 => by
    show f (pw f n 46) = 46
    rw [pw_46 h n, h]
end TM
end
section
set_option Elab.async false
set_option maxRecDepth 100000
set_option linter.all false
namespace TR
open PySem PySem.Spec PyProof.Rows L2 TM TK TB TP TH TU
section
variable {P : Program} {w_ : World} {K : PySem.W.Frag} {mg : Str → Option Value} {base : Heap} {C D CU fRs fCl fI fEx fCf fCn fN pM gM pH gH pW gW : Addr} {n : Nat} {fdM fdH fdW fdCf fdCn fdN : FuncData}
theorem mb_let {h w : Nat} {g : Grid} (V : VG h w g) : ∀ c ∈ mb g.flatten, 97 ≤ c ∧ c < 123 := fun c hc => by
  have h1 := mem_mb.mp hc
  obtain ⟨r, hr, hcr⟩ := List.mem_flatten.mp h1.1
  rcases V.ok r hr c hcr with h2 | h2
  · exact absurd h2 h1.2
  · exact ⟨by omega, by omega⟩
def plD (w k : Nat) : PyData := .tuple [.int ((k : Int) / w), .int ((k : Int) % w)]
theorem pl_dp {H : Hp} {a : Addr} {w k : Nat} (h : H a = some (.tup (plV w k))) : Dp K H (.ref a) (plD w k) := .tup (SqT.of h) (.cons (.int _) (.cons (.int _) .nil))
theorem pl_shaped (w k : Nat) : SeqAt.shaped (plD w k) = true := rfl
theorem pl_eqv (w a b : Nat) : PyData.eqv (plD w a) (plD w b) = decide (a = b) := by
  have h1 : PyData.eqv (plD w a) (plD w b) = (decide ((a : Int) / w = (b : Int) / w) && (decide ((a : Int) % w = (b : Int) % w) && true)) := by
    unfold plD
    simp [PyData.eqv, PyData.eqvAll]
    rfl
  rw [h1]
  by_cases q : a = b
  · subst q
    simp
  · rw [decide_eq_false q]
    have : ¬ ((a : Int) / w = (b : Int) / w ∧ (a : Int) % w = (b : Int) % w) := fun z => q (plK_inj (w := w) (by unfold plK; rw [z.1, z.2]))
    by_cases q1 : (a : Int) / w = (b : Int) / w
    · rw [decide_eq_true q1, decide_eq_false (fun z => this ⟨q1, z⟩)]
      rfl
    · rw [decide_eq_false q1]
      rfl
end
end TR
end
section
set_option Elab.async false
set_option maxRecDepth 100000
set_option linter.all false
namespace TM
/-- a circle's length, looked for -/
def ringLen (φ : Nat → Nat) (s : Nat) : Nat := ((List.range 26).find? fun i => pw φ (i + 1) s == s).getD 0 + 1
theorem ring_len {φ : Nat → Nat} {s L : Nat} (h : Ring φ s L) (h26 : L ≤ 26) : Ring φ s (ringLen φ s) := by
  have hL := h.one
  have hm : L - 1 ∈ List.range 26 := List.mem_range.mpr (by omega)
  have hp : (pw φ (L - 1 + 1) s == s) = true := by
    rw [show L - 1 + 1 = L by omega, h.back]
    exact beq_self_eq_true s
  have : ringLen φ s = L := by
    unfold ringLen
    cases e : (List.range 26).find? fun i => pw φ (i + 1) s == s with
    | none =>
      have := List.find?_eq_none.mp e _ hm
      exact absurd hp this
    | some i =>
      show i + 1 = L
      have h1 := List.find?_some e
      have h2 : pw φ (i + 1) s = s := by simpa using h1
      have h3 : L ≤ i + 1 := by
        rcases Nat.lt_or_ge (i + 1) L with q | q
        · exact absurd h2 (h.no _ (by omega) q)
        · exact q
      rcases Nat.lt_or_ge (L - 1) i with q | q
      · obtain ⟨_, as, bs, e1, e2⟩ := List.find?_eq_some_iff_append.mp e
        have hr : List.range 26 = as ++ i :: bs := e1
        have hl : as.length = i := by
          have h4 : (as ++ i :: bs)[as.length]? = some i := by simp
          rw [← hr] at h4
          have h5 := (List.getElem?_eq_some_iff.mp h4).1
          rw [List.length_range] at h5
          rw [List.getElem?_range h5] at h4
          exact Option.some.inj h4
        have h6 : L - 1 ∈ as := by
          have h7 : (List.range 26)[L - 1]? = some (L - 1) := List.getElem?_range (by omega)
          rw [hr, List.getElem?_append_left (by omega)] at h7
          exact List.mem_of_getElem? h7
        have := e2 _ h6
        rw [hp] at this
        cases this
      · omega
  rw [this]
  exact h
def orb (φ : Nat → Nat) (s : Nat) : List Nat := (List.range (ringLen φ s)).map fun i => pw φ i s
/-- the circles from each of the marbles on that is not yet seen -/
def cir (φ : Nat → Nat) : List Nat → List Nat → List (List Nat)
  | [], _ => []
  | s :: r, seen => if s ∈ seen then cir φ r seen else orb φ s :: cir φ r (seen ++ orb φ s)
theorem onto_nxt {f : Nat → Nat} {A B : List Nat} (T : Two f A B) : Onto (nxt A B) (mb A) :=
  ⟨fun c hc => by rw [T.nxt hc]; exact T.onto.mem c hc, fun c hc d hd e => T.onto.inj c hc d hd (by rw [← T.nxt hc, ← T.nxt hd]; exact e)⟩
end TM
namespace TR
open PySem PySem.Spec PyProof.Rows L2 TM TK TB TP TH TU
section
variable {X : Cx}
end
section
variable {P : Program} {w_ : World} {K : PySem.W.Frag} {mg : Str → Option Value} {base : Heap} {C D CP CU fRs fCl fCf fAt pM gM : Addr} {n : Nat} {fdM fdCf fdAt : FuncData}
end
end TR
end
section
set_option Elab.async false
set_option maxRecDepth 100000
set_option linter.all false
namespace TM
/-- the circles are apart from each other -/
theorem cir_ok {φ : Nat → Nat} {M : List Nat} (O : Onto φ M) (hM : ∀ c ∈ M, 97 ≤ c ∧ c < 123) : ∀ (r seen : List Nat), (∀ s ∈ r, s ∈ M) → (∀ c ∈ seen, c ∈ M) → (∀ c ∈ seen, φ c ∈ seen) → seen.Nodup →
    (seen ++ (cir φ r seen).flatten).Nodup ∧ ∀ c ∈ (cir φ r seen).flatten, c ∈ M
  | [], seen, _, _, _, nd => by simpa [cir] using nd
  | s :: r, seen, hr, hs, cl, nd => by
    have hsM := hr s List.mem_cons_self
    have hr' : ∀ s ∈ r, s ∈ M := fun x hx => hr x (List.mem_cons_of_mem _ hx)
    unfold cir
    split
    · exact cir_ok O hM r seen hr' hs cl nd
    · rename_i hn
      obtain ⟨L0, L26, hL0⟩ := ring_ex O hM hsM
      have hL := ring_len hL0 L26
      have clp : ∀ n c, c ∈ seen → pw φ n c ∈ seen := fun n c hc => by
        induction n with
        | zero => exact hc
        | succ n ih => exact cl _ ih
      have mo : ∀ c, c ∈ orb φ s ↔ ∃ i, i < ringLen φ s ∧ pw φ i s = c := fun c => by
        unfold orb
        rw [List.mem_map]
        exact ⟨fun ⟨i, hi, e⟩ => ⟨i, List.mem_range.mp hi, e⟩, fun ⟨i, hi, e⟩ => ⟨i, List.mem_range.mpr hi, e⟩⟩
      have oM : ∀ c ∈ orb φ s, c ∈ M := fun c hc => by
        obtain ⟨i, _, rfl⟩ := (mo c).mp hc
        exact pw_mem O.mem hsM i
      have on : (orb φ s).Nodup := by
        unfold orb
        refine List.pairwise_map.mpr ((List.pairwise_lt_range (n := ringLen φ s)).imp_of_mem fun {a b} ha hb hab e => ?_)
        have := Ring.step O hsM hL (List.mem_range.mp ha) (List.mem_range.mp hb) e
        omega
      have nd2 : (seen ++ orb φ s).Nodup := by
        rw [List.nodup_append]
        refine ⟨nd, on, fun a ha b hb e => ?_⟩
        subst e
        obtain ⟨i, hi, e⟩ := (mo a).mp hb
        refine hn ?_
        have h1 := clp (ringLen φ s - i) a ha
        rw [← e, ← pw_add, show ringLen φ s - i + i = ringLen φ s by omega, hL.back] at h1
        exact h1
      have cl2 : ∀ c ∈ seen ++ orb φ s, φ c ∈ seen ++ orb φ s := fun c hc => by
        rcases List.mem_append.mp hc with h | h
        · exact List.mem_append_left _ (cl c h)
        · refine List.mem_append_right _ ?_
          obtain ⟨i, hi, rfl⟩ := (mo c).mp h
          refine (mo _).mpr ?_
          rcases Nat.lt_or_ge (i + 1) (ringLen φ s) with q | q
          · exact ⟨i + 1, q, rfl⟩
          · refine ⟨0, hL.one, ?_⟩
            have : i + 1 = ringLen φ s := by omega
            show s = φ (pw φ i s)
            have e : φ (pw φ i s) = pw φ (i + 1) s := rfl
            rw [e, this, hL.back]
      have hs2 : ∀ c ∈ seen ++ orb φ s, c ∈ M := fun c hc => by
        rcases List.mem_append.mp hc with h | h
        · exact hs c h
        · exact oM c h
      obtain ⟨i1, i2⟩ := cir_ok O hM r (seen ++ orb φ s) hr' hs2 cl2 nd2
      refine ⟨by rw [List.flatten_cons, ← List.append_assoc]; exact i1, fun c hc => ?_⟩
      rw [List.flatten_cons] at hc
      rcases List.mem_append.mp hc with h | h
      · exact oM c h
      · exact i2 c h
def backN (cs : List (List Nat)) : Nat := cs.foldl (fun a o => Nat.lcm a o.length) 1
theorem orb_one {φ : Nat → Nat} {s : Nat} : 1 ≤ (orb φ s).length := by
  unfold orb ringLen
  rw [List.length_map, List.length_range]
  omega
theorem cir_one {φ : Nat → Nat} : ∀ (r seen : List Nat), ∀ o ∈ cir φ r seen, 1 ≤ o.length
  | [], _, o, h => by cases h
  | s :: r, seen, o, h => by
    unfold cir at h
    split at h
    · exact cir_one r seen o h
    · rcases List.mem_cons.mp h with rfl | h
      · exact orb_one
      · exact cir_one r _ o h
end TM
namespace TR
open PySem PySem.Spec PyProof.Rows L2 TM TK TB TP TH TU
section
variable {X : Cx} {n : Nat}
/-- a walk whose source wants n tokens out -/
def PIn (n : Nat) (X : Cx) (tg iter : Expr) (wi : TI) : Prop := ∀ (pins : List (Addr × Obj)) (s : Shared) (σ : L2.St) (H : Hp) (R : It → Hp → Prop), n ≤ s.toks → Inv X pins σ H s → wi σ H R →
  wpAny (model X.prog X.w) X.A (eval iter X.env) (fun v s1 => wpAny (model X.prog X.w) X.A (pyIter v) (PIE X pins σ tg R) X.xe s1) X.xe s
end
section
variable {X : Cx}
end
section
variable {P : Program} {w_ : World} {K : PySem.W.Frag} {mg : Str → Option Value} {base : Heap} {C D fCi : Addr} {n : Nat}
/-- the circles between a first and a second round -/
def cirs (h w : Nat) (t : List Nat) (g : Grid) : List (List Nat) := cir (nxt (tilts h w t g).flatten (tilts h w t (tilts h w t g)).flatten) (srt (mb (tilts h w t g).flatten)) []
end
end TR
end
section
set_option Elab.async false
set_option maxRecDepth 100000
set_option linter.all false
namespace TG
open PySem PySem.Spec PyProof.Rows L2 TH GenW
def Sg (M : Model) (A : Around) (Φ : End → Shared → Prop) (c : Code) (t : Sem PySem.Fin) (fs : List Frame) (s : Shared) : Prop :=
  ∀ (Γ : PySem.Ctx) (p : Pos), Γ.code = c → Γ.Woken A → ∃ e s', Runs M Γ p t fs s e s' ∧ Φ e s'
section
variable {M : Model} {A : Around} {Φ : End → Shared → Prop} {c : Code} {fs : List Frame} {s : Shared}
/-- a part that raises nothing -/
theorem sg_wrap {α : Type} {m : Sem α} {K : α → Sem PySem.Fin} {J : Value → Sem PySem.Fin} {gd : Bool → Bool} {lv : List Value → List Value} (h : wpAny M (A.over c fs) m (fun a s' => Sg M A Φ c (K a) fs s') (fun _ _ => False) s) : Sg M A Φ c (m.wrap K J gd lv) fs s := fun Γ p hc hΓ => by
  subst hc
  exact runs_wrap_of_wp K J gd lv m (h (Γ.over fs) p (hΓ.over fs)) (fun a p' s' z => z Γ p' rfl hΓ) fun _ _ _ z => z.elim
theorem sg_bindw {α β : Type} {m : Sem α} {f : α → Sem β} {K : β → Sem PySem.Fin} {J : Value → Sem PySem.Fin} {gd : Bool → Bool} {lv : List Value → List Value} (h : wpAny M (A.over c fs) m (fun a s' => Sg M A Φ c ((f a).wrap K J gd lv) fs s') (fun _ _ => False) s) : Sg M A Φ c ((m >>= f).wrap K J gd lv) fs s := by
  have e : (m >>= f).wrap K J gd lv = m.wrap (fun a => (f a).wrap K J gd lv) J gd lv := by
    rw [Sem.bind_eq_wrap']
    exact Sem.wrap_wrap ..
  rw [e]
  exact sg_wrap h
theorem sg_at {p' : Pos} {k : Unit → Sem PySem.Fin} (h : Sg M A Φ c (k ()) fs s) : Sg M A Φ c (.at p' k) fs s := sg_wrap (m := standAt p') (K := k) (J := .raise) (gd := id) (lv := id) (wpAny_standAt h)
theorem sg_point {l : List Value} {k : Unit → Sem PySem.Fin} (h : Sg M A Φ c (k ()) fs s) : Sg M A Φ c (.point l k) fs s := sg_wrap (m := point) (K := k) (J := .raise) (gd := id) (lv := fun _ => l) (wpAny_point h)
theorem sg_call {c' : Code} {h : Option Value} {g : Bool} {l : List Value} {k : Result → Sem PySem.Fin} (z : ∀ p, Sg M A Φ c' (M.den c') (.ret k h g l c p [] :: fs) s) : Sg M A Φ c (.call c' h g l k) fs s := fun Γ p hc hΓ => by
  subst hc
  obtain ⟨e, s', hr, he⟩ := z p (Γ.goto c') p rfl (hΓ.goto c')
  exact ⟨e, s', runs_call_seg hr, he⟩
theorem sg_leaf {k : Result → Sem PySem.Fin} {h : Option Value} {g : Bool} {l kp : List Value} {c₁ : Code} {p₁ : Pos} (r : Result) (z : Sg M A Φ c₁ (k r) fs s) : Sg M A Φ c (leafOf r) (.ret k h g l c₁ p₁ kp :: fs) s := fun Γ p hc hΓ => by
  subst hc
  obtain ⟨e, s', hr, he⟩ := z (Γ.goto c₁) p₁ rfl (hΓ.goto c₁)
  exact ⟨e, s', Runs.pop r hr, he⟩
theorem sg_again {c' : Code} (hq : c'.quiet = true) (z : Sg M A Φ c' (M.den c') fs s) : Sg M A Φ c (.pure (.again c')) fs s := fun Γ p hc hΓ => by
  subst hc
  obtain ⟨e, s', hr, he⟩ := z (Γ.goto c') p rfl (hΓ.goto c')
  exact ⟨e, s', Runs.head (c₁ := c') (fun _ _ x => .again hq x) hr, he⟩
theorem sg_end (r : Result) (h : Φ (.ret r) s) : Sg M A Φ c (leafOf r) [] s := fun Γ p hc _ => by
  subst hc
  exact ⟨.ret r, s, Runs.leaf r, h⟩
theorem sg_yield {v : Value} {g : Bool} {l : List Value} {k : Resume → Sem PySem.Fin} (hfs : splitAtGen fs = none) (h : ∀ p, Φ (.susp v g l k c p fs) s) : Sg M A Φ c (.yield v g l k) fs s := fun Γ p hc _ => by
  subst hc
  exact ⟨_, s, Runs.yield' fs hfs, h p⟩
end
/-- a generator's state woken -/
def Wk (M : Model) (A : Around) (Φ : End → Shared → Prop) (gs : GenState) (s : Shared) : Prop :=
  match gs with
  | .fresh c => Sg M A Φ c (M.den c) [] s
  | .suspended k _ c _ fs _ => Sg M A Φ c (k (.send .none)) fs s
  | _ => False
theorem wpAny_wake {M : Model} {A : Around} {Φ : End → Shared → Prop} {E : Value → Shared → Prop} {s : Shared} {g : Nat} {gs : GenState} {l : List Value} {α : Type} {k : GenResult → Sem α} {Q : α → Shared → Prop} (hg : s.gens[g]? = some gs)
    (hw : Wk M A Φ gs (s.setGen g .running)) (hq : ∀ e s₁, s.gens.size ≤ s₁.gens.size → Φ e s₁ → e.quiet = true ∧ wpAny M A (k e.result) Q E (s₁.setGen g e.genState)) : wpAny M A (.resume g (.send .none) l k) Q E s := by
  intro Γ p hΓ
  rw [Sem.wp_resume]
  cases gs with
  | fresh c =>
    obtain ⟨e, s₁, hr, he⟩ := hw (Γ.wake c p) p rfl (hΓ.wake c p)
    have gz := runs_gsz hr
    rw [setGen_size] at gz
    obtain ⟨q1, q2⟩ := hq e s₁ gz he
    exact ⟨e.result, _, by unfold Wakes; rw [hg]; exact ⟨e, s₁, hr, q1, rfl, rfl⟩, q2 Γ p hΓ⟩
  | suspended k₀ l₀ c₀ p₀ fs₀ cl =>
    obtain ⟨e, s₁, hr, he⟩ := hw (Γ.wake c₀ p) p₀ rfl (hΓ.wake c₀ p)
    have gz := runs_gsz hr
    rw [setGen_size] at gz
    obtain ⟨q1, q2⟩ := hq e s₁ gz he
    exact ⟨e.result, _, by unfold Wakes; rw [hg]; exact ⟨e, s₁, hr, q1, rfl, rfl⟩, q2 Γ p hΓ⟩
  | running => exact hw.elim
  | finished => exact hw.elim
/-- next(g) of a generator that does not raise -/
theorem next_wake {P : Program} {w : World} {A : Around} {Φ : End → Shared → Prop} {E : Value → Shared → Prop} {s : Shared} {a : Addr} {g : Nat} {gs : GenState} {Q : Option Value → Shared → Prop} (hh : A.handled = none) (hl : s.heap.NoLimit) (hroom : A.depth < recursionLimit) (hg : s.heap.IsGen a g)
    (hgs : s.gens[g]? = some gs) (hw : Wk (model P w) A.in1 Φ gs (s.setGen g .running))
    (hy : ∀ v gd lv k c p fs s₁, s.gens.size ≤ s₁.gens.size → Φ (.susp v gd lv k c p fs) s₁ → (End.susp v gd lv k c p fs).quiet = true ∧ Q (some v) (s₁.setGen g (End.susp v gd lv k c p fs).genState))
    (hr : ∀ r s₁, Φ (.ret r) s₁ → (r = .ok (.ret .none) ∨ r = .ok .next) ∧ ∀ h', (∀ b o, s₁.heap.get? b = some o → h'.get? b = some o) → Q none { s₁.setGen g .finished with heap := h' }) :
    wpAny (model P w) A (pyNext (.ref a)) Q E s := by
  unfold pyNext
  refine wpAny_bind (wpAny_attempt (wpAny_callSpecial?_slot (name := Str.ofString "__next__") hg.typeIs slot_gen_next (wpAny_call_entry slot_gen_next hg.typeIs entry_gen_next ?_ (args_gen_next _))))
  show wpAny _ A.in1 (Builtin.Generator.genWake (.ref a) (.send .none)) _ _ s
  unfold Builtin.Generator.genWake
  refine wpAny_bind ?_
  refine wpAny_holding ?_
  refine wpAny_genNumber hg ?_
  refine wpAny_bind ?_
  refine wpAny_genState hgs ?_
  have main : (∃ c, gs = .fresh c) ∨ (∃ k l c p fs cl, gs = .suspended k l c p fs cl) := by
    cases gs with
    | fresh c => exact .inl ⟨c, rfl⟩
    | suspended k l c p fs cl => exact .inr ⟨k, l, c, p, fs, cl, rfl⟩
    | running => exact hw.elim
    | finished => exact hw.elim
  have post : ∀ e s₁, s.gens.size ≤ s₁.gens.size → Φ e s₁ → e.quiet = true ∧ True := fun e s₁ gz he => by
    cases e with
    | ret r => exact ⟨rfl, trivial⟩
    | susp v gd lv k c p fs => exact ⟨(hy v gd lv k c p fs s₁ gz he).1, trivial⟩
  rcases main with ⟨c, rfl⟩ | ⟨k, l, c, p, fs, cl, rfl⟩
  all_goals
    refine wpAny_bind (wpAny_roomToWake hl hroom ?_)
    show wpAny _ A.in1 (.resume g (.send .none) [] _) _ _ s
    refine wpAny_wake hgs hw fun e s₁ gz he => ⟨(post e s₁ gz he).1, ?_⟩
    cases e with
    | susp v gd lv k c p fs => exact wpAny_pure ⟨v, rfl, wpAny_pure (hy v gd lv k c p fs s₁ gz he).2⟩
    | ret r =>
      obtain ⟨hr1, hr2⟩ := hr r s₁ he
      have hres : End.result (.ret r) = .returned .none := by
        rcases hr1 with z | z <;> rw [z] <;> rfl
      first | rw [hres] | simp only [hres]
      show wpAny _ A.in1 (newExc (.type "StopIteration") [] >>= _) _ _ _
      refine wpAny_bind ?_
      simp only [newExc]
      simp only [newTuple]
      refine wpAny_bind (wpAny_newObj_type ?_ (by size_fits))
      refine wpAny_bind (m := firstArgMember _ _) (wpAny_of_eq (a := Value.none) (by first | rfl | (simp only [firstArgMember]; rfl)) ?_)
      refine wpAny_newObj_type ?_ (by size_fits)
      simp only [raiseNew]
      refine wpAny_bind ?_
      refine wpAny_bind (wpAny_handled ?_)
      first | rw [show A.in1.handled = none from hh] | rw [hh]
      refine wpAny_throw ?_
      refine wpAny_bind ?_
      refine wpAny_isInstance (T := "StopIteration") (b := true) ⟨_, Heap.get?_push_size _ rfl, rfl⟩ isSubtype_stop ?_
      refine wpAny_pure (hr2 _ fun b o hb => ?_)
      exact Heap.get?_push_of_some _ (Heap.get?_push_of_some _ hb)
end TG
end
section
set_option Elab.async false
set_option maxRecDepth 100000
set_option linter.all false
namespace TG
open PySem PySem.Spec PyProof.Rows L2 TH GenW
/-- a thing that may change -/
def mutO : HO → Bool
  | .tup _ => false
  | .ins _ _ _ => false
  | .own _ => false
  | .frz _ (.tup _) => false
  | _ => true
/-- what a generator promises: n tokens out, N items, the items; S0: what stood at its start; M: what its consumer may change -/
structure GP where
  n : Nat
  N : Nat
  Yx : Nat → V → Hp → Prop
  S0 : Addr → Prop
  M : Addr → Prop
/-- the consumer keeps all but M; what it may change in M stays a thing that may change -/
structure KM (M : Addr → Prop) (H H' : Hp) : Prop where
  k : ∀ b o, ¬ M b → H b = some o → H' b = some o
  m : ∀ b o, M b → H b = some o → mutO o = true → ∃ o', H' b = some o' ∧ mutO o' = true
theorem KM.of_same {M : Addr → Prop} {H H' : Hp} (h : ∀ b o, H b = some o → H' b = some o) : KM M H H' := ⟨fun b o _ e => h b o e, fun b o _ e m => ⟨o, h b o e, m⟩⟩
theorem KM.trans {M : Addr → Prop} {H1 H2 H3 : Hp} (a : KM M H1 H2) (b : KM M H2 H3) : KM M H1 H3 := ⟨fun c o q e => b.k c o q (a.k c o q e), fun c o q e m => by
  obtain ⟨o', e', m'⟩ := a.m c o q e m
  exact b.m c o' q e' m'⟩
theorem KM.refl (M : Addr → Prop) (H : Hp) : KM M H H := .of_same fun _ _ e => e
/-- the generator keeps what stood at its start, and all that never changes -/
def Kept (S0 : Addr → Prop) (H H' : Hp) : Prop := ∀ b o, (S0 b ∨ mutO o = false) → H b = some o → H' b = some o
theorem Kept.of_same {S0 : Addr → Prop} {H H' : Hp} (s : ∀ b o, H b = some o → H' b = some o) : Kept S0 H H' := fun b o _ e => s b o e
theorem Kept.trans {S0 : Addr → Prop} {H1 H2 H3 : Hp} (a : Kept S0 H1 H2) (b : Kept S0 H2 H3) : Kept S0 H1 H3 := fun c o q e => b c o q (a c o q e)
/-- the contexts of one generator: where the stretch began, what the consumer holds besides -/
def Kin (X₀ X : Cx) : Prop := ∃ (s0 : Shared) (H0 : Hp) (pn : List (Addr × Obj)), X = { X₀ with s_0 := s0, H_0 := H0, pn := pn } ∧ s0.heap.objs.size = X₀.s_0.heap.objs.size ∧ pn.map (·.1) = X₀.pn.map (·.1)
theorem Kin.fpOk {X₀ X Y : Cx} (hX : Kin X₀ X) (hY : Kin X₀ Y) {pins : List (Addr × Obj)} {H H' : Hp} {b : Addr} (h : FpOk X pins H b) (hn : H' b = none) : FpOk Y pins H' b := by
  obtain ⟨s1, H1, p1, rfl, e1, e2⟩ := hX
  obtain ⟨s2, H2, p2, rfl, e3, e4⟩ := hY
  obtain ⟨_, h2, h3, h4, h5, h6⟩ := h
  refine ⟨hn, h2, h3, h4.imp id fun z => ?_, h5, fun p hp => ?_⟩
  · show s2.heap.objs.size ≤ b
    rw [e3, ← e1]
    exact z
  · rcases List.mem_append.mp hp with hp | hp
    · have : p.1 ∈ p1.map (·.1) := by
        rw [e2, ← e4]
        exact List.mem_map.mpr ⟨p, hp, rfl⟩
      obtain ⟨q, hq, e⟩ := List.mem_map.mp this
      rw [← e]
      exact h6 q (List.mem_append_left _ hq)
    · exact h6 p (List.mem_append_right _ hp)
/-- what may be asked of a stretch's end where the generator is through -/
def GFin (G : GP) (X : Cx) (i : Nat) (Φ : End → Shared → Prop) : Prop := i = G.N → ∀ s' σ' H', Inv X [] σ' H' s' → G.n ≤ s'.toks → Kept G.S0 X.H_0 H' → Φ (.ret (.ok (.ret .none))) s'
/-- what may be asked of a stretch's end, m items ahead -/
def Good (G : GP) (X₀ : Cx) (A : Around) : Nat → Cx → Nat → (End → Shared → Prop) → Prop
  | 0, X, i, Φ => GFin G X i Φ
  | m + 1, X, i, Φ => GFin G X i Φ ∧ ∀ (x : V) (v : Value) (s' : Shared) (l : List Value) (k : Resume → Sem PySem.Fin) (c : Code) (p : Pos) (fs : List Frame) (σ : L2.St) (H' : Hp) (ip : List (Addr × Obj)), RelV x v → fs.any Frame.guarded = false → G.n ≤ s'.toks → Inv X ip σ H' s' →
      Kept G.S0 X.H_0 H' → G.Yx i x H' → (∀ b ∈ X₀.pn.map (·.1), b ∉ ip.map (·.1)) → (∀ X', Kin X₀ X' → ∀ s'', Inv X' ip σ X'.H_0 s'' → G.n ≤ s''.toks → KM G.M H' X'.H_0 → ∀ Φ', Good G X₀ A m X' (i + 1) Φ' → Sg (model X₀.prog X₀.w) A Φ' c (k (.send .none)) fs s'') → Φ (.susp v false l k c p fs) s'
theorem Good.fin {G : GP} {X₀ : Cx} {A : Around} : ∀ {m : Nat} {X : Cx} {i : Nat} {Φ : End → Shared → Prop}, Good G X₀ A m X i Φ → GFin G X i Φ
  | 0, _, _, _, h => h
  | _ + 1, _, _, _, h => h.1
/-- what is wanted behind a statement of a generator: the items out so far, the heap at the stretch's begin -/
structure GE where
  nx : Nat → Hp → L2.St → Hp → Prop
  rt : Nat → Hp → VK := fun _ _ _ _ => False
  bk : Nat → Hp → L2.St → Hp → Prop := fun _ _ _ _ => False
  ct : Nat → Hp → L2.St → Hp → Prop := fun _ _ _ _ => False
abbrev GE.at (D : GE) (i : Nat) (H0 : Hp) : Ends := { nx := D.nx i H0, rt := D.rt i H0, bk := D.bk i H0, ct := D.ct i H0 }
abbrev TGs := GE → Nat → Hp → L2.St → Hp → Prop
/-- where the generator's code stands -/
structure GAt (X₀ : Cx) (A : Around) (c : Code) (fs : List Frame) (gd : Bool → Bool) : Prop where
  over : A.over c fs = X₀.A
  split : splitAtGen fs = none
  guard : fs.any Frame.guarded = false
  gd : gd false = false
/-- what follows -/
def GKon (G : GP) (X₀ : Cx) (A : Around) (ip : List (Addr × Obj)) (c : Code) (fs : List Frame) (K : Flow → Sem PySem.Fin) (D : GE) : Prop :=
  ∀ X, Kin X₀ X → ∀ (m i : Nat) (s : Shared) (f : Flow) (Φ : End → Shared → Prop), i + m = G.N → Good G X₀ A m X i Φ → G.n ≤ s.toks → SP X ip (D.at i X.H_0) f s → Sg (model X₀.prog X₀.w) A Φ c (K f) fs s
/-- the iterators of its own are none of what the consumer holds -/
def Dis (X₀ : Cx) (ip : List (Addr × Obj)) : Prop := ∀ b ∈ X₀.pn.map (·.1), b ∉ ip.map (·.1)
def GSt (G : GP) (X₀ : Cx) (st : Stmt) (t : TGs) : Prop :=
  ∀ (A : Around) (ip : List (Addr × Obj)) (c : Code) (fs : List Frame) (K : Flow → Sem PySem.Fin) (J : Value → Sem PySem.Fin) (gd : Bool → Bool) (lv : List Value → List Value) (D : GE), GAt X₀ A c fs gd → GKon G X₀ A ip c fs K D → Dis X₀ ip → ∀ X, Kin X₀ X →
    ∀ (m i : Nat) (s : Shared) (σ : L2.St) (H : Hp) (Φ : End → Shared → Prop), i + m = G.N → Good G X₀ A m X i Φ → G.n ≤ s.toks → Inv X ip σ H s → t D i X.H_0 σ H → Sg (model X₀.prog X₀.w) A Φ c ((exec st X₀.env).wrap K J gd lv) fs s
def GSs (G : GP) (X₀ : Cx) (sts : List Stmt) (t : TGs) : Prop :=
  ∀ (A : Around) (ip : List (Addr × Obj)) (c : Code) (fs : List Frame) (K : Flow → Sem PySem.Fin) (J : Value → Sem PySem.Fin) (gd : Bool → Bool) (lv : List Value → List Value) (D : GE), GAt X₀ A c fs gd → GKon G X₀ A ip c fs K D → Dis X₀ ip → ∀ X, Kin X₀ X →
    ∀ (m i : Nat) (s : Shared) (σ : L2.St) (H : Hp) (Φ : End → Shared → Prop), i + m = G.N → Good G X₀ A m X i Φ → G.n ≤ s.toks → Inv X ip σ H s → t D i X.H_0 σ H → Sg (model X₀.prog X₀.w) A Φ c ((execs sts X₀.env).wrap K J gd lv) fs s
section
variable {G : GP} {X₀ : Cx}
def tPl (t : TS) : TGs := fun D i H0 σ H => t (D.at i H0) σ H
/-- a statement that hands out nothing -/
theorem gst_plain {st : Stmt} {t : TS} (hx : X₀.xe = fun _ _ => False) (h : ∀ X, Kin X₀ X → PSn G.n X st t) : GSt G X₀ st (tPl t) := by
  intro A ip c fs K J gd lv D g k hd X hX m i s σ H Φ hm hΦ hn I ht
  refine sg_wrap ?_
  rw [g.over]
  have h1 := h X hX ip s σ H (D.at i X.H_0) hn I ht
  have eq : X.prog = X₀.prog ∧ X.w = X₀.w ∧ X.A = X₀.A ∧ X.env = X₀.env ∧ X.xe = X₀.xe := by
    obtain ⟨_, _, _, rfl, _⟩ := hX
    exact ⟨rfl, rfl, rfl, rfl, rfl⟩
  rw [eq.1, eq.2.1, eq.2.2.1, eq.2.2.2.1, eq.2.2.2.2, hx] at h1
  exact thnN hn h1 fun f s' hn' hs => k X hX m i s' f Φ hm hΦ hn' hs
def tN0 : TGs := fun D i H0 σ H => D.nx i H0 σ H
theorem gss_nil : GSs G X₀ [] tN0 := fun A ip c fs K J gd lv D g k hd X hX m i s σ H Φ hm hΦ hn I ht => k X hX m i s .next Φ hm hΦ hn ⟨σ, H, I, ht⟩
def tThen (t u : TGs) : TGs := fun D i H0 σ H => t { D with nx := fun i' H0' σ' H' => u D i' H0' σ' H' } i H0 σ H
theorem gss_cons {st : Stmt} {rest : List Stmt} {t u : TGs} (a : GSt G X₀ st t) (b : GSs G X₀ rest u) : GSs G X₀ (st :: rest) (tThen t u) := by
  intro A ip c fs K J gd lv D g k hd X hX m i s σ H Φ hm hΦ hn I ht
  rw [execs_cons_wrap]
  refine a A ip c fs _ J gd lv { D with nx := fun i' H0' σ' H' => u D i' H0' σ' H' } g (fun X' hX' m' i' s' f Φ' hm' hΦ' hn' hs => ?_) hd X hX m i s σ H Φ hm hΦ hn I ht
  cases f with
  | next =>
    obtain ⟨σ', H', I', q⟩ := hs
    exact b A ip c fs K J gd lv D g k hd X' hX' m' i' s' σ' H' Φ' hm' hΦ' hn' I' q
  | brk => exact k X' hX' m' i' s' .brk Φ' hm' hΦ' hn' hs
  | cont => exact k X' hX' m' i' s' .cont Φ' hm' hΦ' hn' hs
  | ret u => exact k X' hX' m' i' s' (.ret u) Φ' hm' hΦ' hn' hs
/-- yield e -/
def tGYd (G : GP) (te : TE) : TGs := fun D i H0 σ H => i < G.N ∧ te σ H fun x H1 => Kept G.S0 H0 H1 ∧ G.Yx i x H1 ∧ ∀ H2, KM G.M H1 H2 → D.nx (i + 1) H2 σ H2
theorem gst_yield {e : Expr} {yp pos : Pos} {te : TE} (hx : X₀.xe = fun _ _ => False) (he : ∀ X, Kin X₀ X → PEn G.n X e te) (hco : X₀.env.scope.isCoroutine = false := by rfl) (hi : interactive X₀.env = false := by rfl) : GSt G X₀ (.Expr (.Yield (some e) yp) pos) (tGYd G te) := by
  intro A ip c fs K J gd lv D g k hd X hX m i s σ H Φ hm hΦ hn I ht
  obtain ⟨hlt, ht⟩ := ht
  obtain ⟨m, rfl⟩ : ∃ m', m = m' + 1 := ⟨m - 1, by omega⟩
  rw [exec_Expr X₀.env _ pos hi rfl]
  have hy : ∀ v, yieldOut X₀.env v = yieldValue v := fun v => by simp only [yieldOut, hco, Bool.false_eq_true, if_false]
  show Sg _ A Φ c (.at pos fun _ => ((eval e X₀.env >>= fun v => (standAt yp >>= fun _ => yieldOut X₀.env v)) >>= fun x => dropValue (.Yield (some e) yp) pos x).wrap K J gd lv) fs s
  simp only [hy]
  refine sg_at ?_
  have ew : ∀ {α β γ : Type} (a : Sem α) (f : α → Sem β) (h : β → Sem γ) (K : γ → Sem PySem.Fin), ((a >>= f) >>= h).wrap K J gd lv = a.wrap (fun x => (f x).wrap (fun y => (h y).wrap K J gd lv) J gd lv) J gd lv := fun a f h K => by
    rw [Sem.bind_eq_wrap', Sem.wrap_wrap, Sem.bind_eq_wrap']
    exact Sem.wrap_wrap ..
  rw [ew]
  refine sg_wrap ?_
  rw [g.over]
  have h1 := he X hX ip s σ H _ hn I ht
  have eq : X.prog = X₀.prog ∧ X.w = X₀.w ∧ X.A = X₀.A ∧ X.env = X₀.env ∧ X.xe = X₀.xe := by
    obtain ⟨_, _, _, rfl, _⟩ := hX
    exact ⟨rfl, rfl, rfl, rfl, rfl⟩
  rw [eq.1, eq.2.1, eq.2.2.1, eq.2.2.2.1, eq.2.2.2.2, hx] at h1
  refine thnN hn h1 fun v s' hn' hv => ?_
  obtain ⟨x, H1, I1, rv, q1, q2, q3⟩ := hv
  refine sg_at (sg_yield g.split fun p => ?_)
  rw [g.gd]
  refine hΦ.2 x v s' _ _ c p fs σ H1 ip rv g.guard hn' I1 q1 q2 hd fun X' hX' s'' I'' hn'' hk Φ' hΦ' => ?_
  exact k X' hX' m (i + 1) s'' .next Φ' (by omega) hΦ' hn'' ⟨σ, X'.H_0, I'', q3 _ hk⟩
theorem gat_loop {A : Around} {c c' : Code} {fs : List Frame} {gd : Bool → Bool} {k : Result → Sem PySem.Fin} {l kp : List Value} {p : Pos} (g : GAt X₀ A c fs gd) (hw : c'.weight = 0) (hu : c'.cUnits = 0) : GAt X₀ A c' (.ret k none (gd false) l c p kp :: fs) id where
  over := (over_loop hw hu).trans g.over
  split := by
    show (splitAtGen fs).map _ = none
    rw [g.split]
    rfl
  guard := by
    show (gd false || fs.any Frame.guarded) = false
    rw [g.gd, g.guard]
    rfl
  gd := rfl
def tGWhile (c : TT) (tb : TGs) : TGs := fun D i H0 σ H => ∃ W : Nat → Nat → Hp → L2.St → Hp → Prop, (∃ m, W m i H0 σ H) ∧ ∀ m i H0 σ H, W m i H0 σ H →
  c σ H fun b H1 => if b = true then ∃ Nw : Nat → Hp → L2.St → Hp → Prop, (∀ i' H0' σ' H', Nw i' H0' σ' H' → ∃ m', m' < m ∧ W m' i' H0' σ' H') ∧ tb { D with nx := Nw, ct := Nw, bk := D.nx } i H0 σ H1 else D.nx i H0 σ H1
theorem gst_while {test : Expr} {body : List Stmt} {pos : Pos} {tc : TT} {tb : TGs} (hx : X₀.xe = fun _ _ => False) (hc : ∀ X, Kin X₀ X → PTn G.n X test tc) (hb : GSs G X₀ body tb) : GSt G X₀ (.While test body [] pos) (tGWhile tc tb) := by
  intro A ip c fs K J gd lv D g k hd X hX m i s σ H Φ hm hΦ hn I ht
  obtain ⟨W, ⟨m0, w0⟩, turn⟩ := ht
  refine sg_at (sg_call fun p => ?_)
  have loop : ∀ (q : Nat) X, Kin X₀ X → ∀ (m i : Nat) (s : Shared) (σ : L2.St) (H : Hp) (Φ : End → Shared → Prop), i + m = G.N → Good G X₀ A m X i Φ → G.n ≤ s.toks → Inv X ip σ H s → W q i X.H_0 σ H →
      Sg (model X₀.prog X₀.w) A Φ (.whileLoop test body [] X₀.env) ((model X₀.prog X₀.w).den (.whileLoop test body [] X₀.env)) (.ret (fun r => ((match r with | .ok f => (.pure f : Sem Flow) | .error e => .raise e).onRaise fun (x : Value) => do
        if (← field x 1) == Value.none then unsupported "frame.own-activation:exception-without-traceback"
        setFlight x X₀.env.frame).wrap K J gd lv) none (gd false) (lv []) c p [] :: fs) s := by
    intro q
    induction q using Nat.strongRecOn with
    | ind q ih =>
      intro X hX m i s σ H Φ hm hΦ hn I w
      have gl := gat_loop (k := fun r => ((match r with | .ok f => (.pure f : Sem Flow) | .error e => .raise e).onRaise fun (x : Value) => do
        if (← field x 1) == Value.none then unsupported "frame.own-activation:exception-without-traceback"
        setFlight x X₀.env.frame).wrap K J gd lv) (c' := .whileLoop test body [] X₀.env) (l := lv []) (kp := []) (p := p) g rfl rfl
      show Sg _ A Φ _ ((whileTurn test body [] X₀.env).onRaise (fun x => do noteFrame x X₀.env; theTreesLotGoes x)) _ s
      unfold whileTurn
      rw [Sem.onRaise_eq_wrap]
      refine sg_bindw ?_
      rw [gl.over]
      have h1 := hc X hX ip s σ H _ hn I (turn q i X.H_0 σ H w)
      have eq : X.prog = X₀.prog ∧ X.w = X₀.w ∧ X.A = X₀.A ∧ X.env = X₀.env ∧ X.xe = X₀.xe := by
        obtain ⟨_, _, _, rfl, _⟩ := hX
        exact ⟨rfl, rfl, rfl, rfl, rfl⟩
      rw [eq.1, eq.2.1, eq.2.2.1, eq.2.2.2.1, eq.2.2.2.2, hx] at h1
      refine thnN hn h1 fun b s' hn' hb' => ?_
      obtain ⟨H2, I2, q2⟩ := hb'
      cases b with
      | true =>
        obtain ⟨Nw, hN, q2⟩ := q2
        rw [if_pos rfl, Sem.bind_eq_wrap', Sem.wrap_wrap]
        refine hb A ip _ _ _ _ _ _ { D with nx := Nw, ct := Nw, bk := D.nx } gl (fun X3 hX3 m3 i3 s3 f Φ3 hm3 hΦ3 hn3 hs => ?_) hd X hX m i s' σ H2 Φ hm hΦ hn' I2 q2
        cases f with
        | next =>
          obtain ⟨σ3, H3, I3, n3⟩ := hs
          obtain ⟨q', hq, w3⟩ := hN i3 X3.H_0 σ3 H3 n3
          exact sg_again rfl (ih q' hq X3 hX3 m3 i3 s3 σ3 H3 Φ3 hm3 hΦ3 hn3 I3 w3)
        | cont =>
          obtain ⟨σ3, H3, I3, n3⟩ := hs
          obtain ⟨q', hq, w3⟩ := hN i3 X3.H_0 σ3 H3 n3
          exact sg_again rfl (ih q' hq X3 hX3 m3 i3 s3 σ3 H3 Φ3 hm3 hΦ3 hn3 I3 w3)
        | brk => exact sg_leaf (.ok .next) (k X3 hX3 m3 i3 s3 .next Φ3 hm3 hΦ3 hn3 hs)
        | ret v => exact sg_leaf (.ok (.ret v)) (k X3 hX3 m3 i3 s3 (.ret v) Φ3 hm3 hΦ3 hn3 hs)
      | false =>
        rw [if_neg Bool.false_ne_true] at q2 ⊢
        exact sg_leaf (.ok .next) (k X hX m i s' .next Φ hm hΦ hn' ⟨σ, H2, I2, q2⟩)
  exact loop m0 X hX m i s σ H Φ hm hΦ hn I w0
end
end TG
end
section
set_option Elab.async false
set_option maxRecDepth 100000
set_option linter.all false
namespace TG
open PySem PySem.Spec PyProof.Rows L2 TH GenW
section
variable {G : GP} {X₀ : Cx}
theorem Kin.eqs {X : Cx} (h : Kin X₀ X) : X.prog = X₀.prog ∧ X.w = X₀.w ∧ X.A = X₀.A ∧ X.env = X₀.env ∧ X.xe = X₀.xe ∧ X.K = X₀.K ∧ X.calm = X₀.calm := by
  obtain ⟨_, _, _, rfl, _⟩ := h
  exact ⟨rfl, rfl, rfl, rfl, rfl, rfl, rfl⟩
def tGFor (wi : TI) (g : TG) (tb : TGs) : TGs := fun D i H0 σ H => wi σ H fun J H1 => ∃ W : Nat → Nat → Nat → Hp → L2.St → Hp → Prop, (∃ m, W 0 m i H0 σ H1) ∧ ∀ j m i H0 σ H, W j m i H0 σ H →
  (J.stop j H ∧ D.nx i H0 σ H) ∨ (J.go j H ∧ ∃ Nw : Nat → Hp → L2.St → Hp → Prop, (∀ i' H0' σ' H', Nw i' H0' σ' H' → ∃ m', m' < m ∧ W (j + 1) m' i' H0' σ' H') ∧ ∀ x H', J.yld j H x H' → g x σ H' fun σ2 H2 => tb { D with nx := Nw, ct := Nw, bk := D.nx } i H0 σ2 H2)
theorem gst_for {tg iter : Expr} {body : List Stmt} {wi : TI} {g : TG} {tb : TGs} {pos : Pos} (hx : X₀.xe = fun _ _ => False) (hc : X₀.calm = true) (hi : ∀ X, Kin X₀ X → PI X tg iter wi) (hg : ∀ X, Kin X₀ X → PG X tg g) (hb : GSs G X₀ body tb)
    (hs : ∀ x, foldedSetIterable iter X₀.env x = pure x := by intro _; rfl) : GSt G X₀ (.For tg iter body [] pos) (tGFor wi g tb) := by
  intro A ip c fs K J gd lv D ga k hd X hX m i s σ H Φ hm hΦ hn I ht
  obtain ⟨e1, e2, e3, e4, e5, e6, e7⟩ := hX.eqs
  rw [exec_For]
  refine sg_bindw (wpAny_standAt ?_)
  refine sg_bindw ?_
  rw [ga.over]
  have h1 := (hi X hX).run ip s σ H _ I ht
  rw [e1, e2, e3, e4, e5, hx] at h1
  refine thnN hn h1 fun v s1 hn1 h1 => ?_
  refine sg_bindw (wpAny_of_eq (hs v) ?_)
  refine sg_bindw (wpAny_standAt ?_)
  refine sg_bindw (wpAny_holding ?_)
  rw [ga.over]
  refine thnN hn1 h1 fun itv s2 hn2 h2 => ?_
  obtain ⟨it, fp, tn, JJ, H2, rfl, I2, T, st2, f2, W, ⟨m0, w0⟩, turn⟩ := h2
  refine sg_call fun p => ?_
  have loop : ∀ (q j : Nat) X', Kin X₀ X' → ∀ (m i : Nat) (s : Shared) (σ : L2.St) (H : Hp) (Φ : End → Shared → Prop), i + m = G.N → Good G X₀ A m X' i Φ → G.n ≤ s.toks → Inv X' ip σ H s → tn j s.heap → (∀ b ∈ fp, H b = none) → W j q i X'.H_0 σ H →
      Sg (model X₀.prog X₀.w) A Φ (.forLoop tg (.ref it) body [] X₀.env) ((model X₀.prog X₀.w).den (.forLoop tg (.ref it) body [] X₀.env)) (.ret (fun r => ((match r with | .ok f => (.pure f : Sem Flow) | .error e => .raise e).onRaise fun (x : Value) => do
        if (← field x 1) == Value.none then unsupported "frame.own-activation:exception-without-traceback"
        setFlight x X₀.env.frame).wrap K J gd lv) none (gd false) (lv []) c p [] :: fs) s := by
    intro q
    induction q using Nat.strongRecOn with
    | ind q ih =>
      intro j X' hX' m i s3 σ3 H3 Φ hm hΦ hn3 I3 st3 fr3 w3
      obtain ⟨d1, d2, d3, d4, d5, d6, d7⟩ := hX'.eqs
      have gl := gat_loop (k := fun r => ((match r with | .ok f => (.pure f : Sem Flow) | .error e => .raise e).onRaise fun (x : Value) => do
        if (← field x 1) == Value.none then unsupported "frame.own-activation:exception-without-traceback"
        setFlight x X₀.env.frame).wrap K J gd lv) (c' := .forLoop tg (.ref it) body [] X₀.env) (l := lv []) (kp := []) (p := p) ga rfl rfl
      have ok3 : ∀ {H' : Hp}, (∀ b ∈ fp, H' b = none) → ∀ b ∈ fp, FpOk X' ip H' b := fun z b hb => hX.fpOk hX' (f2 b hb) (z b hb)
      show Sg _ A Φ _ ((forTurn tg (.ref it) body [] X₀.env).onRaise (fun x => do noteFrame x X₀.env; theTreesLotGoes x)) _ s3
      unfold forTurn
      rw [Sem.onRaise_eq_wrap]
      refine sg_bindw (wpAny_standAt ?_)
      refine sg_bindw (wpAny_onRaise ?_)
      rw [gl.over]
      have T' : Turn X'.prog X'.w X'.K tg JJ fp it tn := by
        rw [d1, d2, d6, ← e1, ← e2, ← e6]
        exact T
      rcases turn j q i X'.H_0 σ3 H3 w3 with ⟨stop, qn⟩ | ⟨go, Nw, hN, step⟩
      · have h1 := T'.done X' rfl rfl rfl (d7.trans hc) j ip s3 σ3 H3 (fun _ _ => False) I3 (ok3 fr3) st3 stop
        rw [d1, d2, d3] at h1
        refine wpAny_mono (wpAny_toks_of hn3 h1) (fun r s4 hr => ?_) fun _ _ z => z.2.elim
        obtain ⟨hn4, rfl, I4⟩ := hr
        refine sg_again rfl ?_
        exact sg_leaf (.ok .next) (k X' hX' m i s4 .next Φ hm hΦ hn4 ⟨σ3, H3, I4, qn⟩)
      · have h1 := T'.item X' rfl rfl rfl (d7.trans hc) j ip s3 σ3 H3 (fun _ _ => False) I3 (ok3 fr3) st3 go
        rw [d1, d2, d3] at h1
        refine wpAny_mono (wpAny_toks_of hn3 h1) (fun r s4 hr => ?_) fun _ _ z => z.2.elim
        obtain ⟨hn4, u, rfl, h4⟩ := hr
        refine sg_bindw ?_
        rw [gl.over]
        refine thnN hn4 h4 fun _ s5 hn5 ⟨x, H5, I5, r5, y5, st5, fr5⟩ => ?_
        have J5 := I5.pinned (ok3 fr5) (T.obj _ _ st5)
        refine sg_bindw ?_
        rw [gl.over]
        have h5 := (hg X' hX').run _ s5 σ3 H5 x u _ J5 r5 (step x H5 y5)
        rw [d1, d2, d3, d4, d5, hx] at h5
        refine thnN hn5 h5 fun _ s6 hn6 ⟨σ6, H6, I6, q6⟩ => ?_
        rw [Sem.bind_eq_wrap', Sem.wrap_wrap]
        refine hb A (ip ++ pinsAt fp s5.heap) _ _ _ _ _ _ { D with nx := Nw, ct := Nw, bk := D.nx } gl (fun X7 hX7 m7 i7 s7 f Φ7 hm7 hΦ7 hn7 hs7 => ?_) (fun b hb hm' => ?_) X' hX' m i s6 σ6 H6 Φ hm hΦ hn6 I6 q6
        rotate_left
        · rw [List.map_append, List.mem_append] at hm'
          rcases hm' with hm' | hm'
          · exact hd b hb hm'
          · obtain ⟨q, hq, rfl⟩ := List.mem_map.mp hm'
            have hfp := (of_pinsAt hq).1
            obtain ⟨_, _, _, _, _, f6⟩ := (f2 q.1 hfp)
            obtain ⟨_, _, pn0, rfl, _, e2'⟩ := hX
            have : q.1 ∈ pn0.map (·.1) := by rw [e2']; exact hb
            obtain ⟨q', hq', eq'⟩ := List.mem_map.mp this
            exact f6 q' (List.mem_append_left _ hq') eq'
        obtain ⟨z1, z2, z3, z4, z5, z6, z7⟩ := hX7.eqs
        have T7 : Turn X7.prog X7.w X7.K tg JJ fp it tn := by
          rw [z1, z2, z6, ← e1, ← e2, ← e6]
          exact T
        have more : ∀ {σ7 : L2.St} {H7 : Hp}, Inv X7 (ip ++ pinsAt fp s5.heap) σ7 H7 s7 → Nw i7 X7.H_0 σ7 H7 → Sg (model X₀.prog X₀.w) A Φ7 (.forLoop tg (.ref it) body [] X₀.env) ((model X₀.prog X₀.w).den (.forLoop tg (.ref it) body [] X₀.env)) (.ret (fun r => ((match r with | .ok f => (.pure f : Sem Flow) | .error e => .raise e).onRaise fun (x : Value) => do
            if (← field x 1) == Value.none then unsupported "frame.own-activation:exception-without-traceback"
            setFlight x X₀.env.frame).wrap K J gd lv) none (gd false) (lv []) c p [] :: fs) s7 := fun {σ7 H7} I7 z => by
          obtain ⟨q', hq, w7⟩ := hN i7 X7.H_0 σ7 H7 z
          obtain ⟨t1, t2⟩ := turn_back T7 st5 I7
          exact ih q' hq (j + 1) X7 hX7 m7 i7 s7 σ7 H7 Φ7 hm7 hΦ7 hn7 I7.unpinned t1 t2 w7
        cases f with
        | next => obtain ⟨σ7, H7, I7, z⟩ := hs7; exact sg_again rfl (more I7 z)
        | cont => obtain ⟨σ7, H7, I7, z⟩ := hs7; exact sg_again rfl (more I7 z)
        | brk =>
          obtain ⟨σ7, H7, I7, z⟩ := hs7
          exact sg_leaf (.ok .next) (k X7 hX7 m7 i7 s7 .next Φ7 hm7 hΦ7 hn7 ⟨σ7, H7, I7.unpinned, z⟩)
        | ret v =>
          obtain ⟨x7, σ7, H7, I7, r7, z⟩ := hs7
          exact sg_leaf (.ok (.ret v)) (k X7 hX7 m7 i7 s7 (.ret v) Φ7 hm7 hΦ7 hn7 ⟨x7, σ7, H7, I7.unpinned, r7, z⟩)
  exact loop m0 0 X hX m i s2 σ H2 Φ hm hΦ hn2 I2 st2 (fun b hb => (f2 b hb).1) w0
end
end TG
end
section
set_option Elab.async false
set_option maxRecDepth 100000
set_option linter.all false
namespace TG
open PySem PySem.Spec PyProof.Rows L2 TH GenW
/-- the heap's first n objects -/
def cutH (n : Nat) (h : Heap) : Heap := { h with objs := h.objs.extract 0 n }
theorem cutH_lt {n : Nat} {h : Heap} {b : Addr} (hb : b < n) : (cutH n h).get? b = h.get? b := by
  show (match (h.objs.extract 0 n)[b]? with | some ⟨_, _, .freed, _⟩ => none | o => o) = (match h.objs[b]? with | some ⟨_, _, .freed, _⟩ => none | o => o)
  have e : (h.objs.extract 0 n)[b]? = h.objs[b]? := by
    rw [Array.getElem?_extract]
    simp only [Nat.zero_add, Nat.sub_zero]
    by_cases z : b < h.objs.size
    · rw [if_pos (Nat.lt_min.mpr ⟨hb, z⟩)]
    · rw [if_neg (fun y => z (Nat.lt_min.mp y).2), Array.getElem?_eq_none (Nat.le_of_not_lt z)]
  rw [e]
theorem cutH_ge {n : Nat} {h : Heap} {b : Addr} (hb : n ≤ b) : (cutH n h).get? b = none := by
  show (match (h.objs.extract 0 n)[b]? with | some ⟨_, _, .freed, _⟩ => none | o => o) = none
  have e : (h.objs.extract 0 n)[b]? = none := by
    rw [Array.getElem?_extract]
    simp only [Nat.sub_zero]
    rw [if_neg (fun y => Nat.lt_irrefl _ (Nat.lt_of_lt_of_le (Nat.lt_min.mp y).1 hb))]
  rw [e]
theorem cutH_some {n : Nat} {h : Heap} {b : Addr} {o : Obj} (e : (cutH n h).get? b = some o) : b < n ∧ h.get? b = some o := by
  by_cases hb : b < n
  · rw [cutH_lt hb] at e
    exact ⟨hb, e⟩
  · rw [cutH_ge (Nat.le_of_not_lt hb)] at e
    cases e
theorem cutH_size {n : Nat} {h : Heap} (hn : n ≤ h.objs.size) : (cutH n h).objs.size = n := by
  show (h.objs.extract 0 n).size = n
  rw [Array.size_extract]
  omega
theorem funs_cut {n : Nat} {h1 h2 base : Heap} (k : ∀ b o, h1.get? b = some o → b < n) : ∀ {l : List Env}, h1.FunFrames base l → h2.FunFrames base l → (cutH n h2).FunFrames base l
  | [], _, _ => trivial
  | env :: rest, ⟨_, ⟨L1, o1, f1, _, g1, _⟩, r1⟩, ⟨a2, ⟨L2, o2, f2, b2, g2, d2⟩, r2⟩ => by
    rw [f1] at f2
    cases f2
    refine ⟨a2, ⟨L1, o2, f1, b2, ?_, d2⟩, funs_cut k r1 r2⟩
    rw [cutH_lt (k _ _ g1)]
    exact g2
/-- of one generator, whatever the consumer holds -/
def KinP (X₀ X : Cx) : Prop := ∃ (s0 : Shared) (H0 : Hp) (pn : List (Addr × Obj)), X = { X₀ with s_0 := s0, H_0 := H0, pn := pn } ∧ s0.heap.objs.size = X₀.s_0.heap.objs.size
theorem Kin.p {X₀ X : Cx} (h : Kin X₀ X) : KinP X₀ X := by
  obtain ⟨s0, H0, pn, e, q, _⟩ := h
  exact ⟨s0, H0, pn, e, q⟩
/-- woken: the invariant of its frame, from what stands -/
theorem wake_inv {X₀ Xy : Cx} {ip pn : List (Addr × Obj)} {σ : L2.St} {Hy H : Hp} {sy s : Shared} {Aw : Around} (hK : KinP X₀ Xy) (Iy : Inv Xy ip σ Hy sy) (E : Env0 X₀.prog X₀.w X₀.K X₀.mg X₀.base Aw X₀.outer s H) (hn : X₀.s_0.heap.objs.size ≤ s.heap.objs.size) (hex : X₀.ex = []) (hcell : X₀.env.cells = [])
    (own : ∀ o, sy.heap.get? X₀.env.locals = some o → s.heap.get? X₀.env.locals = some o) (hL : H X₀.env.locals = none) (hip : ∀ p ∈ ip, s.heap.get? p.1 = some p.2 ∧ H p.1 = none) (epn : pn.map (·.1) = X₀.pn.map (·.1))
    (hpn : ∀ p ∈ pn, s.heap.get? p.1 = some p.2 ∧ H p.1 = none ∧ p.1 ≠ X₀.env.locals ∧ p.1 ∉ X₀.fs ∧ ∀ v, p.2.data ≠ .cell v) :
    ∃ X', Kin X₀ X' ∧ X'.H_0 = H ∧ X'.pn = pn ∧ X'.s_0.heap = cutH X₀.s_0.heap.objs.size s.heap ∧ X'.s_0.os = s.os ∧ Inv X' ip σ H s := by
  obtain ⟨s0, H0, pn0, rfl, es⟩ := hK
  have ok := Iy.ok
  have lt : ∀ b o, s0.heap.get? b = some o → b < X₀.s_0.heap.objs.size := fun b o e => by
    rw [← es]
    exact Heap.lt_size e
  have szc : (cutH X₀.s_0.heap.objs.size s.heap).objs.size = X₀.s_0.heap.objs.size := cutH_size hn
  refine ⟨{ X₀ with s_0 := { s with heap := cutH X₀.s_0.heap.objs.size s.heap }, H_0 := H, pn := pn }, ⟨_, _, _, rfl, szc, epn⟩, rfl, rfl, rfl, rfl, ?_⟩
  refine ⟨⟨ok.mod, ok.kind, ok.glob, ok.blt, ?_, ok.inj, ok.has, fun x c h1 h2 => ?_, ok.hd, ok.frames, ok.stk, ok.exf, fun b o e => ?_, ?_, ok.noex, ok.exfs, ?_, E.frf⟩, rfl, E.bare, ?_, ?_, fun x c e => ?_, hL, fun x c e => ?_, fun p hp => ?_, E.hok, Iy.len⟩
  · show (cutH X₀.s_0.heap.objs.size s.heap).objs.size ≤ X₀.env.locals
    rw [szc, ← es]
    exact ok.above
  · have h2 : X₀.env.cells.lookup x = some c := h2
    rw [hcell] at h2
    cases h2
  · have q := ok.bs b o e
    refine ⟨?_, (E.bs b o e).2⟩
    show (cutH X₀.s_0.heap.objs.size s.heap).get? b = some o
    rw [cutH_lt (lt b o q.1)]
    exact (E.bs b o e).1
  · show X₀.base.objs.size ≤ (cutH X₀.s_0.heap.objs.size s.heap).objs.size
    rw [szc, ← es]
    exact ok.bsz
  · exact funs_cut lt ok.funs E.funs
  · exact Un.kept fun b o e => (cutH_some e).2
  · obtain ⟨m, hm, hl⟩ := Iy.loc
    have hm2 : s.heap.Ns X₀.env.locals m := by
      obtain ⟨o, es', ep, e1, r⟩ := hm
      exact ⟨o, es', ep, own o e1, r⟩
    refine ⟨m, hm2, fun i x v h1 h2 h3 => ?_⟩
    obtain ⟨u, r1, r2⟩ := hl i x v h1 h2 h3
    refine ⟨u, r1, ?_⟩
    rcases r2 with r2 | ⟨_, c, e, _⟩
    · exact .inl r2
    · have e : X₀.env.cells.lookup x = some c := e
      rw [hcell] at e
      cases e
  · have e : X₀.env.cells.lookup x = some c := e
    rw [hcell] at e
    cases e
  · have e : X₀.env.cells.lookup x = some c := e
    rw [hcell] at e
    cases e
  · rcases List.mem_append.mp hp with hp | hp
    · exact hpn p hp
    · obtain ⟨q1, q2⟩ := hip p hp
      obtain ⟨_, _, z3, z4, z5⟩ := Iy.pin p (List.mem_append_right _ hp)
      exact ⟨q1, q2, z3, z4, z5⟩
/-- what a stretch may change besides: all that is younger than the generator's call, but for what the consumer holds -/
def chOf (ng sz : Nat) (pa : List Addr) : List Addr := (List.range sz).filter fun b => decide (ng ≤ b) && !pa.contains b
theorem mem_ch {ng sz : Nat} {pa : List Addr} {b : Addr} : b ∈ chOf ng sz pa ↔ b < sz ∧ ng ≤ b ∧ b ∉ pa := by
  unfold chOf
  rw [List.mem_filter, List.mem_range]
  simp
/-- behind a stretch -/
structure Stp (P : Program) (w : World) (outer : List Env) (ng : Nat) (s : Shared) (H : Hp) (pn : List (Addr × Obj)) (s' : Shared) (H' : Hp) : Prop where
  os : s'.os = s.os
  bare : AllBare s'.gens
  un : Un (frs outer) (chOf ng s.heap.objs.size (pn.map (·.1))) H H' s.heap s'.heap
  hok : HOk P w H' s'.heap
theorem step_of {X' : Cx} {ip pn : List (Addr × Obj)} {σ : L2.St} {H H' : Hp} {s s' : Shared} {ng : Nat} (I : Inv X' ip σ H' s') (hex : X'.ex = []) (e1 : X'.H_0 = H) (e2 : X'.pn = pn) (e3 : X'.s_0.heap = cutH ng s.heap) (e4 : X'.s_0.os = s.os)
    (hpn : ∀ p ∈ pn, s.heap.get? p.1 = some p.2 ∧ H p.1 = none) : Stp X'.prog X'.w X'.outer ng s H pn s' H' := by
  have u := I.base
  rw [hex, e1, e3] at u
  have young : ∀ b o, s.heap.get? b = some o → b ∉ chOf ng s.heap.objs.size (pn.map (·.1)) → ¬ b < ng → ∃ p ∈ pn, p = (b, o) := fun b o e hb hlt => by
    have : b ∈ pn.map (·.1) := by
      refine Classical.byContradiction fun z => hb (mem_ch.mpr ⟨Heap.lt_size e, Nat.le_of_not_lt hlt, z⟩)
    obtain ⟨p, hp, rfl⟩ := List.mem_map.mp this
    have q := (hpn p hp).1
    rw [e] at q
    cases q
    exact ⟨p, hp, rfl⟩
  have pinned : ∀ p ∈ pn, s'.heap.get? p.1 = some p.2 ∧ H' p.1 = none ∧ p.1 ∉ X'.fs := fun p hp => by
    obtain ⟨q1, q2, _, q4, _⟩ := I.pin p (List.mem_append_left _ (by rw [e2]; exact hp))
    exact ⟨q1, q2, q4⟩
  refine ⟨I.os.trans e4, I.bare, ⟨fun b o e n hf hb => ?_, fun b o e n hf hb => ?_, fun b o e n hb => ?_, fun b o e hb => ?_, u.tups, u.frzs, u.tbls⟩, I.hok⟩
  · by_cases hlt : b < ng
    · exact u.keep b o (by rw [cutH_lt hlt]; exact e) n hf (by simp)
    · obtain ⟨p, hp, rfl⟩ := young b o e hb hlt
      exact (pinned _ hp).1
  · by_cases hlt : b < ng
    · exact u.slot b o (by rw [cutH_lt hlt]; exact e) n hf (by simp)
    · obtain ⟨p, hp, rfl⟩ := young b o e hb hlt
      exact absurd hf (pinned _ hp).2.2
  · by_cases hlt : b < ng
    · exact u.free b o (by rw [cutH_lt hlt]; exact e) n (by simp)
    · obtain ⟨p, hp, rfl⟩ := young b o e hb hlt
      exact (pinned _ hp).2.1
  · by_cases hlt : b < ng
    · exact u.there b o (by rw [cutH_lt hlt]; exact e) (by simp)
    · obtain ⟨p, hp, rfl⟩ := young b o e hb hlt
      exact ⟨_, (pinned _ hp).1⟩
/-- the state where a generator is woken: OB: the generator's own objects as they were; pn: what the consumer holds -/
structure WkAt (P : Program) (w : World) (K : PySem.W.Frag) (mg : Str → Option Value) (base : Heap) (n : Nat) (A : Around) (outer : List Env) (ng : Nat) (pa : List Addr) (OB : List (Addr × Obj)) (s : Shared) (H : Hp) (pn : List (Addr × Obj)) : Prop where
  env : Env0 P w K mg base A outer s H
  tok : n ≤ s.toks
  sz : ng ≤ s.heap.objs.size
  ob : ∀ p ∈ OB, s.heap.get? p.1 = some p.2 ∧ H p.1 = none
  pa : pn.map (·.1) = pa
  pn : ∀ p ∈ pn, s.heap.get? p.1 = some p.2 ∧ H p.1 = none ∧ p.1 ∉ frs outer ∧ ∀ v, p.2.data ≠ .cell v
/-- the generator's own objects, for its consumer to keep -/
def ObOk (outer : List Env) (OB : List (Addr × Obj)) (s : Shared) (H : Hp) : Prop := ∀ p ∈ OB, s.heap.get? p.1 = some p.2 ∧ H p.1 = none ∧ p.1 ∉ frs outer ∧ ∀ v, p.2.data ≠ .cell v
/-- a sleeping generator, i items out, m ahead -/
def Asl (P : Program) (w : World) (K : PySem.W.Frag) (mg : Str → Option Value) (base : Heap) (G : GP) (A : Around) (outer : List Env) (ng : Nat) (pa : List Addr) : Nat → Nat → List (Addr × Obj) → Hp → GenState → Prop
  | 0, i, OB, Hy, gs => ∀ s H pn, WkAt P w K mg base G.n A outer ng pa OB s H pn → KM G.M Hy H → ∀ Ψ : End → Shared → Prop,
      (i = G.N → ∀ s' H', Stp P w outer ng s H pn s' H' → G.n ≤ s'.toks → Kept G.S0 H H' → Ψ (.ret (.ok (.ret .none))) s') → Wk (model P w) A Ψ gs s
  | m + 1, i, OB, Hy, gs => ∀ s H pn, WkAt P w K mg base G.n A outer ng pa OB s H pn → KM G.M Hy H → ∀ Ψ : End → Shared → Prop,
      (i = G.N → ∀ s' H', Stp P w outer ng s H pn s' H' → G.n ≤ s'.toks → Kept G.S0 H H' → Ψ (.ret (.ok (.ret .none))) s') →
      (∀ (x : V) (v : Value) (s' : Shared) (H' : Hp) (l : List Value) (k : Resume → Sem PySem.Fin) (c : Code) (p : Pos) (fs : List Frame) (OB' : List (Addr × Obj)), RelV x v → fs.any Frame.guarded = false → G.n ≤ s'.toks → Stp P w outer ng s H pn s' H' → Kept G.S0 H H' → G.Yx i x H' →
        ObOk outer OB' s' H' → (∀ b ∈ pa, b ∉ OB'.map (·.1)) → Asl P w K mg base G A outer ng pa m (i + 1) OB' H' (.suspended k l c p fs false) → Ψ (.susp v false l k c p fs) s') → Wk (model P w) A Ψ gs s
/-- the own objects of a sleeping frame -/
theorem ob_of {X : Cx} {ip : List (Addr × Obj)} {σ : L2.St} {H : Hp} {s : Shared} (I : Inv X ip σ H s) (hst : X.stack = X.env :: X.outer) (hf : X.env.frame = some X.env.locals) (hL : X.env.locals ∉ X.fs) : ∃ oL, s.heap.get? X.env.locals = some oL ∧ ObOk X.outer ((X.env.locals, oL) :: ip) s H := by
  obtain ⟨m, ⟨o, es, ep, e1, e2, _⟩, _⟩ := I.loc
  refine ⟨o, e1, fun p hp => ?_⟩
  rcases List.mem_cons.mp hp with rfl | hp
  · exact ⟨e1, I.free, hL, fun v z => by rw [e2] at z; cases z⟩
  · obtain ⟨q1, q2, _, q4, q5⟩ := I.pin p (List.mem_append_right _ hp)
    exact ⟨q1, q2, q4, q5⟩
theorem asl_of {G : GP} {X₀ : Cx} {A : Around} (hex : X₀.ex = []) (hcell : X₀.env.cells = []) (hst : X₀.stack = X₀.env :: X₀.outer) (hfr : X₀.env.frame = some X₀.env.locals) (hLf : X₀.env.locals ∉ X₀.fs) (hpaL : X₀.env.locals ∉ X₀.pn.map (·.1)) :
    ∀ (m i : Nat), i + m = G.N → ∀ (Xy : Cx) (ip : List (Addr × Obj)) (σ : L2.St) (Hy : Hp) (sy : Shared) (oL : Obj) (gs : GenState), KinP X₀ Xy → Inv Xy ip σ Hy sy → sy.heap.get? X₀.env.locals = some oL →
      (∀ X', Kin X₀ X' → ∀ s'', Inv X' ip σ X'.H_0 s'' → G.n ≤ s''.toks → KM G.M Hy X'.H_0 → ∀ Φ', Good G X₀ A m X' i Φ' → Wk (model X₀.prog X₀.w) A Φ' gs s'') →
      Asl X₀.prog X₀.w X₀.K X₀.mg X₀.base G A X₀.outer X₀.s_0.heap.objs.size (X₀.pn.map (·.1)) m i ((X₀.env.locals, oL) :: ip) Hy gs := by
  have woken : ∀ {Xy : Cx} {ip : List (Addr × Obj)} {σ : L2.St} {Hy : Hp} {sy : Shared} {oL : Obj} {s : Shared} {H : Hp} {pn : List (Addr × Obj)}, KinP X₀ Xy → Inv Xy ip σ Hy sy → sy.heap.get? X₀.env.locals = some oL → WkAt X₀.prog X₀.w X₀.K X₀.mg X₀.base G.n A X₀.outer X₀.s_0.heap.objs.size (X₀.pn.map (·.1)) ((X₀.env.locals, oL) :: ip) s H pn →
      ∃ X', Kin X₀ X' ∧ X'.H_0 = H ∧ X'.pn = pn ∧ X'.s_0.heap = cutH X₀.s_0.heap.objs.size s.heap ∧ X'.s_0.os = s.os ∧ Inv X' ip σ H s := fun {Xy ip σ Hy sy oL s H pn} hK Iy eL W => by
    refine wake_inv hK Iy W.env W.sz hex hcell (fun o e => ?_) (W.ob _ List.mem_cons_self).2 (fun p hp => W.ob p (List.mem_cons_of_mem _ hp)) W.pa fun p hp => ?_
    · rw [eL] at e
      cases e
      exact (W.ob _ List.mem_cons_self).1
    · obtain ⟨q1, q2, q3, q4⟩ := W.pn p hp
      refine ⟨q1, q2, fun z => hpaL ?_, q3, q4⟩
      rw [← W.pa, ← z]
      exact List.mem_map.mpr ⟨_, hp, rfl⟩
  have stepped : ∀ {X' : Cx} {ip' pn : List (Addr × Obj)} {σ' : L2.St} {s s' : Shared} {H H' : Hp}, Kin X₀ X' → X'.H_0 = H → X'.pn = pn → X'.s_0.heap = cutH X₀.s_0.heap.objs.size s.heap → X'.s_0.os = s.os → (∀ p ∈ pn, s.heap.get? p.1 = some p.2 ∧ H p.1 = none) → Inv X' ip' σ' H' s' →
      Stp X₀.prog X₀.w X₀.outer X₀.s_0.heap.objs.size s H pn s' H' := fun {X' ip' pn σ' s s' H H'} hK a b c d hp I => by
    obtain ⟨s0, H0, pn0, rfl, _⟩ := hK
    have z := step_of (X' := { X₀ with s_0 := s0, H_0 := H0, pn := pn0 }) I hex a b c d hp
    exact z
  intro m
  induction m with
  | zero =>
    intro i hm Xy ip σ Hy sy oL gs hK Iy eL run s H pn W hk Ψ hf
    obtain ⟨X', hX', a, b, c, d, I'⟩ := woken hK Iy eL W
    have hpn : ∀ p ∈ pn, s.heap.get? p.1 = some p.2 ∧ H p.1 = none := fun p hp => ⟨(W.pn p hp).1, (W.pn p hp).2.1⟩
    refine run X' hX' s (by rw [a]; exact I') W.tok (by rw [a]; exact hk) Ψ fun ei s' σ' H' J hn' hkp => ?_
    exact hf ei s' H' (stepped hX' a b c d hpn J) hn' (by rw [← a]; exact hkp)
  | succ m ih =>
    intro i hm Xy ip σ Hy sy oL gs hK Iy eL run s H pn W hk Ψ hf hy
    obtain ⟨X', hX', a, b, c, d, I'⟩ := woken hK Iy eL W
    have hpn : ∀ p ∈ pn, s.heap.get? p.1 = some p.2 ∧ H p.1 = none := fun p hp => ⟨(W.pn p hp).1, (W.pn p hp).2.1⟩
    refine run X' hX' s (by rw [a]; exact I') W.tok (by rw [a]; exact hk) Ψ ⟨fun ei s' σ' H' J hn' hkp => hf ei s' H' (stepped hX' a b c d hpn J) hn' (by rw [← a]; exact hkp), ?_⟩
    intro x v s' l k c' p fs σ' H' ip' rv hg hn' J hkp hyx hdis run'
    have hS := stepped hX' a b c d hpn J
    have e' : X'.env = X₀.env ∧ X'.outer = X₀.outer ∧ X'.stack = X₀.stack := by
      obtain ⟨_, _, _, rfl, _⟩ := hX'
      exact ⟨rfl, rfl, rfl⟩
    obtain ⟨oL', eL', hob⟩ := ob_of J (by rw [e'.2.2, e'.1, e'.2.1]; exact hst) (by rw [e'.1]; exact hfr) (by show X'.env.locals ∉ frs X'.outer; rw [e'.1, e'.2.1]; exact hLf)
    rw [e'.1] at eL' hob
    rw [e'.2.1] at hob
    refine hy x v s' H' l k c' p fs ((X₀.env.locals, oL') :: ip') rv hg hn' hS (by rw [← a]; exact hkp) hyx hob (fun b hb => ?_) ?_
    · rw [List.map_cons, List.mem_cons]
      rintro (z | z)
      · have z : b = X₀.env.locals := z
        rw [z] at hb
        exact hpaL hb
      · exact hdis b hb z
    exact ih (i + 1) (by omega) X' ip' σ' H' s' oL' _ hX'.p J eL' fun X2 hX2 s2 J2 hn2 hk2 Φ2 hΦ2 => run' X2 hX2 s2 J2 hn2 hk2 Φ2 hΦ2
end TG
end
section
set_option Elab.async false
set_option maxRecDepth 100000
set_option linter.all false
namespace TG
open PySem PySem.Spec PyProof.Rows L2 TH GenW
/-- a generator def's promise: its arguments, the heap, how many items, the items -/
abbrev SpGn := List V → Hp → Nat → (Nat → V → Hp → Prop) → Prop
def MOk (H : Hp) (M : Addr → Prop) : Prop := ∀ b, M b → ∃ o, H b = some o ∧ mutO o = true
def S0of (H : Hp) (b : Addr) : Prop := H b ≠ none
/-- a generator that has not begun -/
structure GMk (P : Program) (w : World) (K : PySem.W.Frag) (mg : Str → Option Value) (base : Heap) (n k : Nat) (outer : List Env) (H : Hp) (s : Shared) (N : Nat) (Yx : Nat → V → Hp → Prop) (a : Addr) (g : Nat) (c : Code) (L : Addr) (oL : Obj) (s' : Shared) : Prop where
  a1 : s.heap.objs.size ≤ a
  a2 : a < s'.heap.objs.size
  isg : s'.heap.IsGen a g
  gs : s'.gens[g]? = some (.fresh c)
  os : s'.os = s.os
  bare : AllBare s'.gens
  keep : ∀ b o, s.heap.get? b = some o → s'.heap.get? b = some o
  l1 : s.heap.objs.size ≤ L
  la : L ≠ a
  ob : ObOk outer [(L, oL)] s' H
  asl : ∀ (Aw : Around) (pa : List Addr) (M : Addr → Prop), Room k Aw → Aw.frames = some outer → L ∉ pa → MOk H M → Asl P w K mg base ⟨n, N, Yx, S0of H, M⟩ Aw outer s.heap.objs.size pa N 0 [(L, oL)] H (.fresh c)
def FnG (n : Nat) (P : Program) (w : World) (K : PySem.W.Frag) (mg : Str → Option Value) (base : Heap) (k : Nat) (f : Addr) (sp : SpGn) : Prop :=
  ∀ (A : Around) (outer : List Env) (s : Shared) (H : Hp) (us : List Value) (vs : List V) (N : Nat) (Yx : Nat → V → Hp → Prop), Room k A → Env0 P w K mg base A outer s H → Vals vs us → sp vs H N Yx →
    codeAny (model P w) A (.call (.ref f) ⟨us, []⟩) (fun r s' => ∃ a g c L oL, r = .ok (.ret (.ref a)) ∧ GMk P w K mg base n k outer H s N Yx a g c L oL s') s
theorem sg_func {P : Program} {w : World} {A : Around} {Φ : End → Shared → Prop} {body : List Stmt} {env : Env} {s : Shared}
    (h : ∀ J, Sg (model P w) A Φ (.func body env) ((execs body env).wrap (fun f => .pure (.done (.ret (match f with | .ret v => v | _ => .none)))) J id id) [] s) : Sg (model P w) A Φ (.func body env) ((model P w).den (.func body env)) [] s := by
  show Sg _ A Φ _ (.point [] fun _ => ((execs body env).onRaise (leaving env)) >>= _) [] s
  refine sg_point ?_
  rw [Sem.onRaise_eq_wrap]
  rw [Sem.bind_eq_wrap', Sem.wrap_wrap]
  rw [Sem.wrap_congr (execs body env) _ _ (K' := fun f => (.pure (.done (.ret (match f with | .ret v => v | _ => .none))) : Sem PySem.Fin)) (fun f => by cases f <;> rfl) fun e => rfl]
  exact h _
theorem fng_of {P : Program} {w : World} {K : PySem.W.Frag} {mg : Str → Option Value} {base : Heap} {n k : Nat} {f : Addr} {name qual : Str} {params : Arguments} {body : List Stmt} {scope : Scope} {dV kV doc pm cdv ct oc : Value} {an od : Option Addr} {osl : Array (Option Value)} {Ns ps : List Str} {sp : SpGn}
    (lk : K.lookup f = some ⟨oc, od, .func (PySem.W.fnOf name qual params body scope dV kV doc pm an cdv ct), osl⟩) (hcd : PySem.W.codeIn K cdv qual = true) (b : Binds K (PySem.W.fnOf name qual params body scope dV kV doc pm an cdv ct) ps []) (S : GScope Ns ps scope) (hnc : ∀ m, cellsFrom m scope.names [] = [])
    (len : ∀ vs H N Yx, sp vs H N Yx → vs.length = ps.length)
    (hbody : ∀ (A : Around) (outer : List Env) (s : Shared) (H : Hp) (vs : List V) (N : Nat) (Yx : Nat → V → Hp → Prop) (M : Addr → Prop) (pn : List (Addr × Obj)), Room k (A.deeper (envOfC qual scope s.heap.objs.size f cdv)) → sp vs H N Yx → MOk H M →
      ∃ t, GSs ⟨n, N, Yx, S0of H, M⟩ { (cxOf CX0 P w K mg base Ns qual scope f cdv A outer s H fun _ _ _ => False).nox with pn := pn } body t ∧ ∀ H2, KM M H H2 → t { nx := fun i H0 _ H' => i = N ∧ Kept (S0of H) H0 H', rt := fun i H0 v H' => v = .non ∧ i = N ∧ Kept (S0of H) H0 H' } 0 H2 (start Ns vs) H2) :
    FnG n P w K mg base (k + 1) f sp := by
  intro A outer s H us vs N Yx hr e0 r hsp
  have hl : vs.length = ps.length := len _ _ _ _ hsp
  have KX : K.In s.heap := e0.mod.kin.keeps fun b o e => (e0.bs b o e).1
  have lim : s.heap.NoLimit := e0.mod.nolimit.keeps fun b o e => (e0.bs b o e).1
  have hkind : ∀ y ∈ ps.zip us, scope.names.lookup y.1 = some .local ∨ (scope.names.lookup y.1 = some .cell ∧ ((cellsFrom (s.heap.objs.size + 1) scope.names []).lookup y.1).isSome = true) := fun ⟨m, v⟩ hy => by
    rcases S.par m (List.of_mem_zip hy).1 with q | q
    · exact .inl q
    · exact .inr ⟨q, PySem.W.cellsFrom_some _ _ _ (.inl q)⟩
  have hul : us.length = ps.length := by rw [← r.length]; exact hl
  have hb := b s us KX (by rw [List.append_nil]; exact hul)
  rw [List.append_nil] at hb
  refine codeAny_call_generator hr.depth (KX _ _ lk) rfl S.co S.gen rfl (PySem.W.codeRec_of KX hcd) (hb _ _ _ _ ?_)
  refine wpAny_newFunctionEnv_cells S.kind hkind fun env he s1 x => ?_
  subst he
  have lim1 : s1.heap.NoLimit := lim.keeps x.toInCall.keep
  refine ⟨lim1, ?_⟩
  obtain ⟨h1, tk, es1, hk1⟩ := x.done
  have os1 : s1.os = s.os := by rw [es1]
  have gen1 : s1.gens = s.gens := by rw [es1]
  have lt1 : s.heap.objs.size < s1.heap.objs.size := x.toInCall.ns.lt
  have kp1 : ∀ b o, s.heap.get? b = some o → s1.heap.get? b = some o := x.toInCall.keep
  have I1 : ∀ {Aw : Around}, Room (k + 1) Aw → Aw.frames = some outer → Inv (gcxOf P w K mg base Ns qual scope f cdv Aw outer s H (fun _ _ _ => False) []).nox [] (start Ns vs) H s1 := fun {Aw} hrw hfr =>
    (inv_startG S hrw.hd (⟨hfr, e0.mod, e0.bs, e0.bsz, e0.funs, e0.frf, e0.hok, e0.bare⟩ : Env0 P w K mg base Aw outer s H) hl r x).wish _
  have IA := I1 hr e0.frames
  have notF : s.heap.objs.size ∉ frs outer := fun hm => by
    obtain ⟨_, o, e, _⟩ := e0.funs.mem hm
    exact absurd (Heap.lt_size e) (Nat.lt_irrefl _)
  obtain ⟨oL, eL, hob⟩ := ob_of IA rfl rfl notF
  have main : ∀ (go : Obj) (nm qn : Value) (tk2 : Nat), go.cls = .type "generator" → go.data = .fields #[.int s1.gens.size 0, nm, qn] → go.slots = #[] → (∀ h : Heap, (h.push go).get? h.objs.size = some go) →
      GMk P w K mg base n (k + 1) outer H s N Yx s1.heap.objs.size s1.gens.size (.func body (envOfC qual scope s.heap.objs.size f cdv)) s.heap.objs.size oL { s1 with gens := s1.gens.push (.fresh (.func body (envOfC qual scope s.heap.objs.size f cdv))), toks := tk2, heap := s1.heap.push go } := by
    intro go nm qn tk2 hgc hgd hgs hgp
    have hpushed : (s1.heap.push go).get? s1.heap.objs.size = some go := hgp _
    have kp2 : ∀ b o, s1.heap.get? b = some o → (s1.heap.push go).get? b = some o := fun b o e => Heap.get?_push_of_some _ e
    refine ⟨Nat.le_of_lt lt1, ?_, ⟨go, nm, qn, hpushed, hgc, hgd, hgs⟩, Array.getElem?_push_size .., os1, AllBare.push (by rw [gen1]; exact e0.bare) rfl, fun b o e => kp2 b o (kp1 b o e), Nat.le_refl _, Nat.ne_of_lt lt1, fun p hp => ?_, ?_⟩
    · show _ < (s1.heap.push go).objs.size
      rw [Heap.size_push]
      exact Nat.lt_succ_self _
    · obtain ⟨q1, q2, q3, q4⟩ := hob p hp
      exact ⟨kp2 _ _ q1, q2, q3, q4⟩
    · intro Aw pa M hrw hfr hpa hM
      obtain ⟨t, ht, hq⟩ := hbody Aw outer s H vs N Yx M (pa.map fun b => (b, default)) (hrw.deeper _) hsp hM
      have epa : (pa.map fun b => (b, (default : Obj))).map (·.1) = pa := by
        rw [List.map_map]
        exact List.map_id pa
      have res := asl_of (G := ⟨n, N, Yx, S0of H, M⟩) (X₀ := { (cxOf CX0 P w K mg base Ns qual scope f cdv Aw outer s H fun _ _ _ => False).nox with pn := pa.map fun b => (b, default) }) (A := Aw) rfl (hnc _) rfl rfl notF (by show s.heap.objs.size ∉ _; rw [epa]; exact hpa)
        N 0 (Nat.zero_add _) (gcxOf P w K mg base Ns qual scope f cdv Aw outer s H (fun _ _ _ => False) []).nox [] (start Ns vs) H s1 oL (.fresh (.func body (envOfC qual scope s.heap.objs.size f cdv))) ⟨s, H, [], rfl, rfl⟩ (I1 hrw hfr) eL
        (fun X' hX' s'' J hn hk Φ' hΦ' => by
          refine sg_func fun J' => ?_
          refine ht Aw [] _ _ _ _ _ _ _ ⟨over_func, rfl, rfl, rfl⟩ (fun X2 hX2 m2 i2 s2 fl Φ2 hm2 hΦ2 hn2 hs2 => ?_) (fun b _ z => nomatch z) X' hX' N 0 s'' _ _ Φ' (Nat.zero_add _) hΦ' hn J (hq _ hk)
          cases fl with
          | next =>
            obtain ⟨σ', H', J2, e2, kp⟩ := hs2
            exact sg_end (.ok (.ret .none)) (hΦ2.fin e2 s2 σ' H' J2 hn2 kp)
          | brk => obtain ⟨_, _, _, q⟩ := hs2; exact q.elim
          | cont => obtain ⟨_, _, _, q⟩ := hs2; exact q.elim
          | ret u =>
            obtain ⟨v, σ', H', J2, rv, ev, e2, kp⟩ := hs2
            subst ev
            obtain rfl : u = Value.none := rv
            exact sg_end (.ok (.ret .none)) (hΦ2.fin e2 s2 σ' H' J2 hn2 kp))
      have eng : ({ (cxOf CX0 P w K mg base Ns qual scope f cdv Aw outer s H fun _ _ _ => False).nox with pn := pa.map fun b => (b, (default : Obj)) } : Cx).pn.map (·.1) = pa := epa
      rw [eng] at res
      exact res
  exact ⟨_, _, _, _, oL, rfl, main _ _ _ _ rfl rfl rfl fun h => Heap.get?_push_size _ rfl⟩
end TG
end
section
set_option Elab.async false
set_option maxRecDepth 100000
set_option linter.all false
namespace TG
open PySem PySem.Spec PyProof.Rows L2 TH GenW
/-- the frame's own things are older than the generator's call -/
structure Old (X : Cx) (pins : List (Addr × Obj)) (ng : Nat) : Prop where
  loc : X.env.locals < ng
  cell : ∀ x c, X.env.cells.lookup x = some c → c < ng
  pin : ∀ p ∈ X.pn ++ pins, p.1 < ng
  sz : X.s_0.heap.objs.size ≤ ng
theorem Old.of {X : Cx} {pins : List (Addr × Obj)} {σ : L2.St} {H : Hp} {s : Shared} (I : Inv X pins σ H s) : Old X pins s.heap.objs.size where
  loc := I.lt
  cell := fun x c e => by
    obtain ⟨v, o, h, _⟩ := I.cell x c e
    exact Heap.lt_size h
  pin := fun p hp => Heap.lt_size (I.pin p hp).1
  sz := I.sz
/-- a generator asleep, its consumer's frame about it -/
structure Slp (X : Cx) (B : Around) (G : GP) (ng : Nat) (a g : Nat) (go : Obj) (pa : List Addr) (i : Nat) (H : Hp) (s : Shared) : Prop where
  le : i ≤ G.N
  go1 : go.cls = .type "generator"
  go2 : ∃ nm qn, go.data = .fields #[.int g 0, nm, qn]
  go3 : go.slots = #[]
  an : ng ≤ a
  st : ∃ OB Hy gs, s.gens[g]? = some gs ∧ (0 < i → Sus gs = true) ∧ KM G.M Hy H ∧ ObOk X.stack ((a, go) :: OB) s H ∧ (∀ b ∈ a :: pa, b ∉ OB.map (·.1)) ∧ Asl X.prog X.w X.K X.mg X.base G B.in1 X.stack ng (a :: pa) (G.N - i) i OB Hy gs
/-- what the consumer holds besides -/
def Hold (X : Cx) (hold : List (Addr × Obj)) (H : Hp) (s : Shared) : Prop := ObOk X.stack hold s H
theorem allBare_set {s : Shared} {g : Nat} {x : GenState} (h : AllBare s.gens) (hx : x.bare = true) : AllBare (s.setGen g x).gens := allBare_setGen h hx
/-- the invariant behind a stretch -/
theorem inv_step {X : Cx} {pins : List (Addr × Obj)} {σ : L2.St} {H H' : Hp} {s s' : Shared} {ng : Nat} {pn : List (Addr × Obj)} {G : Array GenState} (I : Inv X pins σ H s) (O : Old X pins ng) (S : Stp X.prog X.w X.stack ng s H pn s' H') (hG : AllBare G) : Inv X pins σ H' (wg s' G) := by
  refine I.call' (ch := chOf ng s.heap.objs.size (pn.map (·.1))) S.os S.un S.hok hG fun b hb => ?_
  obtain ⟨_, h2, _⟩ := mem_ch.mp hb
  refine ⟨.inr (Nat.le_trans O.sz h2), fun z => ?_, fun x c e z => ?_, fun p hp z => ?_⟩
  · exact Nat.lt_irrefl _ (Nat.lt_of_lt_of_le O.loc (by rw [← z]; exact h2))
  · exact Nat.lt_irrefl _ (Nat.lt_of_lt_of_le (O.cell x c e) (by rw [z]; exact h2))
  · exact Nat.lt_irrefl _ (Nat.lt_of_lt_of_le (O.pin p hp) (by rw [z]; exact h2))
theorem env_set {P : Program} {w : World} {K : PySem.W.Frag} {mg : Str → Option Value} {base : Heap} {A B : Around} {outer : List Env} {s : Shared} {H : Hp} {g : Nat} (e : Env0 P w K mg base A outer s H) (hB : B.frames = some outer) : Env0 P w K mg base B outer (s.setGen g .running) H :=
  ⟨hB, e.mod, e.bs, e.bsz, e.funs, e.frf, e.hok, allBare_set e.bare rfl⟩
theorem turn {X : Cx} {B : Around} {G : GP} {ng a g i k : Nat} {go : Obj} {pa : List Addr} {hold : List (Addr × Obj)} {pins : List (Addr × Obj)} {σ : L2.St} {H : Hp} {s : Shared} {Q : Option Value → Shared → Prop} {E : Value → Shared → Prop} (I : Inv X pins σ H s) (O : Old X pins ng) (hr : Room k B) (hB : B.frames = some X.stack) (hn : G.n ≤ s.toks) (S : Slp X B G ng a g go pa i H s) (hpa : hold.map (·.1) = pa) (hh : Hold X hold H s)
    (hy : i < G.N → ∀ x v s' H', RelV x v → Inv X pins σ H' s' → G.n ≤ s'.toks → Kept G.S0 H H' → G.Yx i x H' → Slp X B G ng a g go pa (i + 1) H' s' → Hold X hold H' s' → Q (some v) s')
    (hs : i = G.N → ∀ s' H', Inv X pins σ H' s' → G.n ≤ s'.toks → Kept G.S0 H H' → Hold X hold H' s' → Q none s') : wpAny (model X.prog X.w) B (pyNext (.ref a)) Q E s := by
  obtain ⟨OB, Hy, gs, hgs, _, hk, hob, _, hA⟩ := S.st
  obtain ⟨nm, qn, gd⟩ := S.go2
  obtain ⟨ha1, ha2, ha3, ha4⟩ := hob _ List.mem_cons_self
  have isg : ∀ {h : Heap}, h.get? a = some go → h.IsGen a g := fun e => ⟨go, nm, qn, e, S.go1, gd, S.go3⟩
  have gl : g < s.gens.size := (Array.getElem?_eq_some_iff.mp hgs).1
  have W : WkAt X.prog X.w X.K X.mg X.base G.n B.in1 X.stack ng (a :: pa) OB (s.setGen g .running) H ((a, go) :: hold) := by
    refine ⟨env_set I.env0 hB, hn, Nat.le_of_lt (Nat.lt_of_le_of_lt S.an (Heap.lt_size ha1)), fun p hp => ?_, by rw [← hpa]; rfl, fun p hp => ?_⟩
    · obtain ⟨q1, q2, _⟩ := hob p (List.mem_cons_of_mem _ hp)
      exact ⟨q1, q2⟩
    · rcases List.mem_cons.mp hp with rfl | hp
      · exact ⟨ha1, ha2, ha3, ha4⟩
      · exact hh p hp
  -- the generator's object stands behind a stretch
  have stay : ∀ {s' : Shared} {H' : Hp}, Stp X.prog X.w X.stack ng (s.setGen g .running) H ((a, go) :: hold) s' H' → ObOk X.stack ((a, go) :: hold) s' H' := fun {s' H'} P q hq => by
    have nch : q.1 ∉ chOf ng (s.setGen g .running).heap.objs.size (((a, go) :: hold).map (·.1)) := fun z => (mem_ch.mp z).2.2 (List.mem_map.mpr ⟨q, hq, rfl⟩)
    have hq0 : s.heap.get? q.1 = some q.2 ∧ H q.1 = none ∧ q.1 ∉ frs X.stack ∧ ∀ v, q.2.data ≠ .cell v := by
      rcases List.mem_cons.mp hq with rfl | hq
      · exact ⟨ha1, ha2, ha3, ha4⟩
      · exact hh q hq
    exact ⟨P.un.keep q.1 q.2 hq0.1 hq0.2.1 hq0.2.2.1 nch, P.un.free q.1 q.2 hq0.1 hq0.2.1 nch, hq0.2.2.1, hq0.2.2.2⟩
  have Irun : Inv X pins σ H (s.setGen g .running) := ⟨I.ok, I.os, allBare_set I.bare rfl, I.base, I.loc, I.cell, I.free, I.freeC, I.pin, I.hok, I.len⟩
  let Φ : End → Shared → Prop := fun e s₁ => match e with
    | .susp v gd lv kk c p fs => ∃ x H' OB', RelV x v ∧ gd = false ∧ fs.any Frame.guarded = false ∧ i < G.N ∧ G.n ≤ s₁.toks ∧ Stp X.prog X.w X.stack ng (s.setGen g .running) H ((a, go) :: hold) s₁ H' ∧ Kept G.S0 H H' ∧ G.Yx i x H' ∧ ObOk X.stack OB' s₁ H' ∧ (∀ b ∈ a :: pa, b ∉ OB'.map (·.1)) ∧
        Asl X.prog X.w X.K X.mg X.base G B.in1 X.stack ng (a :: pa) (G.N - (i + 1)) (i + 1) OB' H' (.suspended kk lv c p fs false)
    | .ret r => r = .ok (.ret .none) ∧ i = G.N ∧ ∃ H', G.n ≤ s₁.toks ∧ Stp X.prog X.w X.stack ng (s.setGen g .running) H ((a, go) :: hold) s₁ H' ∧ Kept G.S0 H H'
  have wk : Wk (model X.prog X.w) B.in1 Φ gs (s.setGen g .running) := by
    have fin : i = G.N → ∀ s' H', Stp X.prog X.w X.stack ng (s.setGen g .running) H ((a, go) :: hold) s' H' → G.n ≤ s'.toks → Kept G.S0 H H' → Φ (.ret (.ok (.ret .none))) s' := fun e s' H' P hn' kp => ⟨rfl, e, H', hn', P, kp⟩
    cases hm : G.N - i with
    | zero =>
      rw [hm] at hA
      exact hA _ H _ W hk Φ fin
    | succ m =>
      rw [hm] at hA
      refine hA _ H _ W hk Φ fin fun x v s' H' l kk c p fs OB' rv hg hn' P kp hyx hob' hdis hA' => ?_
      refine ⟨x, H', OB', rv, rfl, hg, by omega, hn', P, kp, hyx, hob', hdis, ?_⟩
      rw [show G.N - (i + 1) = m by omega]
      exact hA'
  refine next_wake hr.hd I.nolimit hr.depth (isg ha1) hgs wk (fun v gd lv kk c p fs s₁ gz he => ?_) fun r s₁ he => ?_
  · obtain ⟨x, H', OB', rv, rfl, hg, hlt, hn', P, kp, hyx, hob', hdis, hA'⟩ := he
    have eg : (End.susp v false lv kk c p fs).genState = .suspended kk lv c p fs false := by
      show GenState.suspended kk lv c p fs (false || fs.any Frame.guarded) = _
      rw [hg]
      rfl
    have st' := stay P
    refine ⟨by show (!(false || fs.any Frame.guarded)) = true; rw [hg]; rfl, ?_⟩
    rw [eg]
    have bare' : AllBare (s₁.setGen g (.suspended kk lv c p fs false)).gens := allBare_set P.bare rfl
    refine hy hlt x v _ H' rv (inv_step Irun O P bare') hn' kp hyx ⟨hlt, S.go1, S.go2, S.go3, S.an, OB', H', _, ?_, fun _ => rfl, KM.refl _ _, fun q hq => ?_, hdis, hA'⟩ fun q hq => st' q (List.mem_cons_of_mem _ hq)
    · have hsz : g < s₁.gens.size := Nat.lt_of_lt_of_le gl gz
      show (s₁.gens.setIfInBounds g _)[g]? = _
      rw [Array.getElem?_setIfInBounds_self, if_pos hsz]
    · rcases List.mem_cons.mp hq with rfl | hq
      · exact st' _ List.mem_cons_self
      · exact hob' q hq
  · obtain ⟨rfl, ei, H', hn', P, kp⟩ := he
    refine ⟨.inl rfl, fun h' hk' => ?_⟩
    have bare' : AllBare (s₁.setGen g .finished).gens := allBare_set P.bare rfl
    have J := inv_step Irun O P bare'
    exact hs ei _ H' (J.kept (t' := s₁.toks) hk') hn' kp fun q hq => by
      obtain ⟨y1, y2, y3, y4⟩ := stay P q (List.mem_cons_of_mem _ hq)
      exact ⟨hk' _ _ y1, y2, y3, y4⟩
end TG
end
section
set_option Elab.async false
set_option maxRecDepth 100000
set_option linter.all false
namespace TG
open PySem PySem.Spec PyProof.Rows L2 TH GenW
theorem wpAny_letgo {M : Model} {A : Around} {E : Value → Shared → Prop} {s : Shared} {a : Addr} {tg : Expr} {v : Value} {go : Obj} {Q : Unit → Shared → Prop} (h1 : s.heap.get? a = some go) (h2 : go.cls = .type "generator") (h : Q () s) : wpAny M A (letOwnedTupleGo tg (.ref a) v) Q E s := by
  unfold letOwnedTupleGo
  split
  case h_3 => exact wpAny_pure h
  all_goals
    cases v
    case ref b =>
      refine wpAny_bind (wpAny_load h1 ?_)
      rw [h2]
      cases go.data
      case fields vs =>
        show wpAny M A (if (false && _) = true then _ else _) Q E s
        rw [Bool.false_and, if_neg Bool.false_ne_true]
        exact wpAny_pure h
      all_goals exact wpAny_pure h
    all_goals exact wpAny_pure h
theorem inv_lull {X : Cx} {pins : List (Addr × Obj)} {σ : L2.St} {H : Hp} {s : Shared} (I : Inv X pins σ H s) : Inv X pins σ H (lull s) := ⟨I.ok, I.os, lull_bare I.bare, I.base, I.loc, I.cell, I.free, I.freeC, I.pin, I.hok, I.len⟩
theorem inv_wg {X : Cx} {pins : List (Addr × Obj)} {σ : L2.St} {H : Hp} {s : Shared} {G : Array GenState} (I : Inv X pins σ H s) (h : AllBare G) : Inv X pins σ H (wg s G) := ⟨I.ok, I.os, h, I.base, I.loc, I.cell, I.free, I.freeC, I.pin, I.hok, I.len⟩
section
variable {X : Cx} {n : Nat}
def tForG (sp : SpGn) (ta : TA) (g : TG) (tb : TS) : TS := fun D σ H => ta σ H fun vs H1 => ∃ (N : Nat) (Yx : Nat → V → Hp → Prop) (M : Addr → Prop), sp vs H1 N Yx ∧ MOk H1 M ∧ ∃ Pv : Nat → L2.St → Hp → Prop, Pv 0 σ H1 ∧
  (∀ i x σ2 H2 H3, i < N → Pv i σ2 H2 → Kept (S0of H1) H2 H3 → Yx i x H3 → g x σ2 H3 fun σ4 H4 => tb { D with nx := fun σ5 H5 => KM M H3 H5 ∧ Pv (i + 1) σ5 H5, ct := fun σ5 H5 => KM M H3 H5 ∧ Pv (i + 1) σ5 H5, bk := D.nx } σ4 H4) ∧
  ∀ σ2 H2 H3, Pv N σ2 H2 → Kept (S0of H1) H2 H3 → D.nx σ2 H3
theorem psn_forG {k : Nat} {f : Addr} {sp : SpGn} {x : Str} {e : Expr} {es : List Expr} {tg : Expr} {body : List Stmt} {ta : TA} {g : TG} {tb : TS} {p pos pos' : Pos} (hx : X.xe = fun _ _ => False) (hst : X.stack = X.env :: X.outer) (hfr : X.env.frame = some X.env.locals) (F : FnG n X.prog X.w X.K X.mg X.base k f sp) (hr : Room (k + 1) X.A) (hg : Gl X x) (hm : X.mg x = some (.ref f)) (hk : PySem.W.keepIn X.K (.ref f) = true)
    (ha : PAn n X (e :: es) ta) (hgt : PG X tg g) (hb : PSsn n X body tb) (hdb : (x == ("__debug__" : Str)) = false := by decide) (he : starEach (e :: es) X.env = (false, eval e X.env) :: starEach es X.env := by rfl) (hpl : (backTo pos (starEach es X.env)).any (·.1) = false := by rfl)
    (hs : ∀ z, foldedSetIterable (.Call (.Name x p) (e :: es) [] pos) X.env z = pure z := by intro _; rfl) : PSn n X (.For tg (.Call (.Name x p) (e :: es) [] pos) body [] pos') (tForG sp ta g tb) := by
  intro pins s σ H D hn I h
  rw [hx]
  refine wpAny_For ?_ hs
  refine wpAny_Call_Name_kw (ld_glob I hg hm ?_ hdb)
  have hargs := ha pos pins s σ H _ hn I h
  rw [hx] at hargs
  refine PySem.W.callWith_K (h₀ := X.base) I.ok.mod.kin hk (thnN hn hargs fun us s1 hn1 ⟨vs, H1, I1, r, q⟩ => ⟨I1.kIn, ?_⟩) he hpl
  obtain ⟨N, Yx, M, hsp, hM, Pv, h0, step, done⟩ := q
  have hr0 : Room k X.A := hr.mono (Nat.le_succ k)
  have called : wpAny (model X.prog X.w) X.A (call (.ref f) us) (fun u s' => ∃ a g c L oL, u = .ref a ∧ GMk X.prog X.w X.K X.mg X.base n k X.stack H1 s1 N Yx a g c L oL s') (fun _ _ => False) s1 := by
    refine wpAny_call (codeAny_mono (F X.A X.stack s1 H1 us vs N Yx hr0 I1.env0 r hsp) fun rr s2 hq => ?_)
    obtain ⟨a, gn, c, L, oL, rfl, Z⟩ := hq
    exact ⟨a, gn, c, L, oL, rfl, Z⟩
  refine thnN hn1 called fun u s2 hn2 hq => ?_
  obtain ⟨a, gn, c, L, oL, rfl, Z⟩ := hq
  have I2 : Inv X pins σ H1 s2 := I1.call' (ch := []) Z.os (Un.kept Z.keep) (I1.hok.kept Z.keep) Z.bare fun b z => by simp at z
  refine wpAny_pyIter_gen Z.isg ?_
  obtain ⟨go, nm, qn, ga, gc, gd, gs0⟩ := Z.isg
  have O : Old X pins s1.heap.objs.size := Old.of I1
  have an2 : H1 a = none := I1.hok.fresh Z.a1
  have af : a ∉ frs X.stack := fun hm' => by
    rcases List.mem_cons.mp (I1.stkSub a hm') with z | z
    · exact absurd I1.lt (by rw [← z]; exact Nat.not_lt.mpr Z.a1)
    · exact I1.nofs Z.a1 z
  have S0 : Slp X X.A ⟨n, N, Yx, S0of H1, M⟩ s1.heap.objs.size a gn go [] 0 H1 s2 := by
    refine ⟨Nat.zero_le _, gc, ⟨nm, qn, gd⟩, gs0, Z.a1, [(L, oL)], H1, _, Z.gs, fun z => absurd z (Nat.lt_irrefl 0), KM.refl _ _, fun q hq => ?_, ?_, ?_⟩
    · rcases List.mem_cons.mp hq with rfl | hq
      · exact ⟨ga, an2, af, fun v z => by rw [gd] at z; cases z⟩
      · exact Z.ob q hq
    · intro b hb z
      rw [List.mem_singleton.mp hb] at z
      exact Z.la (List.mem_singleton.mp z).symm
    · exact Z.asl X.A.in1 [a] M hr.in1 I1.ok.frames (fun z => Z.la (List.mem_singleton.mp z)) hM
  -- the turns
  refine codeAny_forLoop_any (fun m s' => n ≤ s'.toks ∧ ∃ i σ' H', i + m = N ∧ Inv X pins σ' H' s' ∧ Slp X X.A ⟨n, N, Yx, S0of H1, M⟩ s1.heap.objs.size a gn go [] i H' s' ∧ Pv i σ' H') ?_ N ⟨hn2, 0, σ, H1, Nat.zero_add _, I2, S0, h0⟩
  rintro m s3 ⟨hn3, i, σ3, H3, him, I3, S3, p3⟩
  refine turn (hold := []) I3 O hr I3.ok.frames hn3 S3 rfl (fun q hq => nomatch hq) (fun hlt x v s4 H4 rv I4 hn4 kp hyx S4 _ => ?_) fun ei s4 H4 I4 hn4 kp _ => ?_
  · have S4' := S4
    obtain ⟨OB, Hy, gs, hgs, hsus, hk4, hob, hdis, hA⟩ := S4.st
    obtain ⟨ga4, ga5, ga6, ga7⟩ := hob _ List.mem_cons_self
    have hsg := hsus (Nat.succ_pos i)
    refine wpAny_letgo ga4 gc ?_
    -- the generator's own things, pinned
    have J4 : Inv X (pins ++ (a, go) :: OB) σ3 H4 s4 := I4.pins_of fun q hq => by
      rcases List.mem_append.mp hq with hq | hq
      · exact I4.pin q (List.mem_append_right _ hq)
      · obtain ⟨q1, q2, q3, q4⟩ := hob q hq
        rw [hst] at q3
        refine ⟨q1, q2, fun z => q3 ?_, fun z => q3 ?_, q4⟩
        · show q.1 ∈ frs (X.env :: X.outer)
          unfold frs
          rw [List.filterMap_cons, hfr, z]
          exact List.mem_cons_self
        · show q.1 ∈ frs (X.env :: X.outer)
          unfold frs
          rw [List.filterMap_cons, hfr]
          exact List.mem_cons_of_mem _ z
    have h5 := hgt.run _ (lull s4) σ3 H4 x v _ (inv_lull J4) rv (step i x σ3 H3 H4 hlt p3 kp hyx)
    rw [hx] at h5
    refine wpAny_mono (wpAny_toks_of hn4 (wpAny_mirror h5)) (fun _ s5 q5 => ?_) fun _ _ z => by obtain ⟨_, _, _, _, _, z⟩ := z; exact z.elim
    obtain ⟨hn5, x5, G5, rfl, R5, σ5, H5, I5, q5⟩ := q5
    have b5 : AllBare G5 := R5.bare I4.bare I5.bare
    have J5 : Inv X (pins ++ (a, go) :: OB) σ5 H5 (wg x5 G5) := inv_wg I5 b5
    have g5 : (wg x5 G5).gens[gn]? = some gs := R5.keep hgs hsg
    have h6 := hb _ (lull (wg x5 G5)) σ5 H5 _ hn5 (inv_lull J5) q5
    rw [hx] at h6
    refine wpAny_mono (wpAny_toks_of hn5 (wpAny_mirror h6)) (fun fl s6 q6 => ?_) fun _ _ z => by obtain ⟨_, _, _, _, _, z⟩ := z; exact z.elim
    obtain ⟨hn6, x6, G6, rfl, R6, q6⟩ := q6
    have more : ∀ {σ6 : L2.St} {H6 : Hp}, Inv X (pins ++ (a, go) :: OB) σ6 H6 x6 → KM M H4 H6 → Pv (i + 1) σ6 H6 → ∃ m', m' < m ∧ (n ≤ (wg x6 G6).toks ∧ ∃ i σ' H', i + m' = N ∧ Inv X pins σ' H' (wg x6 G6) ∧ Slp X X.A ⟨n, N, Yx, S0of H1, M⟩ s1.heap.objs.size a gn go [] i H' (wg x6 G6) ∧ Pv i σ' H') := fun {σ6 H6} I6 km p6 => by
      have hlt : i < N := hlt
      refine ⟨m - 1, by omega, hn6, i + 1, σ6, H6, by omega, (inv_wg I6 (R6.bare J5.bare I6.bare)).unpinned, ⟨S4.le, S4.go1, S4.go2, S4.go3, S4.an, OB, Hy, gs, R6.keep g5 hsg, hsus, hk4.trans km, fun q hq => ?_, hdis, hA⟩, p6⟩
      obtain ⟨z1, z2, z3, z4, z5⟩ := I6.pin q (List.mem_append_right _ (List.mem_append_right _ hq))
      exact ⟨z1, z2, (hob q hq).2.2.1, z5⟩
    have fin6 : ∀ {σ6 : L2.St} {H6 : Hp}, Inv X (pins ++ (a, go) :: OB) σ6 H6 x6 → Inv X pins σ6 H6 (wg x6 G6) := fun I6 => (inv_wg I6 (R6.bare J5.bare I6.bare)).unpinned
    cases fl with
    | next => obtain ⟨σ6, H6, I6, km, p6⟩ := q6; exact more I6 km p6
    | cont => obtain ⟨σ6, H6, I6, km, p6⟩ := q6; exact more I6 km p6
    | brk => obtain ⟨σ6, H6, I6, z⟩ := q6; exact ⟨σ6, H6, fin6 I6, z⟩
    | ret v => obtain ⟨x7, σ6, H6, I6, r7, z⟩ := q6; exact ⟨x7, σ6, H6, fin6 I6, r7, z⟩
  · exact wpAny_execs_nil ⟨σ3, H4, I4, done σ3 H3 H4 (by rw [← show i = N from ei]; exact p3) kp⟩
end
end TG
end
namespace TG
end TG
namespace TM
end TM
section
set_option Elab.async false
set_option maxRecDepth 100000
set_option linter.all false
namespace TR
open PySem PySem.Spec PyProof.Rows L2 TM TK TB TP TH TU TG GenW
theorem tray_imp {K : PySem.W.Frag} {D p : Addr} {H H' : Hp} {g : Grid} (h : TrayAt K D H p g) (s : ∀ b o, mutO o = false → H b = some o → H' b = some o) : TrayAt K D H' p g := by
  obtain ⟨dx, a, h, t⟩ := h
  exact ⟨dx, a, s _ _ rfl h, t.imp (fun z => z.imp (fun z => s _ _ rfl z) fun ⟨o, z⟩ => ⟨o, s _ _ rfl z⟩) fun z => z⟩
theorem tray_km {K : PySem.W.Frag} {D p : Addr} {M : Addr → Prop} {H1 H2 : Hp} {g : Grid} (h : TrayAt K D H1 p g) (hM : MOk H1 M) (k : KM M H1 H2) : TrayAt K D H2 p g := by
  refine tray_imp h fun b o m e => k.k b o (fun z => ?_) e
  obtain ⟨o', e1, m1⟩ := hM b z
  rw [e1] at e
  cases e
  rw [m] at m1
  cases m1
theorem mok_km {M : Addr → Prop} {H1 H2 : Hp} (h : MOk H1 M) (k : KM M H1 H2) : MOk H2 M := fun b z => by
  obtain ⟨o, e, m⟩ := h b z
  exact k.m b o z e m
theorem mok_same {M : Addr → Prop} {H1 H2 : Hp} (h : MOk H1 M) (k : Same H1 H2) : MOk H2 M := fun b z => by
  obtain ⟨o, e, m⟩ := h b z
  exact ⟨o, k b o e, m⟩
theorem gst_pl {G : GP} {X₀ : Cx} {st : Stmt} {t : TS} (hx : X₀.xe = fun _ _ => False) (h : ∀ s0 H0 pn, PSn G.n { X₀ with s_0 := s0, H_0 := H0, pn := pn } st t) : TG.GSt G X₀ st (TG.tPl t) :=
  TG.gst_plain hx fun X hX => by
    obtain ⟨s0, H0, pn, rfl, _⟩ := hX
    exact h s0 H0 pn
theorem gst_yd {G : GP} {X₀ : Cx} {e : Expr} {yp pos : Pos} {te : TE} (hx : X₀.xe = fun _ _ => False) (he : ∀ s0 H0 pn, PEn G.n { X₀ with s_0 := s0, H_0 := H0, pn := pn } e te) (hco : X₀.env.scope.isCoroutine = false := by rfl) (hi : interactive X₀.env = false := by rfl) : TG.GSt G X₀ (.Expr (.Yield (some e) yp) pos) (TG.tGYd G te) :=
  TG.gst_yield hx (fun X hX => by
    obtain ⟨s0, H0, pn, rfl, _⟩ := hX
    exact he s0 H0 pn) hco hi
theorem gst_fo {G : GP} {X₀ : Cx} {tg iter : Expr} {body : List Stmt} {wi : TI} {g : TG} {tb : TG.TGs} {pos : Pos} (hx : X₀.xe = fun _ _ => False) (hc : X₀.calm = true) (hi : ∀ s0 H0 pn, PI { X₀ with s_0 := s0, H_0 := H0, pn := pn } tg iter wi) (hg : ∀ s0 H0 pn, PG { X₀ with s_0 := s0, H_0 := H0, pn := pn } tg g) (hb : TG.GSs G X₀ body tb)
    (hs : ∀ x, foldedSetIterable iter X₀.env x = pure x := by intro _; rfl) : TG.GSt G X₀ (.For tg iter body [] pos) (TG.tGFor wi g tb) :=
  TG.gst_for hx hc (fun X hX => by
    obtain ⟨s0, H0, pn, rfl, _⟩ := hX
    exact hi s0 H0 pn) (fun X hX => by
    obtain ⟨s0, H0, pn, rfl, _⟩ := hX
    exact hg s0 H0 pn) hb hs
section
variable {P : Program} {w_ : World} {K : PySem.W.Frag} {mg : Str → Option Value} {base : Heap} {n : Nat} {C D fRs fCn fI fWi aO : Addr} {fdCn fdI fdWi : FuncData}
end
end TR
end
section
set_option Elab.async false
set_option maxRecDepth 100000
set_option linter.all false
namespace TR
open PySem PySem.Spec PyProof.Rows L2 TM TK TB TP TH TU
/-- the tilts worth trying behind a way -/
def nxt : List Nat → List Nat
  | [] => [100, 108, 114, 117]
  | [c] => if isH c then [100, 117] else [108, 114]
  | c :: d :: t => [TA.opp ((c :: d :: t).getD t.length 0)]
abbrev NNx : List Str := ["tilts"]
theorem scNx : FnScope NNx ["tilts"] (defScope sNextTilts) := ⟨rfl, rfl, rfl, by decide +kernel, rfl, by decide +kernel, by decide +kernel⟩
section
variable {P : Program} {w_ : World} {K : PySem.W.Frag} {mg : Str → Option Value} {base : Heap} {aO : Addr}
def spNx : Sp := fun vs H Q _ => ∃ t : List Nat, vs = [.str (S t)] ∧ t.length ≤ 1000000 ∧ (∀ c ∈ t, isT c = true) ∧ Q (.str (S (nxt t))) H
theorem ok_nx {f : Addr} {fd : FuncData} (F : Fun K "_next_tilts" "_next_tilts" sNextTilts f fd) (T : TxtW K mg) (mO : mg "OPPOSITES" = some (.ref aO)) (dO : ∀ c, isT c = true → KDct K w_ aO (S [c]) (sg (TA.opp c))) :
    FnOk P w_ K mg base CX0 1 f fd ["tilts"] spNx := by
  refine F.ok scNx (fun vs H Q E h => ?_) (fun cdv A outer s H vs Q E hr h => ?_)
  · obtain ⟨t, rfl, _⟩ := h
    rfl
  · obtain ⟨t, rfl, hl, hg, k⟩ := h
    refine ⟨_, pss_cons (ps_if (pt_cmpR op_eq (pv 0) pe_str (nomark _)) (pss_one (ps_ret pe_str)) pss_nil)
      (pss_cons (ps_if (pt_cmpR op_eq (pe_callB call_len_str (by rfl) T.len PySem.boot_len (pa_cons (pv 0) pa_nil)) pe_int (nomark _)) (pss_one (ps_ret (pe_ifExp (pt_cmpR op_in_sign (pv 0) (C8.pe_gc rfl T.AR) (by rfl)) pe_str pe_str))) pss_nil)
      (pss_one (ps_ret (pe_ix (TA.ix_kdictK (K := K) (w := w_) rfl rfl) (pe_glob (v := .ref aO) rfl mO rfl) (pe_ix ix_str (pv 0) (pe_un un_neg pe_int) (fun _ _ => rfl)) (fun _ _ => rfl))))), ?_⟩
    refine ⟨_, rfl, rfl, _, rfl, ?_⟩
    match t, hl, hg, k with
    | [], hl, hg, k => exact iteT k
    | c :: t, hl, hg, k =>
      rw [show decide (V.str (S (c :: t)) = V.str (Str.ofString "")) = false from decide_eq_false fun z => by
        have := congrArg (fun v => match v with | V.str x => x.length | _ => 0) z
        simp only [S_len] at this
        cases this]
      refine iteF ⟨_, rfl, S (c :: t), rfl, by rw [S_len]; show _ ≤ 16777216; omega, rfl, _, rfl, ?_⟩
      rw [S_len]
      match t, hl, hg, k with
      | [], hl, hg, k =>
        refine iteT ⟨_, rfl, c, S [108, 114], rfl, rfl, _, rfl, ?_⟩
        rw [dAR]
        have k : Q (V.str (S (if isH c then [100, 117] else [108, 114]))) H := k
        cases hh : isH c with
        | true => rw [hh] at k; exact iteT k
        | false => rw [hh] at k; exact iteF k
      | d :: t, hl, hg, k =>
        rw [show decide (V.int (((c :: d :: t).length : Nat) : Int) = V.int 1) = false from decide_eq_false fun z => by
          have := V.int.inj z
          simp only [List.length_cons] at this
          omega]
        have hi : t.length < (c :: d :: t).length := by simp only [List.length_cons]; omega
        have hgt : isT ((c :: d :: t).getD t.length 0) = true := by
          rw [List.getD_eq_getElem?_getD, List.getElem?_eq_getElem hi]
          exact hg _ (List.getElem_mem hi)
        refine iteF ⟨_, rfl, _, rfl, S (c :: d :: t), _, (c :: d :: t).getD t.length 0, rfl, rfl, by rw [S_len]; show _ ≤ 16777216; omega, ?_, aO, _, _, rfl, rfl, dO _ hgt, k⟩
        rw [S_list]
        unfold atI ixN
        rw [if_neg (by decide), if_pos (by simp only [List.length_cons]; omega)]
        simp only [Option.bind_some]
        rw [show (-(2 : Int) + ((c :: d :: t).length : Nat)).toNat = t.length by simp only [List.length_cons]; omega, List.getElem?_eq_getElem hi, List.getD_eq_getElem?_getD, List.getElem?_eq_getElem hi]
        rfl
end
end TR
end
section
set_option maxHeartbeats 4000000
set_option linter.all false
namespace TM
def fives : Nat → Nat
  | 0 => 0
  | k + 1 => 5 * fives k + 1
theorem fives_add (j : Nat) : ∀ d, fives (j + d) = fives d * (4 * fives j + 1) + fives j
  | 0 => by simp [fives]
  | d + 1 => by
    show 5 * fives (j + d) + 1 = _
    rw [fives_add j d]
    show _ = (5 * fives d + 1) * (4 * fives j + 1) + fives j
    rw [Nat.add_mul, Nat.mul_assoc 5]
    omega
theorem fives_two (d : Nat) : fives (2 * d) = 2 * (fives d * (2 * fives d + 1)) := by
  rw [show 2 * d = d + d by omega, fives_add]
  generalize fives d = x
  rw [Nat.mul_add, Nat.mul_add, show x * (4 * x) = 2 * (x * (2 * x)) by rw [Nat.mul_left_comm 2, show 4 * x = 2 * (2 * x) by omega]]
  omega
theorem fives_odd : ∀ d, fives (2 * d + 1) % 2 = 1 := fun d => by
  show (5 * fives (2 * d) + 1) % 2 = 1
  rw [fives_two]
  omega
theorem dvd_odd {x : Nat} : ∀ {n y : Nat}, y % 2 = 1 → 2 ^ n ∣ x * y → 2 ^ n ∣ x := fun {n y} hy h => by
  have hc : Nat.Coprime (2 ^ n) y := by
    refine Nat.Coprime.pow_left n ?_
    rw [Nat.coprime_iff_gcd_eq_one]
    have h1 : Nat.gcd 2 y ∣ 2 := Nat.gcd_dvd_left 2 y
    have h2 : Nat.gcd 2 y ∣ y := Nat.gcd_dvd_right 2 y
    have h3 : Nat.gcd 2 y ≤ 2 := Nat.le_of_dvd (by decide) h1
    have h0 : 0 < Nat.gcd 2 y := Nat.gcd_pos_of_pos_left _ (by decide)
    rcases (show Nat.gcd 2 y = 1 ∨ Nat.gcd 2 y = 2 by omega) with e | e
    · exact e
    · rw [e] at h2
      omega
  exact hc.dvd_of_dvd_mul_right h
theorem fives_dvd : ∀ (n d : Nat), 2 ^ n ∣ fives d → 2 ^ n ∣ d
  | 0, d, _ => by simp
  | n + 1, d, h => by
    have h2 : 2 ∣ fives d := Nat.dvd_trans (by rw [Nat.pow_succ]; exact Nat.dvd_mul_left 2 _) h
    have hd : d = 2 * (d / 2) := by
      rcases Nat.mod_two_eq_zero_or_one d with e | e
      · omega
      · have o := fives_odd (d / 2)
        rw [show 2 * (d / 2) + 1 = d by omega] at o
        omega
    rw [hd, fives_two, Nat.pow_succ, Nat.mul_comm _ 2] at h
    have h3 := Nat.dvd_of_mul_dvd_mul_left (by decide : 0 < 2) h
    have h4 := dvd_odd (by omega : (2 * fives (d / 2) + 1) % 2 = 1) h3
    have h5 := fives_dvd n (d / 2) h4
    rw [hd, Nat.pow_succ, Nat.mul_comm _ 2]
    exact Nat.mul_dvd_mul_left 2 h5
theorem fives_inj {n i j : Nat} (hi : i < 2 ^ n) (hj : j < 2 ^ n) (h : fives i % 2 ^ n = fives j % 2 ^ n) : i = j := by
  have key : ∀ {i j : Nat}, i ≤ j → j < 2 ^ n → fives i % 2 ^ n = fives j % 2 ^ n → i = j := fun {i j} hij hj h => by
    obtain ⟨d, rfl⟩ : ∃ d, j = i + d := ⟨j - i, by omega⟩
    rw [fives_add] at h
    have h1 : 2 ^ n ∣ fives d * (4 * fives i + 1) := by
      refine Nat.dvd_of_mod_eq_zero ?_
      have := Nat.sub_mod_eq_zero_of_mod_eq h.symm
      rwa [Nat.add_sub_cancel] at this
    have h2 := fives_dvd n d (dvd_odd (by omega) h1)
    rcases Nat.eq_zero_or_pos d with e | e
    · omega
    · have := Nat.le_of_dvd e h2
      omega
  rcases Nat.le_total i j with q | q
  · exact key q hj h
  · exact (key q hi h.symm).symm
theorem fives_pow : ∀ n, 2 ^ n ∣ fives (2 ^ n)
  | 0 => by simp
  | n + 1 => by
    rw [Nat.pow_succ, Nat.mul_comm _ 2, fives_two]
    exact Nat.mul_dvd_mul_left 2 (Nat.dvd_trans (fives_pow n) (Nat.dvd_mul_right _ _))
theorem lcgN_fives {m : Nat} (hm : 0 < m) : ∀ k, L2.lcgN m k = fives k % (m + 1)
  | 0 => by
    show 0 = 0 % (m + 1)
    simp
  | k + 1 => by
    show (L2.lcgN m k * 5 + 1) % (m + 1) = (5 * fives k + 1) % (m + 1)
    rw [lcgN_fives hm k, Nat.add_mod, Nat.mod_mul_mod, Nat.mul_comm, ← Nat.add_mod]
/-- a table of any size -/
def MaskN (m : Nat) : Prop := ∃ n, 1 ≤ n ∧ m + 1 = 2 ^ n
theorem MaskN.pos {m : Nat} (h : MaskN m) : 0 < m := by
  obtain ⟨n, h1, h2⟩ := h
  have : 2 ^ 1 ≤ 2 ^ n := Nat.pow_le_pow_right (by decide) h1
  omega
theorem lcg_allN {m : Nat} (hm : MaskN m) {j : Nat} (hj : j ≤ m) : ∃ b, b ≤ m ∧ L2.lcgN m b = j := by
  obtain ⟨n, h1, h2⟩ := id hm
  rcases Classical.em (∃ b, b ≤ m ∧ L2.lcgN m b = j) with c | c
  · exact c
  · exfalso
    have nd : ((List.range (m + 1)).map (L2.lcgN m)).Nodup := by
      refine List.pairwise_map.mpr (List.nodup_range.imp_of_mem fun {a b} ha hb hne e => hne ?_)
      have ha := List.mem_range.mp ha
      have hb := List.mem_range.mp hb
      rw [lcgN_fives hm.pos, lcgN_fives hm.pos, h2] at e
      rw [h2] at ha hb
      exact fives_inj ha hb e
    have le := L2.nat_nodup_len _ ((List.range (m + 1)).erase j) nd fun x hx => by
      obtain ⟨b, hb, rfl⟩ := List.mem_map.mp hx
      have hb := List.mem_range.mp hb
      have hlt : L2.lcgN m b < m + 1 := by
        rw [lcgN_fives hm.pos]
        exact Nat.mod_lt _ (by omega)
      exact (List.mem_erase_of_ne fun e => c ⟨b, by omega, e⟩).mpr (List.mem_range.mpr hlt)
    rw [List.length_map, List.length_erase_of_mem (List.mem_range.mpr (by omega)), List.length_range] at le
    omega
theorem lcgN_modN {m : Nat} (hm : MaskN m) (k : Nat) : L2.lcgN m (m + 1 + k) = L2.lcgN m k := by
  obtain ⟨n, h1, h2⟩ := id hm
  rw [lcgN_fives hm.pos, lcgN_fives hm.pos, h2, Nat.add_comm, fives_add]
  obtain ⟨c, e⟩ := fives_pow n
  rw [e, Nat.mul_assoc, Nat.mul_add_mod]
/-- from anywhere each slot is met within a round -/
theorem lcgI_allN {m : Nat} (hm : MaskN m) {i j : Nat} (hi : i ≤ m) (hj : j ≤ m) : ∃ k, k ≤ m ∧ L2.lcgI m i k = j := by
  obtain ⟨a, ha, rfl⟩ := lcg_allN hm hi
  obtain ⟨b, hb, rfl⟩ := lcg_allN hm hj
  by_cases q : a ≤ b
  · exact ⟨b - a, by omega, by rw [L2.lcgN_add, show a + (b - a) = b by omega]⟩
  · exact ⟨m + 1 + b - a, by omega, by rw [L2.lcgN_add, show a + (m + 1 + b - a) = m + 1 + b by omega, lcgN_modN hm]⟩
/-- each slot begins a run early enough -/
theorem run_meetsN {m : Nat} (hm : MaskN m) (h : Int) {j : Nat} (hj : j ≤ m) : ∃ n, n ≤ m + 12 ∧ L2.runI m (PySem.SetTable.bits h) n = j := by
  obtain ⟨k, hk, e⟩ := lcgI_allN hm (L2.runI_le m (PySem.SetTable.bits h) 12) hj
  exact ⟨12 + k, by omega, by rw [L2.runI_tail (L2.bits_lt h)]; exact e⟩
/-- each slot is met within the search's bound -/
theorem nth_meetsN {m : Nat} (hm : MaskN m) (h : Int) {j : Nat} (hj : j ≤ m) : ∃ k, k < 10 * PySem.SetTable.turns m ∧ (L2.nth m (L2.runAt m (PySem.SetTable.bits h % (m + 1)) (PySem.SetTable.bits h)) k).j = j := by
  obtain ⟨n, hn, e⟩ := run_meetsN hm h hj
  obtain ⟨k, hk, e2⟩ := L2.run_nth m (PySem.SetTable.bits h) n
  refine ⟨k, by unfold PySem.SetTable.turns; omega, ?_⟩
  rw [e2]
  exact e
end TM
end
section
set_option maxHeartbeats 4000000
set_option linter.all false
namespace TM
open PySem PySem.Spec PyProof.Rows L2
/-- the slots of a table: rising, within the mask, none given up, each found from its hash over full slots -/
structure Tab (t : SetTable) (hs : List Int) : Prop where
  up : Ris t.place.toList
  none_ : t.dummies = #[]
  cnt : t.place.toList.length = hs.length
  msk : MaskN t.mask
  le : ∀ x ∈ t.place.toList, x ≤ t.mask
  on : ∀ (i : Nat) (h : Int) (j : Nat), hs[i]? = some h → t.place.toList[i]? = some j → ∃ k, way t.mask h k = j ∧ ∀ k', k' < k → way t.mask h k' ∈ t.place.toList
theorem wayN_le {m : Nat} (h : Int) (k : Nat) : way m h k ≤ m := by
  have start : (runAt m (SetTable.bits h % (m + 1)) (SetTable.bits h)).j + (runAt m (SetTable.bits h % (m + 1)) (SetTable.bits h)).more ≤ m := by
    have h1 : SetTable.bits h % (m + 1) < m + 1 := Nat.mod_lt _ (Nat.succ_pos m)
    have h2 := runEnd_bd (m := m) (i := SetTable.bits h % (m + 1)) (by omega)
    show SetTable.bits h % (m + 1) + (SetTable.runEnd m (SetTable.bits h % (m + 1)) - SetTable.bits h % (m + 1)) ≤ m
    omega
  exact Nat.le_trans (Nat.le_add_right _ _) (nth_in k _ start)
/-- a table that is not full has an empty slot on each way, early enough -/
theorem Tab.hole {t : SetTable} {hs : List Int} (T : Tab t hs) (room : hs.length ≤ t.mask) (h : Int) : ∃ K, K < 10 * SetTable.turns t.mask ∧ way t.mask h K ∉ t.place.toList ∧ ∀ k, k < K → way t.mask h k ∈ t.place.toList := by
  obtain ⟨j, jl, jn⟩ := st_missing t.place.toList (t.mask + 1) (by rw [T.cnt]; omega)
  obtain ⟨k, kl, ke⟩ := nth_meetsN T.msk h (Nat.lt_succ_iff.mp jl)
  have ke : way t.mask h k = j := ke
  obtain ⟨K, Kl, Kn, Kf⟩ := st_least (p := fun k => way t.mask h k ∉ t.place.toList) k (by rw [ke]; exact jn)
  exact ⟨K, by omega, Kn, fun k' lt => Classical.byContradiction fun z => Kf k' lt z⟩
/-- a hash that is in stands before the first empty slot of its way -/
theorem Tab.met {t : SetTable} {hs : List Int} (T : Tab t hs) {h : Int} {K i j : Nat} (hK : way t.mask h K ∉ t.place.toList) (hi : hs[i]? = some h) (hj : t.place.toList[i]? = some j) : ∃ k, k < K ∧ way t.mask h k = j := by
  obtain ⟨k, e, full⟩ := T.on i h j hi hj
  have hjm := List.mem_of_getElem? hj
  refine ⟨k, Nat.lt_of_not_le fun le => ?_, e⟩
  rcases Nat.eq_or_lt_of_le le with q | q
  · rw [q, e] at hK
    exact hK hjm
  · exact hK (full K q)
/-- one more: at the first empty slot of its way -/
theorem Tab.more {t : SetTable} {hs : List Int} (T : Tab t hs) {h : Int} {K p : Nat} (hp : p = SetTable.below t.place (way t.mask h K)) (hK : way t.mask h K ∉ t.place.toList) (full : ∀ k, k < K → way t.mask h k ∈ t.place.toList) :
    p ≤ hs.length ∧ Tab (t.put (way t.mask h K)).1 (hs.take p ++ h :: hs.drop p) := by
  obtain ⟨pl, _, _⟩ := below_cut T.up (way t.mask h K)
  rw [← hp] at pl
  have pl' : p ≤ t.place.toList.length := pl
  have ph : p ≤ hs.length := by
    rw [← T.cnt]
    exact pl'
  have new := put_place t (way t.mask h K)
  rw [← hp] at new
  have old : ∀ x ∈ t.place.toList, x ∈ (t.put (way t.mask h K)).1.place.toList := fun x hx => by
    rw [new]
    exact mem_ins.mpr (.inr hx)
  have nat : t.place[SetTable.below t.place (way t.mask h K)]? ≠ some (way t.mask h K) := fun z => by
    rw [← Array.getElem?_toList] at z
    exact hK (List.mem_of_getElem? z)
  refine ⟨ph, ris_insert T.up nat, put_dm T.none_ _, ?_, T.msk, fun x hx => ?_, fun i g j gi ji => ?_⟩
  · rw [new, len_ins _ pl', len_ins _ ph, T.cnt]
  · rw [new] at hx
    exact (mem_ins.mp hx).elim (fun z => by rw [z]; exact wayN_le h K) (T.le x)
  · rw [tins_get hs ph] at gi
    rw [new, tins_get _ pl'] at ji
    have go : ∀ i', hs[i']? = some g → t.place.toList[i']? = some j → ∃ k, way t.mask g k = j ∧ ∀ k', k' < k → way t.mask g k' ∈ (t.put (way t.mask h K)).1.place.toList := fun i' a b => by
      obtain ⟨k, e, f⟩ := T.on i' g j a b
      exact ⟨k, e, fun k' l => old _ (f k' l)⟩
    rcases Nat.lt_trichotomy i p with c | c | c
    · rw [if_pos c] at gi ji
      exact go i gi ji
    · rw [if_neg (by omega), if_pos c] at gi ji
      cases gi
      cases ji
      exact ⟨K, rfl, fun k' l => old _ (full k' l)⟩
    · rw [if_neg (by omega), if_neg (by omega)] at gi ji
      exact go (i - 1) gi ji
end TM
end
section
set_option maxHeartbeats 4000000
set_option linter.all false
namespace TM
open PySem PySem.Spec PyProof.Rows L2
theorem freeN {m : Nat} (hm : MaskN m) (owner : Array (Option Nat)) (h : Int) {j : Nat} (hj : j ≤ m) (hf : oAt owner j = none) :
    ∃ K, SetTable.layClean.free m owner (SetTable.turns m) (SetTable.bits h % (m + 1)) (SetTable.bits h) = some (way m h K) ∧ oAt owner (way m h K) = none ∧ ∀ k, k < K → oAt owner (way m h k) ≠ none := by
  obtain ⟨n, nl, ne⟩ := run_meetsN hm h hj
  let o := off m (SetTable.bits h % (m + 1)) (SetTable.bits h) n
  have at_o : way m h o = j := by
    show (nth m (runAt m (SetTable.bits h % (m + 1)) (SetTable.bits h)) (off m (SetTable.bits h % (m + 1)) (SetTable.bits h) n)).j = j
    rw [nth_off, itL_run]
    exact ne
  obtain ⟨K, Ko, Kn, Kf⟩ := st_least (p := fun k => oAt owner (way m h k) = none) o (by rw [at_o]; exact hf)
  have isN : ∀ {x : Option Nat}, x ≠ none → x.isNone = false := fun {x} hx => by
    cases x with
    | none => exact absurd rfl hx
    | some _ => rfl
  exact ⟨K, free_spec m owner _ n _ _ K (by unfold SetTable.turns; omega) Ko (fun k hk => isN (Kf k hk)) (by
    show (oAt owner (way m h K)).isNone = true
    rw [Kn]
    rfl), Kn, Kf⟩
theorem ownN {m : Nat} (hm : MaskN m) {done : List Int} {owner : Array (Option Nat)} (W : Own m done owner) (room : done.length ≤ m) (h : Int) :
    ∃ j, SetTable.layClean.free m owner (SetTable.turns m) (SetTable.bits h % (m + 1)) (SetTable.bits h) = some j ∧ Own m (done ++ [h]) (owner.setIfInBounds j (some done.length)) := by
  obtain ⟨ps, pl, pin⟩ := W.ps
  obtain ⟨z, zl, zn⟩ := st_missing ps (m + 1) (by omega)
  obtain ⟨K, e1, e2, e3⟩ := freeN hm owner h (Nat.lt_succ_iff.mp zl) (Classical.byContradiction fun q => zn (pin z (Nat.lt_succ_iff.mp zl) q))
  have wl := wayN_le (m := m) h K
  have self := oAt_set_self (owner := owner) (some done.length) (by rw [W.sz]; omega : way m h K < owner.size)
  have other : ∀ {i : Nat}, i ≠ way m h K → oAt (owner.setIfInBounds (way m h K) (some done.length)) i = oAt owner i := fun q => oAt_set_ne _ q
  have stay : ∀ i, oAt owner i ≠ none → oAt (owner.setIfInBounds (way m h K) (some done.length)) i ≠ none := fun i hi => by
    rcases Classical.em (i = way m h K) with q | q
    · rw [q, self]
      simp
    · rw [other q]
      exact hi
  refine ⟨_, e1, ⟨by rw [Array.size_setIfInBounds, W.sz], fun j k hj hk => ?_, fun k hk => ?_, way m h K :: ps, by simp [pl], fun j hj hk => ?_⟩⟩
  · rcases Classical.em (j = way m h K) with q | q
    · rw [q, self] at hk
      cases hk
      exact ⟨h, K, by simp, q.symm, fun k' l => stay _ (e3 k' l)⟩
    · rw [other q] at hk
      obtain ⟨g, G, g1, g2, g3⟩ := W.at_ j k hj hk
      exact ⟨g, G, by rw [List.getElem?_append_left (List.getElem?_eq_some_iff.mp g1).1]; exact g1, g2, fun k' l => stay _ (g3 k' l)⟩
  · rcases Nat.lt_or_ge k done.length with q | q
    · obtain ⟨j, jl, je⟩ := W.all k q
      exact ⟨j, jl, by rw [other (fun z => by rw [z, e2] at je; cases je)]; exact je⟩
    · rw [List.length_append, List.length_singleton] at hk
      obtain rfl : k = done.length := by omega
      exact ⟨_, wl, self⟩
  · rcases Classical.em (j = way m h K) with q | q
    · rw [q]
      exact List.mem_cons_self
    · rw [other q] at hk
      exact List.mem_cons_of_mem _ (pin j hj hk)
theorem layN {m : Nat} (hm : MaskN m) : ∀ (todo done : List Int) (owner : Array (Option Nat)), Own m done owner → done.length + todo.length ≤ m →
    ∃ o', todo.foldl (stepF m) (some (owner, done.length)) = some (o', done.length + todo.length) ∧ Own m (done ++ todo) o'
  | [], done, owner, W, _ => ⟨owner, rfl, by rw [List.append_nil]; exact W⟩
  | h :: todo, done, owner, W, hl => by
    rw [List.length_cons] at hl ⊢
    obtain ⟨j, e, W1⟩ := ownN hm W (by omega) h
    obtain ⟨o', f, W2⟩ := layN hm todo (done ++ [h]) _ W1 (by simp; omega)
    rw [List.append_assoc] at W2
    refine ⟨o', ?_, W2⟩
    rw [List.foldl_cons, stepF_some e]
    have el : (done ++ [h]).length = done.length + 1 := by simp
    rw [el] at f
    rw [f]
    congr 2
    omega
theorem cleanN {m : Nat} (hm : MaskN m) {hs : Array Int} (hn : hs.size ≤ m) : ∃ owner, SetTable.layClean m hs = some owner ∧ Own m hs.toList owner := by
  obtain ⟨o, f, W⟩ := layN hm hs.toList [] _ (Own.init m) (by simp; exact hn)
  refine ⟨o, ?_, W⟩
  rw [layClean_eq]
  have f : hs.toList.foldl (stepF m) (some (Array.replicate (m + 1) none, 0)) = _ := f
  rw [f]
  rfl
/-- laid anew: all that was in is in, each found from its hash -/
theorem Tab.anew (t : SetTable) {hs : Array Int} {wanted M : Nat} (hw : SetTable.sizeAbove wanted - 1 = M) (hM : MaskN M) (hn : hs.size ≤ M) :
    ∃ t' order, t.relaid hs wanted = some (t', order) ∧ order.toList.Perm (List.range hs.size) ∧ Tab t' (order.toList.map fun i => hs.getD i 0) ∧ t'.mask = M ∧ t'.led = t.led ∧ t'.plain = t.plain := by
  obtain ⟨o, e, W⟩ := cleanN hM hn
  have live : ∀ {j k : Nat}, (j, k) ∈ liveOf M o ↔ j ≤ M ∧ oAt o j = some k := mem_live W.sz
  have rl := ris_live (fun j => o.getD j none) (List.range (M + 1)) (by
    unfold Ris
    first | exact List.pairwise_lt_range | exact List.pairwise_lt_range _)
  have up : Ris ((liveOf M o).map (·.1)) := rl.1
  have nd : ((liveOf M o).map (·.1)).Nodup := List.Pairwise.imp (fun h => Nat.ne_of_lt h) up
  have inM : ∀ x ∈ (liveOf M o).map (·.1), x ≤ M := fun x hx => Nat.lt_succ_iff.mp (List.mem_range.mp (rl.2 x hx))
  have each : ∀ k, k < hs.size → k ∈ (liveOf M o).map (·.2) := fun k hk => by
    obtain ⟨j, jl, je⟩ := W.all k (by rw [Array.length_toList]; exact hk)
    exact List.mem_map.mpr ⟨(j, k), live.mpr ⟨jl, je⟩, rfl⟩
  have cnt : (liveOf M o).length = hs.size := by
    obtain ⟨ps, pl, pin⟩ := W.ps
    have a := nat_nodup_len ((liveOf M o).map (·.1)) ps nd fun x hx => by
      obtain ⟨⟨y, k⟩, hq, rfl⟩ := List.mem_map.mp hx
      obtain ⟨b1, b2⟩ := live.mp hq
      exact pin y b1 (by rw [b2]; simp)
    have b := nat_nodup_len (List.range hs.size) ((liveOf M o).map (·.2)) List.nodup_range fun k hk => each k (List.mem_range.mp hk)
    rw [List.length_map, pl] at a
    rw [List.length_map, List.length_range] at b
    have c : hs.toList.length = hs.size := rfl
    omega
  refine ⟨tabOf t M o, ((liveOf M o).map (·.2)).toArray, by rw [relaid_eq, hw, e]; rfl, perm_range hs.size _ (by rw [List.toList_toArray, List.length_map, cnt]) (fun k hk => each k hk), ⟨up, rfl, ?_, hM, inM, fun i h j h1 h2 => ?_⟩, rfl, rfl, rfl⟩
  · show (((liveOf M o).map (·.1)).toArray.toList).length = (((liveOf M o).map (·.2)).toArray.toList.map fun i => hs.getD i 0).length
    simp
  · have h1 : (((liveOf M o).map (·.2)).map fun i => hs.getD i 0)[i]? = some h := h1
    have h2 : ((liveOf M o).map (·.1))[i]? = some j := h2
    rw [List.getElem?_map] at h2
    rw [List.map_map, List.getElem?_map] at h1
    obtain ⟨⟨y, k⟩, hq, rfl⟩ := Option.map_eq_some_iff.mp h2
    rw [hq] at h1
    have eh : hs.getD k 0 = h := Option.some.inj h1
    obtain ⟨b1, b2⟩ := live.mp (List.mem_of_getElem? hq)
    obtain ⟨g, K, a1, a2, a3⟩ := W.at_ y k b1 b2
    have eg : hs.getD k 0 = g := by
      rw [Array.getElem?_toList] at a1
      simp [Array.getD_eq_getD_getElem?, a1]
    obtain rfl : g = h := eg.symm.trans eh
    refine ⟨K, a2, fun k' l => ?_⟩
    show way M g k' ∈ (liveOf M o).map (·.1)
    cases z : oAt o (way M g k') with
    | none => exact absurd z (a3 k' l)
    | some q => exact List.mem_map.mpr ⟨(way M g k', q), live.mpr ⟨wayN_le g k', z⟩, rfl⟩
end TM
end
section
set_option maxHeartbeats 4000000
set_option maxRecDepth 100000
set_option linter.all false
namespace TM
open PySem PySem.Spec PyProof.Rows L2
/-- what a set's keys are here, and their hash -/
abbrev MK (P : Program) (w : World) : PySem.KeyKind P w Key := L2.mixKind P w
abbrev TupAt (P : Program) (w : World) (h : Heap) (k : List Key) (p : Addr) : Prop := IsTupleKey (MK P w) h k p
abbrev th (P : Program) (w : World) (k : List Key) : Int := tupleKeyHash (MK P w) k
section
variable {P : Program} {w : World} {A : Around} {E : Value → Shared → Prop} {s : Shared}
theorem each_key {k : List Key} {vs : List Value} (h : ItemsAre (MK P w) k vs) : ∀ v ∈ vs, ∃ c, keyIs c v = true := by
  induction h with
  | nil => exact fun v z => nomatch z
  | cons h1 _ ih =>
    intro v z
    rcases List.mem_cons.mp z with e | z
    · subst e
      exact ⟨_, h1⟩
    · exact ih v z
theorem own_key {c : Key} {v : Value} (n : Nat) (h : keyIs c v = true) : ofAClassStatement n v = pure false := by
  rcases keyIs_shape h with ⟨i, t, rfl, rfl⟩ | ⟨x, t, rfl, rfl⟩ <;> cases n <;> rfl
theorem hbv_key {c : Key} {v : Value} (n : Nat) (h : keyIs c v = true) : ∃ b, hashByValue n v = pure b := by
  rcases keyIs_shape h with ⟨i, t, rfl, rfl⟩ | ⟨x, t, rfl, rfl⟩
  · exact ⟨true, by cases n <;> rfl⟩
  · exact ⟨false, by cases n <;> rfl⟩
theorem own_tup {k : List Key} {p : Addr} {Q : Bool → Shared → Prop} (h : TupAt P w s.heap k p) (q : Q false s) : wpAny (model P w) A (ofAClassStatement 8 (.ref p)) Q E s := by
  have ty := h.typeIs
  obtain ⟨o, items, m, e1, _, e2, e3⟩ := h
  unfold ofAClassStatement
  refine wpAny_bind (wpAny_typeOf ty ?_)
  dsimp only
  simp only [show (("tuple" : String) == "tuple") = true by decide, if_true, Bool.not_true, Bool.false_eq_true, if_false]
  try refine wpAny_bind (wpAny_pure ?_)
  try simp only [Bool.not_true, Bool.false_eq_true, if_false]
  refine wpAny_bind (wpAny_seqItems e1 e2 ?_)
  dsimp only
  refine wpAny_bind ?_
  show wpAny _ _ (forIn items _ _) _ _ s
  rw [← Array.forIn_toList]
  refine wpAny_forIn_list _ (fun l r z => (r.1 = none ∧ z = s) ∧ ∀ v ∈ l, ∃ c, keyIs c v = true) _ ?_ ?_ _ _ ⟨⟨rfl, rfl⟩, each_key e3⟩
  · rintro v l r z ⟨⟨hr, rfl⟩, all⟩
    obtain ⟨c, hc⟩ := all v List.mem_cons_self
    rw [own_key _ hc]
    refine wpAny_bind (wpAny_pure ?_)
    simp only [Bool.false_eq_true, if_false]
    exact wpAny_pure ⟨⟨rfl, rfl⟩, fun u hu => all u (List.mem_cons_of_mem _ hu)⟩
  · rintro ⟨r1, r2⟩ z ⟨⟨hr, rfl⟩, _⟩
    dsimp only at hr
    subst hr
    exact wpAny_pure q
theorem hbv_tup {k : List Key} {p : Addr} {Q : Bool → Shared → Prop} (h : TupAt P w s.heap k p) (q : ∀ b, Q b s) : wpAny (model P w) A (hashByValue 8 (.ref p)) Q E s := by
  have ty := h.typeIs
  obtain ⟨o, items, m, e1, _, e2, e3⟩ := h
  unfold hashByValue
  refine wpAny_bind (wpAny_specialOf ty (PySem.F.slot_tuple_hash.lookup) ?_)
  show wpAny _ _ (seqItems? (Value.ref p) >>= _) Q E s
  refine wpAny_bind (wpAny_seqItems e1 e2 ?_)
  refine wpAny_bind ?_
  show wpAny _ _ (forIn items _ _) _ _ s
  rw [← Array.forIn_toList]
  refine wpAny_forIn_list _ (fun l r z => (r.1 = none ∧ z = s) ∧ ∀ v ∈ l, ∃ c, keyIs c v = true) _ ?_ ?_ _ _ ⟨⟨rfl, rfl⟩, each_key e3⟩
  · rintro v l r z ⟨⟨hr, rfl⟩, all⟩
    obtain ⟨c, hc⟩ := all v List.mem_cons_self
    obtain ⟨b, hb⟩ := hbv_key 7 hc
    rw [hb]
    refine wpAny_bind (wpAny_pure ?_)
    cases b
    · simp only [Bool.not_false, if_true]
      exact wpAny_pure (wpAny_pure (q false))
    · simp only [Bool.not_true, Bool.false_eq_true, if_false]
      exact wpAny_pure ⟨⟨rfl, rfl⟩, fun u hu => all u (List.mem_cons_of_mem _ hu)⟩
  · rintro ⟨r1, r2⟩ z ⟨⟨hr, rfl⟩, _⟩
    dsimp only at hr
    subst hr
    exact wpAny_pure (q true)
/-- a search among tuples of such keys shows nothing -/
theorem unseen_tup {k : List Key} {p : Addr} {Q : Bool → Shared → Prop} (h : TupAt P w s.heap k p) {ys : List Value} (hy : ∀ y ∈ ys, ∃ k' c, y = Value.ref c ∧ TupAt P w s.heap k' c) (q : Q false s) :
    wpAny (model P w) A (searchCouldBeSeen (.ref p) ys) Q E s := by
  unfold searchCouldBeSeen
  refine wpAny_bind ?_
  refine wpAny_forIn_list _ (fun l r z => (r.1 = none ∧ z = s) ∧ ∀ y ∈ l, ∃ k' c, y = Value.ref c ∧ TupAt P w s.heap k' c) _ ?_ ?_ _ _ ⟨⟨rfl, rfl⟩, hy⟩
  · rintro v l r z ⟨⟨hr, rfl⟩, all⟩
    obtain ⟨k', c, rfl, hc⟩ := all v List.mem_cons_self
    have more := fun u (hu : u ∈ l) => all u (List.mem_cons_of_mem _ hu)
    dsimp only
    by_cases g : (p == c || (carriedByValue (.ref p) && carriedByValue (.ref c))) = true
    · exact wp_if_pos g (wpAny_pure ⟨⟨rfl, rfl⟩, more⟩)
    · refine wp_if_neg g (wpAny_bind (wpAny_eqIsQuiet_tuple h ?_))
      simp only [Bool.not_true, Bool.false_eq_true, if_false]
      refine wpAny_bind (wpAny_eqIsQuiet_tuple hc ?_)
      simp only [Bool.not_true, Bool.false_eq_true, if_false]
      refine wpAny_bind (own_tup h ?_)
      simp only [Bool.false_eq_true, if_false]
      refine wpAny_bind (own_tup hc ?_)
      simp only [Bool.false_eq_true, if_false]
      exact wpAny_pure ⟨⟨rfl, rfl⟩, more⟩
  · rintro ⟨r1, r2⟩ z ⟨⟨hr, rfl⟩, _⟩
    dsimp only at hr
    subst hr
    exact wpAny_pure q
/-- the sizes that come while fewer than 4915 are in -/
def MaskQ (m : Nat) : Prop := m = 7 ∨ m = 31 ∨ m = 127 ∨ m = 511 ∨ m = 2047 ∨ m = 8191
theorem MaskQ.n {m : Nat} (h : MaskQ m) : MaskN m := by
  rcases h with h | h | h | h | h | h <;> subst h
  · exact ⟨3, by decide, rfl⟩
  · exact ⟨5, by decide, rfl⟩
  · exact ⟨7, by decide, rfl⟩
  · exact ⟨9, by decide, rfl⟩
  · exact ⟨11, by decide, rfl⟩
  · exact ⟨13, by decide, rfl⟩
theorem MaskQ.le {m : Nat} (h : MaskQ m) : m ≤ 8191 ∧ m % 2 = 1 := by
  rcases h with h | h | h | h | h | h <;> subst h <;> decide
/-- what stands in the set's rows -/
def ents (P : Program) (w : World) (L : List (Addr × List Key)) : List (Int × Value) := L.map fun p => (th P w p.2, Value.ref p.1)
structure SetQ (P : Program) (w : World) (h : Heap) (a : Addr) (L : List (Addr × List Key)) (es : Array (Int × Value)) (ep : Nat) (t : SetTable) : Prop where
  obj : ∃ o, h.get? a = some o ∧ o.ExactSet ∧ o.data = .set es ep t
  rows : es.toList = ents P w L
  tab : Tab t (L.map fun p => th P w p.2)
  mq : MaskQ t.mask
  nd : (L.map (·.2)).Nodup
  led : w.params.followText "set-order" = true ∨ t.led = true
  room : L.length * 5 < t.mask * 3
variable {a : Addr} {L : List (Addr × List Key)} {es : Array (Int × Value)} {ep : Nat} {t : SetTable}
theorem ents_len (L : List (Addr × List Key)) : (ents P w L).length = L.length := List.length_map ..
theorem SetQ.sz (R : SetQ P w s.heap a L es ep t) : es.size = L.length := by
  rw [← Array.length_toList, R.rows, ents_len]
theorem Tab.fill {hs : List Int} (T : Tab t hs) : t.fill = hs.length ∧ t.place.size = hs.length := by
  have e : t.place.size = hs.length := by
    rw [← Array.length_toList]
    exact T.cnt
  refine ⟨?_, e⟩
  unfold SetTable.fill
  rw [T.none_, e]
  rfl
theorem Tab.fit {hs : List Int} (T : Tab t hs) {n : Nat} (e : n = hs.length) (l : n ≤ t.mask) : t.fits n = true := by
  obtain ⟨f1, f2⟩ := T.fill
  unfold SetTable.fits
  rw [f1, f2, Bool.and_eq_true]
  exact ⟨beq_iff_eq.mpr e.symm, decide_eq_true (by omega)⟩
theorem SetQ.fit (R : SetQ P w s.heap a L es ep t) : t.fits es.size = true := by
  have r := R.room
  refine R.tab.fit (by rw [R.sz, List.length_map]) ?_
  rw [R.sz]
  omega
theorem SetQ.ent (R : SetQ P w s.heap a L es ep t) {i : Nat} {p : Addr × List Key} (e : L[i]? = some p) : es[i]? = some (th P w p.2, Value.ref p.1) := by
  rw [← Array.getElem?_toList, R.rows]
  show (L.map _)[i]? = _
  rw [List.getElem?_map, e]
  rfl
theorem SetQ.way (R : SetQ P w s.heap a L es ep t) : ¬ t.gaveWay = true := by
  unfold SetTable.gaveWay
  rw [R.mq.le.2]
  decide
theorem nth_dm {m : Nat} : ∀ (n : Nat) {p : SetTable.Probe}, p.dummy = none → (nth m p n).dummy = none
  | 0, _, h => h
  | n + 1, p, h => nth_dm n (p := adv m p) (by
    unfold adv
    split
    · exact h
    · exact h)
end
end TM
end
section
set_option maxHeartbeats 4000000
set_option maxRecDepth 100000
set_option linter.all false
namespace TM
open PySem PySem.Spec PyProof.Rows L2
section
variable {P : Program} {w : World} {A : Around} {E : Value → Shared → Prop} {s : Shared}
variable {a : Addr} {L : List (Addr × List Key)} {es : Array (Int × Value)} {ep : Nat} {t : SetTable}
/-- the c-th step of a hash's way -/
abbrev stp (m : Nat) (h : Int) (c : Nat) : SetTable.Probe := nth m (runAt m (SetTable.bits h % (m + 1)) (SetTable.bits h)) c
theorem stp_add (m : Nat) (h : Int) (c q : Nat) : nth m (stp m h c) q = stp m h (c + q) := (nth_add m c _ q).symm
theorem tab_inj (T : Tab t (L.map fun p => th P w p.2)) {i j x : Nat} (hi : t.place.toList[i]? = some x) (hj : t.place.toList[j]? = some x) : i = j := by
  have e := slot_live T.up hi
  rw [slot_live T.up hj] at e
  injection e with e
  exact e.symm
theorem tab_row (T : Tab t (L.map fun p => th P w p.2)) {i x : Nat} (hi : t.place.toList[i]? = some x) : ∃ p, L[i]? = some p := by
  have l1 := (List.getElem?_eq_some_iff.mp hi).1
  have l2 := T.cnt
  rw [List.length_map] at l2
  exact ⟨_, List.getElem?_eq_getElem (by omega)⟩
theorem seek (R : SetQ P w s.heap a L es ep t) (hT : ∀ p ∈ L, TupAt P w s.heap p.2 p.1) {x : Addr} {k : List Key} (hx : TupAt P w s.heap k x) (hu : A.units < cLine) (ad : Bool) {K : Nat} (K1 : K < 10 * SetTable.turns t.mask)
    (K2 : way t.mask (th P w k) K ∉ t.place.toList) (K3 : ∀ c, c < K → way t.mask (th P w k) c ∈ t.place.toList) {Q : SetFound → Shared → Prop}
    (yes : k ∈ L.map (·.2) → ∀ r : Option Nat, r.isSome = !ad → Q (.there r) s) (no : k ∉ L.map (·.2) → Q (.free (way t.mask (th P w k) K) false) s) :
    ∀ (f c : Nat) (st : Option SetTable.Probe), st.getD (t.probeStart (th P w k)) = stp t.mask (th P w k) c → c ≤ K → K < c + f →
      (∀ (i : Nat) p, L[i]? = some p → p.2 = k → ∃ c', c ≤ c' ∧ c' < K ∧ t.place.toList[i]? = some (way t.mask (th P w k) c')) → wpAny (model P w) A (setSearchFrom a (.ref x) (th P w k) ad f st) Q E s
  | 0, c, _, _, l, l2, _ => by omega
  | f + 1, c, st, hst, l, l2, ahead => by
    obtain ⟨o, e1, e2, e3⟩ := R.obj
    have hashes : ∀ (i : Nat) p, L[i]? = some p → (es[i]?.map (·.1)).getD 0 = th P w p.2 := fun i p hp => by
      rw [R.ent hp]
      rfl
    rw [setSearchFrom_succ]
    refine wpAny_bind (wpAny_setState_of e1 e3 R.fit (wp_if_neg R.way ?_))
    try refine wpAny_bind (wpAny_pure ?_)
    have at_ : ∀ q, (nth t.mask (stp t.mask (th P w k) c) q).j = way t.mask (th P w k) (c + q) := fun q => by
      rw [stp_add]
    have seen := go_spec t R.tab.up R.tab.none_ (fun i => (es[i]?.map (·.1)).getD 0) (th P w k) (10 * SetTable.turns t.mask) (K - c) (stp t.mask (th P w k) c) (nth_dm c rfl) (by omega)
      (fun q hq => by rw [at_]; exact K3 _ (by omega)) (by rw [at_, show c + (K - c) = K by omega]; exact K2)
    rcases seen with ⟨q, i, lq, hi, _, first, e⟩ | ⟨nothing, e⟩
    · rw [show t.probe (fun i => (es[i]?.map (·.1)).getD 0) (th P w k) (st.getD (t.probeStart (th P w k))) = some (.candidate (way t.mask (th P w k) (c + q)) i (stp t.mask (th P w k) (c + (q + 1)))) by
        rw [hst, ← at_, ← stp_add]
        exact e]
      dsimp only
      rw [at_] at hi
      obtain ⟨p, hp⟩ := tab_row R.tab hi
      have hpL := List.mem_of_getElem? hp
      have live := slot_live R.tab.up hi
      -- behind the candidate
      have rest : wpAny (model P w) A (searchRest a (.ref x) (th P w k) ad f es t (way t.mask (th P w k) (c + q)) i (stp t.mask (th P w k) (c + (q + 1)))) Q E s := by
        have on : p.2 ≠ k → wpAny (model P w) A (setSearchFrom a (.ref x) (th P w k) ad f (some (stp t.mask (th P w k) (c + (q + 1))))) Q E s := fun ne =>
          seek R hT hx hu ad K1 K2 K3 yes no f (c + (q + 1)) _ rfl (by omega) (by omega) fun i' p' h1 h2 => by
            obtain ⟨c', l1, l2, h3⟩ := ahead i' p' h1 h2
            refine ⟨c', Nat.lt_of_not_le fun le => ?_, l2, h3⟩
            rcases Nat.lt_or_ge c' (c + q) with z | z
            · refine first (c' - c) i' (by omega) (by rw [at_, show c + (c' - c) = c' by omega]; exact h3) ?_
              try dsimp only
              rw [hashes i' p' h1, h2]
            · obtain rfl : c' = c + q := Nat.le_antisymm le z
              obtain rfl := tab_inj R.tab hi h3
              rw [hp] at h1
              cases h1
              exact ne h2
        have inn : p.2 = k → k ∈ L.map (·.2) := fun z => List.mem_map.mpr ⟨p, hpL, z⟩
        unfold searchRest
        rw [R.ent hp]
        dsimp only
        refine wpAny_bind (wpAny_holding (wpAny_eqBool_tuple hu (hT p hpL) hx ?_))
        refine wpAny_bind (wpAny_setState_of e1 e3 R.fit ?_)
        dsimp only
        have moved : wpAny (model P w) A (do
            let some same := t.sameMemory t.moves t.mask | unsupported "set.changed-during-lookup:is-the-new-block-at-the-old-address"
            let still ← match (if same then t.slot (way t.mask (th P w k) (c + q)) else .empty) with
              | .live i' => match es[i']? with
                | some (_, y') => do pure (if ← isSame y' (.ref p.1) then some i' else none)
                | none => pure none
              | _ => pure none
            match still with
            | none => rule "set.search.anew"; setSearchFrom a (.ref x) (th P w k) ad f none
            | some i' => if decide (p.2 = k) = true then return SetFound.there (some i') else setSearchFrom a (.ref x) (th P w k) ad f (some (stp t.mask (th P w k) (c + (q + 1))))) Q E s ∨ (ad = true ∧ p.2 = k) := by
          by_cases both : ad = true ∧ p.2 = k
          · exact .inr both
          · refine .inl ?_
            rw [sameMem]
            dsimp only
            simp only [if_true, live, R.ent hp]
            refine wpAny_bind (wpAny_isSame_ref_self (wpAny_bind (wpAny_pure ?_)))
            simp only [if_true]
            by_cases z : p.2 = k
            · refine wp_if_pos (decide_eq_true z) (wpAny_pure (yes (inn z) _ ?_))
              cases ad
              · rfl
              · exact absurd ⟨rfl, z⟩ both
            · exact wp_if_neg (by rw [decide_eq_false z]; decide) (on z)
        rcases moved with m | ⟨z1, z2⟩
        · by_cases z : ad = true ∧ p.2 = k
          · exact wp_if_pos (by rw [z.1, decide_eq_true z.2]; rfl) (wpAny_pure (yes (inn z.2) none (by rw [z.1]; rfl)))
          · refine wp_if_neg (by rw [Bool.and_eq_true, decide_eq_true_eq]; exact z) ?_
            try refine wpAny_bind (wpAny_pure ?_)
            exact m
        · exact wp_if_pos (by rw [z1, decide_eq_true z2]; rfl) (wpAny_pure (yes (inn z2) none (by rw [z1]; rfl)))
      by_cases led : t.led = true
      · refine wp_if_neg (by rw [led]; decide) ?_
        try refine wpAny_bind (wpAny_pure ?_)
        exact rest
      · refine wp_if_pos (by rw [Bool.eq_false_iff.mpr led]; rfl) (wpAny_bind (unseen_tup hx (fun y hy => ?_) (wp_if_neg (by decide) ?_)))
        · obtain ⟨e', h1, rfl⟩ := List.mem_map.mp hy
          have h2 : e' ∈ es := (show e' ∈ es ∧ e'.1 = th P w k by simpa using h1).1
          have h3 : e' ∈ ents P w L := by
            rw [← R.rows]
            simpa using h2
          obtain ⟨p', h4, rfl⟩ := List.mem_map.mp h3
          exact ⟨_, _, rfl, hT p' h4⟩
        · try refine wpAny_bind (wpAny_pure ?_)
          exact rest
    · rw [show t.probe (fun i => (es[i]?.map (·.1)).getD 0) (th P w k) (st.getD (t.probeStart (th P w k))) = some (.empty (way t.mask (th P w k) K) none) by
        rw [hst, show way t.mask (th P w k) K = (nth t.mask (stp t.mask (th P w k) c) (K - c)).j by rw [at_, show c + (K - c) = K by omega]]
        exact e]
      dsimp only
      refine wpAny_pure (no fun m => ?_)
      obtain ⟨p', h1, h2⟩ := List.mem_map.mp m
      obtain ⟨i', h3⟩ := List.getElem?_of_mem h1
      obtain ⟨c', l1, l3, h4⟩ := ahead i' p' h3 h2
      refine nothing (c' - c) i' (by omega) (by rw [at_, show c + (c' - c) = c' by omega]; exact h4) ?_
      try dsimp only
      rw [hashes i' p' h3, h2]
/-- the search, from the beginning -/
theorem found (R : SetQ P w s.heap a L es ep t) (hT : ∀ p ∈ L, TupAt P w s.heap p.2 p.1) {x : Addr} {k : List Key} (hx : TupAt P w s.heap k x) (hu : A.units < cLine) (ad : Bool) {Q : SetFound → Shared → Prop}
    (yes : k ∈ L.map (·.2) → ∀ r : Option Nat, r.isSome = !ad → Q (.there r) s)
    (no : ∀ K, k ∉ L.map (·.2) → way t.mask (th P w k) K ∉ t.place.toList → (∀ c, c < K → way t.mask (th P w k) c ∈ t.place.toList) → Q (.free (way t.mask (th P w k) K) false) s) : wpAny (model P w) A (setSearch a (.ref x) (th P w k) ad) Q E s := by
  have r := R.room
  obtain ⟨K, K1, K2, K3⟩ := R.tab.hole (by rw [List.length_map]; omega) (th P w k)
  have big : K < 0 + 100000 := by
    have := R.mq.le.1
    unfold SetTable.turns at K1
    omega
  refine seek R hT hx hu ad K1 K2 K3 yes (fun z => no K z K2 K3) 100000 0 none rfl (Nat.zero_le _) big fun i p h1 h2 => ?_
  have l1 := (List.getElem?_eq_some_iff.mp h1).1
  have l2 := R.tab.cnt
  rw [List.length_map] at l2
  have h3 := List.getElem?_eq_getElem (show i < t.place.toList.length by omega)
  obtain ⟨c, lc, e⟩ := R.tab.met K2 (show (L.map fun p => th P w p.2)[i]? = some (th P w k) by rw [List.getElem?_map, h1, ← h2]; rfl) h3
  exact ⟨c, Nat.zero_le _, lc, by rw [h3, e]⟩
/-- x in the set -/
theorem has_tup (R : SetQ P w s.heap a L es ep t) (hT : ∀ p ∈ L, TupAt P w s.heap p.2 p.1) {x : Addr} {k : List Key} (hx : TupAt P w s.heap k x) (hu : A.units < cLine) {Q : Bool → Shared → Prop}
    (h1 : k ∈ L.map (·.2) → Q true { s with toks := s.toks + (k.length + 1) }) (h2 : k ∉ L.map (·.2) → Q false { s with toks := s.toks + (k.length + 1) }) : wpAny (model P w) A (setContains a (.ref x)) Q E s := by
  unfold setContains
  refine wpAny_holding (wpAny_bind (wpAny_pyHash_tuple hu hx ?_))
  refine wpAny_bind ?_
  unfold setFind
  rw [show (100000 : Nat) = 99999 + 1 from rfl]
  unfold setFindIn
  obtain ⟨o, e1, e2, e3⟩ := R.obj
  refine wpAny_bind (wpAny_setState_of (s := { s with toks := s.toks + (k.length + 1) }) e1 e3 R.fit ?_)
  dsimp only
  refine wp_if_neg (by simp [byScan, Value.scannable]) ?_
  try refine wpAny_bind (wpAny_pure ?_)
  refine wpAny_bind (found (s := { s with toks := s.toks + (k.length + 1) }) R hT hx hu false (fun m r hr => ?_) fun K m _ _ => ?_)
  · refine wpAny_pure (wpAny_pure ?_)
    rw [hr]
    exact h1 m
  · exact wpAny_pure (wpAny_pure (h2 m))
end
end TM
end
section
set_option maxHeartbeats 4000000
set_option maxRecDepth 100000
set_option linter.all false
namespace TM
open PySem PySem.Spec PyProof.Rows L2
theorem range_get {α : Type} : ∀ L : List α, (List.range L.length).filterMap (fun i => L[i]?) = L
  | [] => rfl
  | x :: L => by
    rw [List.length_cons, List.range_succ_eq_map, List.filterMap_cons_some (show (fun i => (x :: L)[i]?) 0 = some x from rfl), List.filterMap_map]
    exact congrArg (x :: ·) (range_get L)
theorem order_ents {α : Type} {f : α → Int × Value} {L : List α} {es : Array (Int × Value)} (h : es.toList = L.map f) {ord : Array Nat} (hp : ord.toList.Perm (List.range L.length)) :
    ∃ L2 : List α, L2.Perm L ∧ (ord.filterMap (es[·]?)).toList = L2.map f ∧ (ord.toList.map fun i => (es.map (·.1)).getD i 0) = L2.map fun x => (f x).1 := by
  have get : ∀ i, es[i]? = (L[i]?).map f := fun i => by rw [← Array.getElem?_toList, h, List.getElem?_map]
  refine ⟨ord.toList.filterMap fun i => L[i]?, ?_, ?_, ?_⟩
  · have p := hp.filterMap fun i => L[i]?
    rwa [range_get] at p
  · rw [List.map_filterMap]
    have e : (ord.filterMap (es[·]?)).toList = ord.toList.filterMap fun i => es[i]? := by simp
    rw [e]
    exact congrArg (fun g => ord.toList.filterMap g) (funext get)
  · have all : ∀ i ∈ ord.toList, i < L.length := fun i z => List.mem_range.mp (hp.mem_iff.mp z)
    generalize ord.toList = l at all
    induction l with
    | nil => rfl
    | cons i l ih =>
      have li := all i List.mem_cons_self
      have e := List.getElem?_eq_getElem li
      rw [List.filterMap_cons_some e, List.map_cons, List.map_cons, ih fun j z => all j (List.mem_cons_of_mem _ z)]
      congr 1
      have e2 : (es.map (·.1))[i]? = some (f L[i]).1 := by
        rw [Array.getElem?_map, get, e]
        rfl
      simp only [Array.getD_eq_getD_getElem?, e2]
      rfl
section
variable {P : Program} {w : World} {A : Around} {E : Value → Shared → Prop} {s : Shared}
variable {a : Addr} {L : List (Addr × List Key)} {es : Array (Int × Value)} {ep : Nat} {t : SetTable}
theorem relaid {o : Obj} (e1 : s.heap.get? a = some o) (e2 : o.ExactSet) (e3 : o.data = .set es ep t) (rows : es.toList = ents P w L) (T : Tab t (L.map fun p => th P w p.2)) (lm : L.length ≤ t.mask) (nd : (L.map (·.2)).Nodup)
    (led : w.params.followText "set-order" = true ∨ t.led = true) {wanted M : Nat} (hw : SetTable.sizeAbove wanted - 1 = M) (hM : MaskQ M) (hn : L.length * 5 < M * 3) {Q : Unit → Shared → Prop}
    (h : ∀ h' L' es' ep' t', Heap.SameBut a s.heap h' → SetQ P w h' a L' es' ep' t' → L'.Perm L → Q () { s with heap := h' }) : wpAny (model P w) A (setRelay a wanted) Q E s := by
  have sz : es.size = L.length := by rw [← Array.length_toList, rows, ents_len]
  have hf : t.fits es.size = true := T.fit (by rw [sz, List.length_map]) (by omega)
  have ml := hM.le.1
  obtain ⟨t', ord, r1, r2, T2, r3, r4, _⟩ := Tab.anew t (hs := es.map (·.1)) hw hM.n (by rw [Array.size_map, sz]; omega)
  rw [Array.size_map, sz] at r2
  obtain ⟨L2, p2, q1, q2⟩ := order_ents (f := fun p : Addr × List Key => (th P w p.2, Value.ref p.1)) rows r2
  rw [q2] at T2
  have sz2 : (ord.filterMap (es[·]?)).size = es.size := by
    rw [← Array.length_toList, q1, List.length_map, p2.length_eq, sz]
  rw [setRelay_eq]
  refine wpAny_bind (wpAny_setState_of e1 e3 hf ?_)
  dsimp only
  refine wp_if_neg (by rw [sizeLine_eq]; omega) ?_
  try refine wpAny_bind (wpAny_pure ?_)
  rw [r1]
  dsimp only
  refine wpAny_bind (wp_if_neg (by rw [sz2]; simp) ?_)
  try refine wpAny_bind (wpAny_pure ?_)
  refine wpAny_pure ?_
  dsimp only
  refine wpAny_storeSet_of e1 e3 ?_ (by rw [sz2, sz, sizeLine_eq]; omega)
  refine h _ L2 _ (ep + 1) t' (Heap.SameBut.update ..) ⟨⟨_, store_at e1 e3, ⟨e2.1, e2.2.1, e2.2.2⟩, rfl⟩, q1, T2, by rw [r3]; exact hM, ?_, by rw [r4]; exact led, by rw [p2.length_eq, r3]; exact hn⟩ p2
  exact (p2.map (·.2)).nodup_iff.mpr nd
theorem size5 : SetTable.sizeAbove (SetTable.grown 5) = 31 + 1 := by decide +kernel
theorem size19 : SetTable.sizeAbove (SetTable.grown 19) = 127 + 1 := by decide +kernel
theorem size77 : SetTable.sizeAbove (SetTable.grown 77) = 511 + 1 := by decide +kernel
theorem size307 : SetTable.sizeAbove (SetTable.grown 307) = 2047 + 1 := by decide +kernel
theorem size1229 : SetTable.sizeAbove (SetTable.grown 1229) = 8191 + 1 := by decide +kernel
/-- a full table's next size -/
theorem next_size {m n : Nat} (hm : MaskQ m) (l : n * 5 < m * 3) (g : m * 3 ≤ (n + 1) * 5) (few : n + 1 ≤ 4914) : ∃ M, SetTable.sizeAbove (SetTable.grown (n + 1)) - 1 = M ∧ MaskQ M ∧ (n + 1) * 5 < M * 3 ∧ n + 1 ≤ m := by
  rcases hm with h | h | h | h | h | h <;> subst h
  · obtain rfl : n = 4 := by omega
    exact ⟨31, by rw [size5], .inr (.inl rfl), by decide, by decide⟩
  · obtain rfl : n = 18 := by omega
    exact ⟨127, by rw [size19], .inr (.inr (.inl rfl)), by decide, by decide⟩
  · obtain rfl : n = 76 := by omega
    exact ⟨511, by rw [size77], .inr (.inr (.inr (.inl rfl))), by decide, by decide⟩
  · obtain rfl : n = 306 := by omega
    exact ⟨2047, by rw [size307], .inr (.inr (.inr (.inr (.inl rfl)))), by decide, by decide⟩
  · obtain rfl : n = 1228 := by omega
    exact ⟨8191, by rw [size1229], .inr (.inr (.inr (.inr (.inr rfl)))), by decide, by decide⟩
  · omega
theorem put_mask (t : SetTable) (j : Nat) : (t.put j).1.mask = t.mask ∧ (t.put j).1.led = t.led ∧ (t.put j).2 = SetTable.below t.place j := ⟨rfl, rfl, rfl⟩
theorem added (R : SetQ P w s.heap a L es ep t) (hT : ∀ p ∈ L, TupAt P w s.heap p.2 p.1) {x : Addr} {k : List Key} (hx : TupAt P w s.heap k x) (hu : A.units < cLine) (few : L.length + 1 ≤ 4914) {Q : Bool → Shared → Prop}
    (h : ∀ b h' L' es' ep' t', Heap.SameBut a s.heap h' → SetQ P w h' a L' es' ep' t' → (k ∈ L.map (·.2) → L' = L) → (k ∉ L.map (·.2) → L'.Perm ((x, k) :: L)) → Q b { s with heap := h' }) :
    wpAny (model P w) A (setAddHashed a (.ref x) (th P w k)) Q E s := by
  obtain ⟨o, e1, e2, e3⟩ := R.obj
  have sz := R.sz
  have room := R.room
  unfold setAddHashed
  refine wpAny_holding ?_
  rw [show (100000 : Nat) = 99999 + 1 from rfl, setAddHashedIn_succ]
  refine wpAny_bind (wpAny_setState_of e1 e3 R.fit ?_)
  dsimp only
  refine wp_if_neg (by simp [byScan, Value.scannable]) ?_
  try refine wpAny_bind (wpAny_pure ?_)
  refine wpAny_bind (found R hT hx hu true (fun m r _ => ?_) fun K m g1 g2 => ?_)
  · exact wpAny_pure (h false s.heap L es ep t (Heap.SameBut.refl a s.heap) R (fun _ => rfl) fun z => absurd m z)
  · dsimp only
    refine wpAny_bind (wpAny_setState_of e1 e3 R.fit ?_)
    dsimp only
    obtain ⟨pl, T1⟩ := R.tab.more rfl g1 g2
    obtain ⟨m1, m2, m3⟩ := put_mask t (way t.mask (th P w k) K)
    generalize t.put (way t.mask (th P w k) K) = pt at T1 m1 m2 m3 ⊢
    obtain ⟨t1, p⟩ := pt
    dsimp only at T1 m1 m2 m3 ⊢
    rw [← m3] at pl T1
    rw [List.length_map] at pl
    -- what stands in it then
    have rows1 : (SetTable.insertAt es p (th P w k, Value.ref x)).toList = ents P w (L.take p ++ (x, k) :: L.drop p) := by
      rw [SetTable.toList_insertAt, R.rows]
      unfold ents
      rw [List.map_append, List.map_cons, List.map_take, List.map_drop]
    have tab1 : ∀ t2 : SetTable, t2.place = t1.place → t2.dummies = t1.dummies → t2.mask = t1.mask → Tab t2 ((L.take p ++ (x, k) :: L.drop p).map fun q => th P w q.2) := fun t2 z1 z2 z3 => by
      rw [List.map_append, List.map_cons, List.map_take, List.map_drop]
      exact ⟨by rw [z1]; exact T1.up, by rw [z2]; exact T1.none_, by rw [z1]; exact T1.cnt, by rw [z3]; exact T1.msk, by rw [z1, z3]; exact T1.le, by rw [z1, z3]; exact T1.on⟩
    have pm := put_perm L p (x, k)
    generalize L.take p ++ (x, k) :: L.drop p = L1 at rows1 tab1 pm
    have len1 : L1.length = L.length + 1 := pm.length_eq
    have sz1 : (SetTable.insertAt es p (th P w k, Value.ref x)).size = L.length + 1 := by
      rw [← Array.length_toList, rows1, ents_len, len1]
    generalize SetTable.insertAt es p (th P w k, Value.ref x) = es1 at rows1 sz1
    have nd1 : (L1.map (·.2)).Nodup := (pm.map (·.2)).nodup_iff.mpr (List.nodup_cons.mpr ⟨m, R.nd⟩)
    have go : ∀ t2 : SetTable, t2.place = t1.place → t2.dummies = t1.dummies → t2.mask = t1.mask → t2.led = t1.led → wpAny (model P w) A (do
        storeSet a es1 t2
        if (!false && t2.tooFull) = true then setRelay a (SetTable.grown (es.size + 1))
        return true) Q E s := fun t2 z1 z2 z3 z4 => by
      have T2 := tab1 t2 z1 z2 z3
      refine wpAny_bind (wpAny_storeSet_of e1 e3 ?_ (by rw [sz1, sizeLine_eq]; omega))
      have sb : Heap.SameBut a s.heap (s.heap.update a (Obj.putSet es1 t2)) := Heap.SameBut.update ..
      have at1 := store_at (es' := es1) (t' := t2) e1 e3
      generalize s.heap.update a (Obj.putSet es1 t2) = h1 at sb at1 ⊢
      have led2 : w.params.followText "set-order" = true ∨ t2.led = true := by
        rw [z4, m2]
        exact R.led
      have full : t2.tooFull = decide ((L.length + 1) * 5 ≥ t.mask * 3) := by
        unfold SetTable.tooFull
        rw [T2.fill.1, List.length_map, len1, z3, m1]
      rw [full, sz]
      by_cases c : (L.length + 1) * 5 ≥ t.mask * 3
      · obtain ⟨M, q1, q2, q3, q4⟩ := next_size R.mq room c few
        rw [decide_eq_true c]
        have last : wpAny (model P w) A (setRelay a (SetTable.grown (L.length + 1))) (fun _ s' => wpAny (model P w) A (pure true) Q E s') E { s with heap := h1 } :=
          relaid (s := { s with heap := h1 }) (L := L1) at1 ⟨e2.1, e2.2.1, e2.2.2⟩ rfl rows1 T2 (by rw [len1, z3, m1]; exact q4) nd1 led2 q1 q2 (by rw [len1]; exact q3) fun h2 L3 es3 ep3 t3 sb3 R3 p3 =>
            wpAny_pure (h true h2 L3 es3 ep3 t3 (sb.trans sb3) R3 (fun z => absurd z m) fun _ => p3.trans pm)
        first
          | exact wpAny_bind (wp_if_pos rfl last)
          | exact wp_if_pos rfl (wpAny_bind last)
      · rw [decide_eq_false c]
        have last : Q true { s with heap := h1 } := by
          refine h true h1 L1 es1 (ep + 1) t2 sb ⟨⟨_, at1, ⟨e2.1, e2.2.1, e2.2.2⟩, rfl⟩, rows1, T2, by rw [z3, m1]; exact R.mq, nd1, led2, ?_⟩ (fun z => absurd z m) fun _ => pm
          rw [len1, z3, m1]
          omega
        first
          | exact wp_if_neg (by decide) (wpAny_pure last)
          | exact wpAny_bind (wp_if_neg (by decide) (wpAny_pure (wpAny_pure last)))
    by_cases pl1 : t1.plain = true
    · first
        | (refine wpAny_bind (wp_if_pos pl1 (hbv_tup hx fun b => ?_)))
        | (refine wp_if_pos pl1 (wpAny_bind (hbv_tup hx fun b => ?_)))
      cases b
      · exact go { t1 with plain := false } rfl rfl rfl rfl
      · exact go t1 rfl rfl rfl rfl
    · first
        | (refine wpAny_bind (wp_if_neg pl1 (wpAny_pure ?_)))
        | (refine wp_if_neg pl1 (wpAny_bind (wpAny_pure ?_)))
      exact go t1 rfl rfl rfl rfl
/-- a new set -/
theorem setQ_new {h : Heap} (e : h.get? a = some { cls := .type "set", dict := none, data := .set #[] 0 (.fresh 0 0 (!w.params.followText "set-order")) }) : SetQ P w h a [] #[] 0 (.fresh 0 0 (!w.params.followText "set-order")) where
  obj := ⟨_, e, ⟨rfl, rfl, rfl⟩, rfl⟩
  rows := rfl
  tab := ⟨List.Pairwise.nil, rfl, rfl, ⟨3, by decide, rfl⟩, fun _ z => (by cases z), fun i h j hi => (by simp at hi)⟩
  mq := .inl rfl
  nd := List.nodup_nil
  led := by
    show _ ∨ (!w.params.followText "set-order") = true
    cases w.params.followText "set-order"
    · exact .inr rfl
    · exact .inl rfl
  room := by
    show 0 * 5 < 7 * 3
    decide
end
end TM
end
section
set_option maxHeartbeats 4000000
set_option maxRecDepth 100000
set_option linter.all false
namespace TM
open PySem PySem.Spec PyProof.Rows L2
/-- the set of tuples at a: which, and where they stand -/
def SetO (P : Program) (w : World) (a : Addr) (L : List (Addr × List Key)) : HO := .ext fun h => ∃ es ep t, SetQ P w h a L es ep t
theorem setO_ok {P : Program} {w : World} {H : Hp} {h : Heap} {a : Addr} {L : List (Addr × List Key)} {es ep t} (R : SetQ P w h a L es ep t) : ObjOk P w H h a (SetO P w a L) := by
  obtain ⟨o, e1, e2⟩ := id R.obj
  refine ⟨⟨es, ep, t, R⟩, ⟨o, e1⟩, fun h1 h2 p k => ?_⟩
  obtain ⟨es', ep', t', R'⟩ := p
  obtain ⟨o', g1, g2⟩ := id R'.obj
  exact ⟨es', ep', t', ⟨o', k o' g1, g2⟩, R'.rows, R'.tab, R'.mq, R'.nd, R'.led, R'.room⟩
theorem key_items {P : Program} {w : World} : ∀ {k : List Key} {us : List Value}, Vals (k.map kV) us → ItemsAre (MK P w) k us
  | [], _, .nil => .nil
  | _ :: _, _, .cons r rs => .cons (kV_is r) (key_items rs)
/-- where the keys stand -/
def KeysAt (K : PySem.W.Frag) (H : Hp) (L : List (Addr × List Key)) : Prop := ∀ p ∈ L, SqT K H p.1 (p.2.map kV)
section
variable {X : Cx}
theorem tup_at {pins : List (Addr × Obj)} {σ : L2.St} {H : Hp} {s : Shared} (I : Inv X pins σ H s) {b : Addr} {k : List Key} (h : SqT X.K H b (k.map kV)) : TupAt X.prog X.w s.heap k b := by
  obtain ⟨its, r, ⟨o, e1, e2, m, e3⟩, _⟩ := I.tuple h
  exact ⟨o, its.toArray, m, e1, e2, e3, by simpa using key_items r⟩
/-- set() -/
def rSet0Q (P : Program) (w : World) : List V → Hp → VK → Prop := fun xs H Q => xs = [] ∧ ∀ p, H p = none → Q (.ref p) (upd H p (SetO P w p []))
theorem cr_set0Q : CallR X (.type "set") (rSet0Q X.prog X.w) := by
  intro pins s σ H xs us Q I r h
  obtain ⟨rfl, q⟩ := h
  cases r
  refine setR_new fun _ => ?_
  have new := setQ_new (P := X.prog) (w := X.w) (a := s.heap.objs.size) (h := s.heap.push { cls := .type "set", dict := none, data := .set #[] 0 (.fresh 0 0 (!X.w.params.followText "set-order")) }) (Heap.get?_push_size _ rfl)
  exact ⟨.ref _, upd H s.heap.objs.size (SetO X.prog X.w s.heap.objs.size []), I.laid (t' := s.toks) (fun b u e => Heap.get?_push_of_some _ e) (Nat.le_refl _) (setO_ok new), rfl, q _ (I.hok.fresh (Nat.le_refl _))⟩
/-- seen.add(k) -/
def rAddQ (K : PySem.W.Frag) (P : Program) (w : World) : V → List V → Hp → VK → Prop := fun x xs H Q => ∃ (a b : Addr) (k : List Key) (L : List (Addr × List Key)), x = V.ref a ∧ xs = [.ref b] ∧ H a = some (SetO P w a L) ∧ KeysAt K H L ∧ SqT K H b (k.map kV) ∧ L.length + 1 ≤ 4914 ∧
  ∀ L', (k ∈ L.map (·.2) → L' = L) → (k ∉ L.map (·.2) → L'.Perm ((b, k) :: L)) → Q .non (upd H a (SetO P w a L'))
theorem mt_addQ (hu : X.A.units + 64 < cLine) : MtR X "set.add" (rAddQ X.K X.prog X.w) := by
  intro pins s σ H x xs v us Q I rx rxs h
  obtain ⟨a, b, k, L, rfl, rfl, ha, hL, hb, few, q⟩ := h
  cases rx
  rw [Vals.ref1 rxs]
  obtain ⟨es, ep, t, R⟩ := (I.hok a _ ha).1
  obtain ⟨o, e1, e2, e3⟩ := id R.obj
  have isS : s.TypeIs (.ref a) "set" := ⟨o, e1, e2.1⟩
  refine wpAny_call_entry PySem.F.slot_set_add isS PySem.F.entry_set_add ?_ (PySem.F.args_set_add_2 _ _)
  unfold Builtin.«set.add» Builtin.Frozenset.oneOther
  simp only [List.isEmpty_nil, bind_assoc]
  unfold Builtin.Frozenset.addrOf setAdd
  refine wpAny_bind (wpAny_pure ?_)
  try dsimp only
  refine wpAny_bind (wpAny_pure ?_)
  try dsimp only
  refine wpAny_bind (wpAny_holding (wpAny_bind (wpAny_pyHash_tuple (by show _ < cLine; simp; omega) (tup_at I hb) ?_)))
  refine added (s := { s with toks := s.toks + (k.length + 1) }) R (fun p hp => tup_at I (hL p hp)) (tup_at I hb) (by show _ < cLine; simp; omega) few fun r h' L' es' ep' t' sb R' c1 c2 => ?_
  have he : ∃ u, h'.get? a = some u := by
    obtain ⟨o', g, _⟩ := R'.obj
    exact ⟨o', g⟩
  show wpAny _ _ (ret Value.none) _ _ _
  exact wpAny_pure ⟨_, rfl, .non, upd H a (SetO X.prog X.w a L'), I.write (e := a) (t' := s.toks + (k.length + 1)) (by rw [ha]; trivial) (.inl rfl) (fun b u hb hu => (sb.2 b hb).trans hu) he (setO_ok R'), rfl, q L' c1 c2⟩
def tAddQ (K : PySem.W.Frag) (P : Program) (w : World) (to : TE) (t : TA) : TE := fun σ H Q => to σ H fun x H1 => (∃ a L, x = V.ref a ∧ H1 a = some (SetO P w a L)) ∧ t σ H1 fun xs H2 => rAddQ K P w x xs H2 Q
variable {o e : Expr} {es : List Expr} {to : TE} {t : TA} {apos cpos : Pos}
theorem pe_addQ (hu : X.A.units + 64 < cLine) (ho : PE X o to) (ha : PA X (e :: es) t)
    (h1 : attributeBase o "add" X.env (eval o X.env) = eval o X.env := by rfl)
    (h2 : ((backTo cpos (starEach (e :: es) X.env)).all (fun x => !x.1) && (backToKw cpos (keywordEach [] X.env)).all (fun x => x.1.isSome) && decide ((e :: es).length + ([] : List Keyword).length + (if ([] : List Keyword).isEmpty then 0 else 1) < 30)) = true := by rfl)
    (h3 : (apos.endLine == cpos.line) = true := by rfl) (h4 : starEach (e :: es) X.env = (false, eval e X.env) :: starEach es X.env := by rfl) (h5 : (backTo cpos (starEach es X.env)).any (·.1) = false := by rfl) :
    PE X (.Call (.Attribute o "add" apos) (e :: es) [] cpos) (tAddQ X.K X.prog X.w to t) := by
  refine ⟨fun pins s σ H Q I h => wpAny_Call_method_late h1 h2 h3 rfl (thn (ho.run pins s σ H _ I h) fun v s1 ⟨x, H1, I1, r1, ty, q1⟩ => ?_)⟩
  obtain ⟨a, L, rfl, hka⟩ := ty
  obtain ⟨es', ep', t', R⟩ := (I1.hok a _ hka).1
  obtain ⟨ob, e1, e2, e3⟩ := R.obj
  cases r1
  refine ⟨"set", "set.add", PySem.F.plainAttrs_set, PySem.F.slot_set_add, PySem.F.type_set_add, ⟨ob, e1, e2.1⟩, fun b z => ?_, ?_⟩
  · injection z with z
    subst z
    exact ⟨ob, e1, e2.2.1⟩
  · have hA := ha.run cpos pins s1 σ H1 _ I1 q1
    rw [h4] at hA ⊢
    refine Calls.callWith_builtin (by show (false || (backTo cpos (starEach es X.env)).any (·.1)) = false; rw [h5] <;> rfl) (Calls.evalArgs_plain (thn hA fun us s2 ⟨vs, H2, I2, r2, q2⟩ => ?_))
    exact mt_addQ hu pins s2 σ H2 (.ref a) vs (.ref a) us Q I2 rfl r2 q2
/-- k not in seen -/
def rNotInQ (K : PySem.W.Frag) (P : Program) (w : World) : V → V → Hp → VK → Prop := fun x y H Q => ∃ (a b : Addr) (k : List Key) (L : List (Addr × List Key)), x = .ref b ∧ y = V.ref a ∧ H a = some (SetO P w a L) ∧ KeysAt K H L ∧ SqT K H b (k.map kV) ∧ (k ∈ L.map (·.2) → Q (.bl false) H) ∧ (k ∉ L.map (·.2) → Q (.bl true) H)
theorem or_notInQ (hu : X.A.units + 64 < cLine) : OpR X (compareOp .NotIn) (rNotInQ X.K X.prog X.w) := by
  intro pins s σ H x y v u Q I rx ry h
  obtain ⟨a, b, k, L, rfl, rfl, ha, hL, hb, q1, q2⟩ := h
  cases ry
  cases rx
  obtain ⟨es, ep, t, R⟩ := (I.hok a _ ha).1
  obtain ⟨o, e1, e2, e3⟩ := id R.obj
  have isS : s.TypeIs (.ref a) "set" := ⟨o, e1, e2.1⟩
  show wpAny _ _ (do return Value.bool (!(← contains (.ref a) (.ref b)))) _ _ s
  refine wpAny_bind ?_
  unfold contains
  try with_reducible refine wpAny_holding ?_
  refine wpAny_bind (wpAny_specialOf isS PySem.F.slot_set_contains.lookup ?_)
  show wpAny _ _ (if (some (Value.builtin "set.__contains__") == some Value.none) = true then _ else _) _ _ s
  rw [if_neg (by rw [beq_builtin_none]; exact Bool.false_ne_true)]
  refine wpAny_bind (wpAny_callSpecialUnlessNone?_slot (name := Str.ofString "__contains__") isS PySem.F.slot_set_contains (wpAny_call_entry PySem.F.slot_set_contains isS entry_set_contains ?_ (PySem.F.args_set_contains_2 _ _)))
  unfold Builtin.«frozenset.__contains__» Builtin.Frozenset.oneOther
  simp only [List.isEmpty_nil, bind_assoc]
  unfold Builtin.Frozenset.addrOf Builtin.Frozenset.withSetAsKey
  refine wpAny_bind (wpAny_pure ?_)
  try dsimp only
  refine wpAny_bind (wpAny_pure ?_)
  try dsimp only
  refine wpAny_bind (wpAny_tryCatch ?_)
  refine has_tup R (fun p hp => tup_at I (hL p hp)) (tup_at I hb) (by show _ < cLine; simp; omega) (fun m => ?_) fun m => ?_
  · show wpAny _ _ (ret (Value.bool true)) _ _ _
    exact wpAny_pure ⟨_, rfl, wpAny_truthy_bool (wpAny_pure ⟨.bl false, H, I.tok _, rfl, q1 m⟩)⟩
  · show wpAny _ _ (ret (Value.bool false)) _ _ _
    exact wpAny_pure ⟨_, rfl, wpAny_truthy_bool (wpAny_pure ⟨.bl true, H, I.tok _, rfl, q2 m⟩)⟩
end
end TM
end
namespace TR
end TR
namespace TR
end TR
namespace TR
end TR
namespace TU
end TU
namespace TR
end TR
namespace TR
end TR
namespace TR
end TR
section
set_option Elab.async false
set_option maxRecDepth 100000
set_option linter.all false
namespace TR
open PySem PySem.Spec PyProof.Rows L2 TM TK TB TP TH TU TW
section
variable {X : Cx} {n : Nat}
end
theorem two_of {h w : Nat} {t : List Nat} {g : Grid} (hV : VG h w g) : ∃ f0, Two f0 (tilts h w t g).flatten (tilts h w t (tilts h w t g)).flatten ∧ tilts h w t (tilts h w t g) = rel f0 (tilts h w t g) := by
  have V1 := VG.tilts t hV
  obtain ⟨f0, sg0, hf0⟩ := turn_sig hV.rc V1.nd
  exact ⟨f0, ⟨sg0, by rw [hf0, rel_flat], V1.nd, (like_tilts t V1.rc).pm⟩, hf0⟩
section
variable {P : Program} {w_ : World} {K : PySem.W.Frag} {mg : Str → Option Value} {base : Heap} {C D CU fCl fTc fCm fAr fBk fTe : Addr} {n : Nat} {fdCm : FuncData}
theorem scCm : FnScope ["tray", "marble"] ["tray", "marble"] (defScope sCheckMarble) := ⟨rfl, rfl, rfl, by decide +kernel, rfl, by decide +kernel, by decide +kernel⟩
def spCm (K : PySem.W.Frag) (D : Addr) : Sp := fun vs H Q _ => ∃ (p : Addr) (c h w : Nat) (g : Grid), vs = [.ref p, sg c] ∧ TrayAt K D H p g ∧ VG h w g ∧ c ∈ mb g.flatten ∧ ∀ H', Same H H' → Q .non H'
theorem ok_cm {f : Addr} {fd : FuncData} (F : Fun K "check_marble" "check_marble" sCheckMarble f fd) (hs : PySem.W.findIn K (.ref D) "__contains__" = some (some (.ref fTc))) (hf : PySem.W.isFn K (.ref fTc) = true) (FC : FnR P w_ K mg base CX0 3 fTc (spTc K D)) :
    FnOk P w_ K mg base CX0 4 f fd ["tray", "marble"] (spCm K D) := by
  refine F.ok scCm (fun vs H Q E h => ?_) (fun cdv A outer s H vs Q E hr h => ?_)
  · obtain ⟨p, c, h, w, g, rfl, _⟩ := h
    rfl
  · obtain ⟨p, c, h, w, g, rfl, T0, hV, hm, k⟩ := h
    obtain ⟨dx, a, hp, hS⟩ := id T0
    refine ⟨_, pss_one (ps_if (pt_cmpR (op_notOwn hs hf FC (hr.mono (by decide)) pass0) (pv 1) (pv 0) (by rfl)) pss_never pss_nil), ?_⟩
    have hh : has g [c] = true := by
      show (true && decide (c ∈ mb g.flatten)) = true
      rw [decide_eq_true hm]
      rfl
    refine ⟨_, rfl, _, rfl, p, dx, _, rfl, hp, p, _, h, w, g, rfl, T0, hV, .inl ⟨[c], rfl, by show 1 ≤ 1000; decide, fun H1 sm => ?_⟩⟩
    rw [hh]
    exact ⟨true, rfl, _, rfl, iteF (k _ sm)⟩
/-- where a marble stands, as a place's tuple -/
def PlcAt (H : Hp) (q : Addr) (w : Nat) (g : Grid) (c : Nat) : Prop := H q = some (.tup (plV w (g.flatten.idxOf c)))
theorem call_ok {H : Hp} {p : Addr} {c h w : Nat} {g : Grid} {Q : VK} {E : XK} (T0 : TrayAt K D H p g) (hV : VG h w g) (hm : c ∈ mb g.flatten) (k : ∀ H' q, Same H H' → H q = none → PlcAt H' q w g c → Q (.ref q) H') : spCl K D CU [.ref p, sg c] H Q E := by
  have hc := mem_mb.mp hm
  exact ⟨p, _, h, w, g, rfl, T0, hV, .inl ⟨c, g.flatten.idxOf c, rfl, hc.2, (idx_at hc.1).2, fun H' q s hq e => k H' q s hq e⟩⟩
end
end TR
end
section
set_option Elab.async false
set_option maxRecDepth 100000
set_option linter.all false
namespace TR
open PySem PySem.Spec PyProof.Rows L2 TM TK TB TP TH TU TW
section
variable {f : Nat → Nat} {A B : List Nat}
theorem pw_same (T : Two f A B) {c : Nat} (hc : c ∈ mb A) : ∀ n, pw (TM.nxt A B) n c = pw f n c
  | 0 => rfl
  | n + 1 => by
    show TM.nxt A B (pw (TM.nxt A B) n c) = f (pw f n c)
    rw [pw_same T hc n]
    exact T.nxt (pw_mem T.onto.mem hc n)
end
section
variable {φ : Nat → Nat} {M : List Nat}
theorem ring_of (O : Onto φ M) (hM : ∀ c ∈ M, 97 ≤ c ∧ c < 123) {s : Nat} (hs : s ∈ M) : Ring φ s (ringLen φ s) := by
  obtain ⟨L, h1, h2⟩ := ring_ex O hM hs
  exact ring_len h2 h1
theorem orb_len (s : Nat) : (orb φ s).length = ringLen φ s := by
  unfold orb
  rw [List.length_map, List.length_range]
theorem orb_get {s i : Nat} (h : i < ringLen φ s) : (orb φ s)[i]? = some (pw φ i s) := by
  unfold orb
  rw [List.getElem?_map, List.getElem?_range h]
  rfl
theorem orb_mem {s c : Nat} (h : c ∈ orb φ s) : ∃ i, i < ringLen φ s ∧ pw φ i s = c := by
  obtain ⟨i, hi, e⟩ := List.mem_map.mp h
  exact ⟨i, List.mem_range.mp hi, e⟩
theorem orb_self (s : Nat) : s ∈ orb φ s := by
  have : (orb φ s)[0]? = some (pw φ 0 s) := orb_get (by unfold ringLen; omega)
  exact List.mem_of_getElem? this
theorem orb_M (O : Onto φ M) {s : Nat} (hs : s ∈ M) : ∀ c ∈ orb φ s, c ∈ M := fun c hc => by
  obtain ⟨i, _, rfl⟩ := orb_mem hc
  exact pw_mem O.mem hs i
/-- one turn of the circle leaves each of its marbles -/
theorem orb_turn (O : Onto φ M) (hM : ∀ c ∈ M, 97 ≤ c ∧ c < 123) {s c : Nat} (hs : s ∈ M) (hc : c ∈ orb φ s) : pw φ (ringLen φ s) c = c := by
  obtain ⟨i, _, rfl⟩ := orb_mem hc
  rw [← pw_add, Nat.add_comm, pw_add, (ring_of O hM hs).back]
theorem times_turn {c L : Nat} (h : pw φ L c = c) : ∀ k, pw φ (k * L) c = c
  | 0 => by rw [Nat.zero_mul]; rfl
  | k + 1 => by
    rw [Nat.succ_mul, Nat.add_comm, pw_add, times_turn h k]
    exact h
theorem cir_cover : ∀ (r seen : List Nat), ∀ s ∈ r, s ∈ seen ∨ s ∈ (cir φ r seen).flatten
  | [], _, s, h => by cases h
  | x :: r, seen, s, h => by
    unfold cir
    split
    · next q =>
      rcases List.mem_cons.mp h with rfl | h
      · exact .inl q
      · exact cir_cover r seen s h
    · rcases List.mem_cons.mp h with rfl | h
      · exact .inr (List.mem_flatten.mpr ⟨_, List.mem_cons_self, orb_self s⟩)
      · rcases cir_cover r (seen ++ orb φ x) s h with q | q
        · rcases List.mem_append.mp q with q | q
          · exact .inl q
          · exact .inr (List.mem_flatten.mpr ⟨_, List.mem_cons_self, q⟩)
        · rw [List.flatten_cons]
          exact .inr (List.mem_append.mpr (.inr q))
theorem orb_closed (O : Onto φ M) (hM : ∀ c ∈ M, 97 ≤ c ∧ c < 123) {s : Nat} (hs : s ∈ M) : ∀ c ∈ orb φ s, φ c ∈ orb φ s := fun c hc => by
  obtain ⟨i, hi, rfl⟩ := orb_mem hc
  have R := ring_of O hM hs
  by_cases q : i + 1 < ringLen φ s
  · exact List.mem_of_getElem? (orb_get q)
  · have e : i + 1 = ringLen φ s := by omega
    have : φ (pw φ i s) = s := by
      have := R.back
      rw [← e] at this
      exact this
    rw [this]
    exact orb_self s
/-- each circle starts with its least marble, and they stand in order -/
theorem cir_order (O : Onto φ M) (hM : ∀ c ∈ M, 97 ≤ c ∧ c < 123) : ∀ (r seen : List Nat), (∀ s ∈ r, s ∈ M) → r.Pairwise (· < ·) → (∀ c ∈ seen, c ∈ M) → (∀ c ∈ seen, φ c ∈ seen) → (∀ c ∈ M, c ∉ r → c ∈ seen) →
    (∀ o ∈ cir φ r seen, ∃ s, s ∈ M ∧ s ∈ r ∧ o = orb φ s ∧ ∀ c ∈ o, s ≤ c) ∧ (cir φ r seen).Pairwise fun o o' => o.getD 0 0 < o'.getD 0 0
  | [], _, _, _, _, _, _ => ⟨fun o h => (by cases h), List.Pairwise.nil⟩
  | s :: r, seen, hr, up, hs, cl, rest => by
    obtain ⟨u1, u2⟩ := List.pairwise_cons.mp up
    have hr' := fun x hx => hr x (List.mem_cons_of_mem _ hx)
    have sM := hr s List.mem_cons_self
    unfold cir
    split
    · next q =>
      obtain ⟨i1, i2⟩ := cir_order O hM r seen hr' u2 hs cl fun c hc hn => by
        by_cases z : c = s
        · rw [z]
          exact q
        · exact rest c hc fun hm => by
            rcases List.mem_cons.mp hm with h | h
            · exact z h
            · exact hn h
      exact ⟨fun o ho => let ⟨x, h1, h2, h3⟩ := i1 o ho; ⟨x, h1, List.mem_cons_of_mem _ h2, h3⟩, i2⟩
    · next q =>
      have oM := orb_M O sM
      have oC := orb_closed O hM sM
      obtain ⟨i1, i2⟩ := cir_order O hM r (seen ++ orb φ s) hr' u2 (fun c hc => by
          rcases List.mem_append.mp hc with h | h
          · exact hs c h
          · exact oM c h) (fun c hc => by
          rcases List.mem_append.mp hc with h | h
          · exact List.mem_append.mpr (.inl (cl c h))
          · exact List.mem_append.mpr (.inr (oC c h))) fun c hc hn => by
        by_cases z : c = s
        · rw [z]
          exact List.mem_append.mpr (.inr (orb_self s))
        · exact List.mem_append.mpr (.inl (rest c hc fun hm => by
            rcases List.mem_cons.mp hm with h | h
            · exact z h
            · exact hn h))
      have head : ∀ x : Nat, (orb φ x).getD 0 0 = x := fun x => by
        have : (orb φ x)[0]? = some (pw φ 0 x) := orb_get (by unfold ringLen; omega)
        rw [List.getD_eq_getElem?_getD, this]
        rfl
      refine ⟨fun o ho => ?_, List.pairwise_cons.mpr ⟨fun o ho => ?_, i2⟩⟩
      · rcases List.mem_cons.mp ho with rfl | ho
        · refine ⟨s, sM, List.mem_cons_self, rfl, fun c hc => ?_⟩
          refine Classical.byContradiction fun z => q ?_
          have cs : c ∈ seen := rest c (oM c hc) fun hm => by
            rcases List.mem_cons.mp hm with h | h
            · omega
            · have := u1 c h
              omega
          obtain ⟨i, hi, e⟩ := orb_mem hc
          have R := ring_of O hM sM
          have := pw_mem cl cs (ringLen φ s - i)
          rw [← e, ← pw_add, show ringLen φ s - i + i = ringLen φ s by omega, R.back] at this
          exact this
        · obtain ⟨x, h1, h2, h3⟩ := i1 o ho
          exact ⟨x, h1, List.mem_cons_of_mem _ h2, h3⟩
      · obtain ⟨x, h1, h2, rfl, h3⟩ := i1 o ho
        rw [head, head]
        exact u1 x h2
end
end TR
end
section
set_option Elab.async false
set_option maxRecDepth 100000
set_option linter.all false
namespace TR
open PySem PySem.Spec PyProof.Rows L2 TM TK TB TP TH TU TW
theorem fold_dvd : ∀ (cs : List (List Nat)) (a : Nat), a ∣ cs.foldl (fun a o => Nat.lcm a o.length) a ∧ ∀ o ∈ cs, o.length ∣ cs.foldl (fun a o => Nat.lcm a o.length) a
  | [], a => ⟨Nat.dvd_refl _, fun o h => by cases h⟩
  | o :: r, a => by
    obtain ⟨h1, h2⟩ := fold_dvd r (Nat.lcm a o.length)
    refine ⟨Nat.dvd_trans (Nat.dvd_lcm_left a o.length) h1, fun x hx => ?_⟩
    rcases List.mem_cons.mp hx with rfl | hx
    · exact Nat.dvd_trans (Nat.dvd_lcm_right a x.length) h1
    · exact h2 x hx
theorem fold_of_dvd : ∀ (cs : List (List Nat)) (a m : Nat), a ∣ m → (∀ o ∈ cs, o.length ∣ m) → cs.foldl (fun a o => Nat.lcm a o.length) a ∣ m
  | [], a, m, h, _ => h
  | o :: r, a, m, h, hr => fold_of_dvd r _ m (Nat.lcm_dvd h (hr o List.mem_cons_self)) fun x hx => hr x (List.mem_cons_of_mem _ hx)
theorem dvd_backN {cs : List (List Nat)} {o : List Nat} (h : o ∈ cs) : o.length ∣ backN cs := (fold_dvd cs 1).2 o h
theorem backN_dvd {cs : List (List Nat)} {m : Nat} (h : ∀ o ∈ cs, o.length ∣ m) : backN cs ∣ m := fold_of_dvd cs 1 m (Nat.one_dvd _) h
section
variable {h w : Nat} {t : List Nat} {g : Grid}
theorem cir_facts (hV : VG h w g) : (∀ o ∈ cirs h w t g, ∃ s, s ∈ mb (tilts h w t g).flatten ∧ o = orb (TM.nxt (tilts h w t g).flatten (tilts h w t (tilts h w t g)).flatten) s ∧ ∀ c ∈ o, s ≤ c) ∧
    (cirs h w t g).Pairwise (fun o o' => o.getD 0 0 < o'.getD 0 0) ∧ (cirs h w t g).flatten.Perm (mb g.flatten) := by
  obtain ⟨f0, T, _⟩ := two_of (t := t) hV
  have V1 := VG.tilts t hV
  have O := onto_nxt T
  have hM := mb_let V1
  have pS := srt_perm (mb (tilts h w t g).flatten)
  have ndS : (srt (mb (tilts h w t g).flatten)).Nodup := pS.nodup_iff.mpr T.nd
  have up : (srt (mb (tilts h w t g).flatten)).Pairwise (· < ·) := (srt_up _).and ndS |>.imp fun {a b} hh => Nat.lt_of_le_of_ne hh.1 hh.2
  obtain ⟨c1, c2⟩ := cir_order O hM (srt (mb (tilts h w t g).flatten)) [] (fun s hs => mem_srt.mp hs) up (fun _ h => by cases h) (fun _ h => by cases h) fun c hc hn => absurd (mem_srt.mpr hc) hn
  refine ⟨fun o ho => let ⟨s, a, _, b, c⟩ := c1 o ho; ⟨s, a, b, c⟩, c2, ?_⟩
  obtain ⟨n1, n2⟩ := cir_ok O hM (srt (mb (tilts h w t g).flatten)) [] (fun s hs => mem_srt.mp hs) (fun _ h => by cases h) (fun _ h => by cases h) List.nodup_nil
  rw [List.nil_append] at n1
  refine ((List.perm_ext_iff_of_nodup n1 T.nd).mpr fun c => ⟨n2 c, fun hc => ?_⟩).trans (like_tilts t hV.rc).pm
  rcases cir_cover (φ := TM.nxt (tilts h w t g).flatten (tilts h w t (tilts h w t g)).flatten) (srt (mb (tilts h w t g).flatten)) [] c (mem_srt.mpr hc) with h | h
  · cases h
  · exact h
/-- back_after rounds leave each marble -/
theorem back_turn (hV : VG h w g) {f0 : Nat → Nat} (T : Two f0 (tilts h w t g).flatten (tilts h w t (tilts h w t g)).flatten) {c : Nat} (hc : c ∈ mb (tilts h w t g).flatten) : pw f0 (backN (cirs h w t g)) c = c := by
  have O := onto_nxt T
  have hM := mb_let (VG.tilts t hV)
  obtain ⟨c1, _, c3⟩ := cir_facts (t := t) hV
  have : c ∈ (cirs h w t g).flatten := c3.mem_iff.mpr ((like_tilts t hV.rc).pm.mem_iff.mp hc)
  obtain ⟨o, ho, hco⟩ := List.mem_flatten.mp this
  obtain ⟨k, hk⟩ := dvd_backN ho
  obtain ⟨s, sM, rfl, _⟩ := c1 o ho
  rw [orb_len] at hk
  rw [hk, Nat.mul_comm, ← pw_same T hc]
  exact times_turn (orb_turn O hM sM hco) k
theorem back_after_same (hV : VG h w g) (n : Nat) : rounds h w t (n + 1 + backN (cirs h w t g)) g = rounds h w t (n + 1) g := by
  obtain ⟨f0, T, e0⟩ := two_of (t := t) hV
  rw [show n + 1 + backN (cirs h w t g) = (n + backN (cirs h w t g)) + 1 by omega, rounds_pw T.s e0 (n + backN (cirs h w t g)), rounds_pw T.s e0 n]
  refine List.map_congr_left fun l hl => List.map_congr_left fun c hc => ?_
  rw [pw_add]
  by_cases z : c = 46
  · rw [z, pw_46 T.s.z]
  · rw [back_turn hV T (mem_mb.mpr ⟨List.mem_flatten.mpr ⟨l, hl, hc⟩, z⟩)]
end
end TR
end
section
set_option maxHeartbeats 4000000
set_option linter.all false
namespace TM
def T4 (c : Nat) : Prop := c = 100 ∨ c = 108 ∨ c = 114 ∨ c = 117
theorem T4.bd {c : Nat} (h : T4 c) : 100 ≤ c ∧ c ≤ 117 := by
  rcases h with h | h | h | h <;> subst h <;> decide
/-- words by length, then by the alphabet -/
def val (t : List Nat) : Nat := t.foldl (fun a c => a * 128 + c) 0
theorem val_snoc (t : List Nat) (c : Nat) : val (t ++ [c]) = val t * 128 + c := by
  unfold val
  rw [List.foldl_append]
  rfl
theorem nil_snoc (t : List Nat) : t = [] ∨ ∃ u c, t = u ++ [c] := by
  rcases List.eq_nil_or_concat t with e | ⟨u, c, e⟩
  · exact .inl e
  · exact .inr ⟨u, c, by simpa using e⟩
theorem snoc_rec {p : List Nat → Prop} (h0 : p []) (h1 : ∀ u c, p u → p (u ++ [c])) : ∀ t, p t := fun t => by
  have : ∀ n (t : List Nat), t.length = n → p t := fun n => by
    induction n with
    | zero =>
      intro t e
      rw [List.eq_nil_of_length_eq_zero e]
      exact h0
    | succ n ih =>
      intro t e
      rcases nil_snoc t with rfl | ⟨u, c, rfl⟩
      · exact h0
      · exact h1 u c (ih u (by simpa using e))
  exact this _ t rfl
theorem val_bd : ∀ t : List Nat, (∀ c ∈ t, T4 c) → val t < 128 ^ t.length ∧ (t ≠ [] → 128 ^ (t.length - 1) ≤ val t) := by
  refine snoc_rec (fun _ => ⟨by decide, fun h => absurd rfl h⟩) fun u c ih h => ?_
  obtain ⟨i1, i2⟩ := ih fun x hx => h x (List.mem_append_left _ hx)
  have hc := (h c (by simp)).bd
  have el : (u ++ [c]).length = u.length + 1 := by simp
  rw [val_snoc, el, Nat.pow_succ]
  refine ⟨by omega, fun _ => ?_⟩
  show 128 ^ u.length ≤ _
  by_cases e : u = []
  · subst e
    show 1 ≤ _
    omega
  · have := i2 e
    have pos : 1 ≤ u.length := by
      cases u with
      | nil => exact absurd rfl e
      | cons _ _ => exact Nat.succ_le_succ (Nat.zero_le _)
    rw [show u.length = (u.length - 1) + 1 by omega, Nat.pow_succ]
    omega
theorem val_shorter {a b : List Nat} (ha : ∀ c ∈ a, T4 c) (hb : ∀ c ∈ b, T4 c) (h : a.length < b.length) : val a < val b := by
  have h1 := (val_bd a ha).1
  have h2 := (val_bd b hb).2 (fun e => by rw [e] at h; simp at h)
  have h3 : 128 ^ a.length ≤ 128 ^ (b.length - 1) := Nat.pow_le_pow_right (by decide) (by omega)
  omega
theorem val_inj : ∀ (a b : List Nat), (∀ c ∈ a, T4 c) → (∀ c ∈ b, T4 c) → val a = val b → a = b := by
  refine snoc_rec (fun b _ hb e => ?_) fun u c ih b ha hb e => ?_
  · refine Classical.byContradiction fun z => ?_
    have := val_shorter (a := []) (fun _ h => by cases h) hb (by
      cases b with
      | nil => exact absurd rfl z
      | cons _ _ => simp)
    omega
  · rcases nil_snoc b with rfl | ⟨v, d, rfl⟩
    · have := val_shorter (a := []) (b := u ++ [c]) (fun _ h => by cases h) ha (by simp)
      omega
    · have hc := (ha c (by simp)).bd
      have hd := (hb d (by simp)).bd
      rw [val_snoc, val_snoc] at e
      have e1 : val u = val v := by omega
      have e2 : c = d := by omega
      rw [e2, ih v (fun x hx => ha x (List.mem_append_left _ hx)) (fun x hx => hb x (List.mem_append_left _ hx)) e1]
def opq (c : Nat) : Nat := if c = 108 then 114 else if c = 114 then 108 else if c = 117 then 100 else 117
/-- the tilts worth trying behind a way -/
def nx : List Nat → List Nat
  | [] => [100, 108, 114, 117]
  | [c] => if isH c then [100, 117] else [108, 114]
  | c :: d :: t => [opq ((c :: d :: t).getD t.length 0)]
theorem opq_T4 (c : Nat) : T4 (opq c) := by
  unfold opq T4
  split
  · exact .inr (.inr (.inl rfl))
  · split
    · exact .inr (.inl rfl)
    · split
      · exact .inl rfl
      · exact .inr (.inr (.inr rfl))
theorem nx_ok (t : List Nat) : (∀ c ∈ nx t, T4 c) ∧ (nx t).Pairwise (· < ·) := by
  match t with
  | [] => exact ⟨fun c h => by simpa [nx, T4] using h, by simp [nx]⟩
  | [c] =>
    show (∀ x ∈ (if isH c then [100, 117] else [108, 114]), T4 x) ∧ (if isH c then [100, 117] else [108, 114]).Pairwise (· < ·)
    cases isH c
    · exact ⟨fun x h => by simp at h; rcases h with h | h <;> subst h <;> simp [T4], by simp⟩
    · exact ⟨fun x h => by simp at h; rcases h with h | h <;> subst h <;> simp [T4], by simp⟩
  | c :: d :: t =>
    refine ⟨fun x h => ?_, by simp [nx]⟩
    have h : x ∈ [opq ((c :: d :: t).getD t.length 0)] := h
    rw [List.mem_singleton.mp h]
    exact opq_T4 _
abbrev Ways := List (List Nat × Grid)
section
variable {n m : Nat}
def addc (n m : Nat) (t : List Nat) (g : Grid) (W : Ways) (c : Nat) : Ways := if tilt n m g c ∈ W.map (·.2) then W else W ++ [(t ++ [c], tilt n m g c)]
def grow (n m : Nat) (W : Ways) (i : Nat) : Ways := match W[i]? with
  | some x => (nx x.1).foldl (addc n m x.1 x.2) W
  | none => W
/-- the first i ways done -/
def bq (n m : Nat) (g : Grid) : Nat → Ways
  | 0 => [([], g)]
  | i + 1 => grow n m (bq n m g i) i
structure BI (n m : Nat) (g : Grid) (W : Ways) (i : Nat) (ds : List Nat) : Prop where
  zero : W[0]? = some ([], g)
  word : ∀ x ∈ W, (∀ c ∈ x.1, T4 c) ∧ x.2 = tilts n m x.1 g
  nd : (W.map (·.2)).Nodup
  up : W.Pairwise (fun x y => val x.1 < val y.1)
  src : ∀ (j : Nat) x, W[j]? = some x → j = 0 ∨ ∃ (k : Nat) (y : List Nat × Grid) (c : Nat), W[k]? = some y ∧ T4 c ∧ x.1 = y.1 ++ [c] ∧ (k < i ∨ k = i ∧ c ∈ ds)
  done : ∀ (k : Nat) (y : List Nat × Grid) (c : Nat), W[k]? = some y → (k < i ∧ c ∈ nx y.1 ∨ k = i ∧ c ∈ ds) → ∃ x ∈ W, x.2 = tilt n m y.2 c ∧ val x.1 ≤ val (y.1 ++ [c])
theorem pw_lt {W : Ways} (h : W.Pairwise (fun x y => val x.1 < val y.1)) {i j : Nat} {x y : List Nat × Grid} (hx : W[i]? = some x) (hy : W[j]? = some y) (l : i < j) : val x.1 < val y.1 := by
  obtain ⟨li, ei⟩ := List.getElem?_eq_some_iff.mp hx
  obtain ⟨lj, ej⟩ := List.getElem?_eq_some_iff.mp hy
  rw [← ei, ← ej]
  exact List.pairwise_iff_getElem.mp h i j li lj l
theorem BI.one {g : Grid} {W : Ways} {i : Nat} {ds : List Nat} (B : BI n m g W i ds) {t : List Nat} {g' : Grid} (hi : W[i]? = some (t, g')) {c : Nat} (hc : T4 c) (hd : ∀ d ∈ ds, d < c) :
    BI n m g (addc n m t g' W c) i (ds ++ [c]) ∧ (addc n m t g' W c)[i]? = some (t, g') := by
  have cb := hc.bd
  have less : ∀ x ∈ W, val x.1 < val (t ++ [c]) := fun x hx => by
    rw [val_snoc]
    obtain ⟨j, hj⟩ := List.getElem?_of_mem hx
    rcases B.src j x hj with rfl | ⟨k, y, c', h1, h2, h3, h4⟩
    · rw [B.zero] at hj
      cases hj
      show 0 < _
      omega
    · have b' := h2.bd
      rw [h3, val_snoc]
      rcases h4 with h4 | ⟨rfl, h5⟩
      · have := pw_lt B.up h1 hi h4
        dsimp only at this
        omega
      · rw [hi] at h1
        cases h1
        have := hd c' h5
        dsimp only
        omega
  unfold addc
  by_cases z : tilt n m g' c ∈ W.map (·.2)
  · rw [if_pos z]
    refine ⟨⟨B.zero, B.word, B.nd, B.up, fun j x hj => ?_, fun k y d hk hh => ?_⟩, hi⟩
    · rcases B.src j x hj with q | ⟨k, y, c', h1, h2, h3, h4⟩
      · exact .inl q
      · exact .inr ⟨k, y, c', h1, h2, h3, h4.imp id fun q => ⟨q.1, List.mem_append_left _ q.2⟩⟩
    · rcases hh with hh | ⟨rfl, hh⟩
      · exact B.done k y d hk (.inl hh)
      · rcases List.mem_append.mp hh with hh | hh
        · exact B.done k y d hk (.inr ⟨rfl, hh⟩)
        · obtain rfl := List.mem_singleton.mp hh
          rw [hi] at hk
          cases hk
          obtain ⟨x, hx, e⟩ := List.mem_map.mp z
          exact ⟨x, hx, e, Nat.le_of_lt (less x hx)⟩
  · rw [if_neg z]
    have keep : ∀ {j : Nat} {x : List Nat × Grid}, W[j]? = some x → (W ++ [(t ++ [c], tilt n m g' c)])[j]? = some x := fun {j x} h => by
      rw [List.getElem?_append_left (List.getElem?_eq_some_iff.mp h).1]
      exact h
    have hw := B.word _ (List.mem_of_getElem? hi)
    have old : ∀ {j : Nat} {x : List Nat × Grid}, (W ++ [(t ++ [c], tilt n m g' c)])[j]? = some x → W[j]? = some x ∨ (j = W.length ∧ x = (t ++ [c], tilt n m g' c)) := fun {j x} h => by
      rcases Nat.lt_or_ge j W.length with l | l
      · rw [List.getElem?_append_left l] at h
        exact .inl h
      · rw [List.getElem?_append_right l] at h
        have l2 := (List.getElem?_eq_some_iff.mp h).1
        have e : j = W.length := by
          simp at l2
          omega
        subst e
        rw [Nat.sub_self] at h
        exact .inr ⟨rfl, (Option.some.inj h).symm⟩
    refine ⟨⟨keep B.zero, fun x hx => ?_, ?_, ?_, fun j x hj => ?_, fun k y d hk hh => ?_⟩, keep hi⟩
    · rcases List.mem_append.mp hx with hx | hx
      · exact B.word x hx
      · rw [List.mem_singleton.mp hx]
        refine ⟨fun d hd' => ?_, ?_⟩
        · rcases List.mem_append.mp hd' with q | q
          · exact hw.1 d q
          · rw [List.mem_singleton.mp q]
            exact hc
        · dsimp only
          rw [tilts_snoc, ← hw.2]
    · rw [List.map_append, List.nodup_append]
      refine ⟨B.nd, by simp, fun a ha b hb => ?_⟩
      rw [List.mem_singleton.mp hb]
      intro e
      rw [e] at ha
      exact z ha
    · refine List.pairwise_append.mpr ⟨B.up, by simp, fun a ha b hb => ?_⟩
      rw [List.mem_singleton.mp hb]
      exact less a ha
    · rcases old hj with q | ⟨_, q⟩
      · rcases B.src j x q with q | ⟨k, y, c', h1, h2, h3, h4⟩
        · exact .inl q
        · exact .inr ⟨k, y, c', keep h1, h2, h3, h4.imp id fun q => ⟨q.1, List.mem_append_left _ q.2⟩⟩
      · subst q
        exact .inr ⟨i, _, c, keep hi, hc, rfl, .inr ⟨rfl, by simp⟩⟩
    · rcases old hk with q | ⟨q, e⟩
      · have from_old : (∃ x ∈ W, x.2 = tilt n m y.2 d ∧ val x.1 ≤ val (y.1 ++ [d])) → ∃ x ∈ W ++ [(t ++ [c], tilt n m g' c)], x.2 = tilt n m y.2 d ∧ val x.1 ≤ val (y.1 ++ [d]) :=
          fun ⟨x, h1, h2⟩ => ⟨x, List.mem_append_left _ h1, h2⟩
        rcases hh with hh | ⟨rfl, hh⟩
        · exact from_old (B.done k y d q (.inl hh))
        · rcases List.mem_append.mp hh with hh | hh
          · exact from_old (B.done k y d q (.inr ⟨rfl, hh⟩))
          · obtain rfl := List.mem_singleton.mp hh
            rw [hi] at q
            cases q
            exact ⟨(t ++ [d], tilt n m g' d), by simp, rfl, Nat.le_refl _⟩
      · have l := (List.getElem?_eq_some_iff.mp hi).1
        rcases hh with hh | hh
        · omega
        · omega
theorem BI.all {g : Grid} {i : Nat} {t : List Nat} {g' : Grid} : ∀ (cs : List Nat) {W : Ways} {ds : List Nat}, BI n m g W i ds → W[i]? = some (t, g') → (∀ c ∈ cs, T4 c) → (ds ++ cs).Pairwise (· < ·) →
    BI n m g (cs.foldl (addc n m t g') W) i (ds ++ cs) ∧ (cs.foldl (addc n m t g') W)[i]? = some (t, g')
  | [], W, ds, B, hi, _, _ => by
    rw [List.append_nil]
    exact ⟨B, hi⟩
  | c :: cs, W, ds, B, hi, h4, hp => by
    obtain ⟨B1, i1⟩ := B.one hi (h4 c List.mem_cons_self) fun d hd => (List.pairwise_append.mp hp).2.2 d hd c List.mem_cons_self
    have r := BI.all cs B1 i1 (fun d hd => h4 d (List.mem_cons_of_mem _ hd)) (by rw [List.append_assoc]; exact hp)
    rw [List.append_assoc] at r
    exact r
theorem BI.next {g : Grid} {W : Ways} {i : Nat} (B : BI n m g W i []) : BI n m g (grow n m W i) (i + 1) [] := by
  unfold grow
  cases hi : W[i]? with
  | none =>
    refine ⟨B.zero, B.word, B.nd, B.up, fun j x hj => ?_, fun k y d hk hh => ?_⟩
    · rcases B.src j x hj with q | ⟨k, y, c', h1, h2, h3, h4⟩
      · exact .inl q
      · refine .inr ⟨k, y, c', h1, h2, h3, .inl ?_⟩
        rcases h4 with h4 | ⟨_, h4⟩
        · omega
        · cases h4
    · rcases hh with ⟨l, hh⟩ | ⟨_, hh⟩
      · refine B.done k y d hk (.inl ⟨?_, hh⟩)
        rcases Nat.lt_or_ge k i with z | z
        · exact z
        · obtain rfl : k = i := by omega
          rw [hi] at hk
          cases hk
      · cases hh
  | some x =>
    obtain ⟨t, g'⟩ := x
    obtain ⟨n1, n2⟩ := nx_ok t
    obtain ⟨B1, i1⟩ := BI.all (nx t) B hi n1 (by rw [List.nil_append]; exact n2)
    rw [List.nil_append] at B1
    refine ⟨B1.zero, B1.word, B1.nd, B1.up, fun j x hj => ?_, fun k y d hk hh => ?_⟩
    · rcases B1.src j x hj with q | ⟨k, y, c', h1, h2, h3, h4⟩
      · exact .inl q
      · refine .inr ⟨k, y, c', h1, h2, h3, .inl ?_⟩
        rcases h4 with h4 | ⟨h4, _⟩
        · omega
        · omega
    · rcases hh with ⟨l, hh⟩ | ⟨_, hh⟩
      · refine B1.done k y d hk ?_
        rcases Nat.lt_or_ge k i with z | z
        · exact .inl ⟨z, hh⟩
        · obtain rfl : k = i := by omega
          have i1 : (List.foldl (addc n m t g') W (nx t))[k]? = some (t, g') := i1
          have hk : (List.foldl (addc n m t g') W (nx t))[k]? = some y := hk
          rw [i1] at hk
          cases hk
          exact .inr ⟨rfl, hh⟩
      · cases hh
theorem bq_ok (g : Grid) : ∀ i, BI n m g (bq n m g i) i []
  | 0 => by
    refine ⟨rfl, fun x hx => ?_, by simp [bq], by simp [bq], fun j x hj => ?_, fun k y d hk hh => ?_⟩
    · rw [List.mem_singleton.mp hx]
      exact ⟨fun c h => (by cases h), rfl⟩
    · cases j with
      | zero => exact .inl rfl
      | succ j => simp [bq] at hj
    · rcases hh with ⟨l, _⟩ | ⟨_, hh⟩
      · omega
      · cases hh
  | i + 1 => (bq_ok g i).next
theorem BI.len {g : Grid} {W : Ways} {i : Nat} {ds : List Nat} (B : BI n m g W i ds) : ∀ (j : Nat) x, W[j]? = some x → x.1.length ≤ j := fun j => by
  induction j using Nat.strongRecOn with
  | ind j ih =>
    intro x hx
    rcases B.src j x hx with rfl | ⟨k, y, c, h1, h2, h3, _⟩
    · rw [B.zero] at hx
      cases hx
      exact Nat.le_refl _
    · have b := h2.bd
      have less : val y.1 < val x.1 := by
        rw [h3, val_snoc]
        omega
      have lt : k < j := Nat.lt_of_not_le fun le => by
        rcases Nat.eq_or_lt_of_le le with e | l
        · subst e
          rw [hx] at h1
          cases h1
          omega
        · have := pw_lt B.up hx h1 l
          omega
      have := ih k lt y h1
      rw [h3]
      simp
      omega
theorem addc_pre (t : List Nat) (g : Grid) (c : Nat) (W : Ways) : W <+: addc n m t g W c := by
  unfold addc
  split
  · exact List.prefix_refl _
  · exact List.prefix_append ..
theorem fold_pre (t : List Nat) (g : Grid) : ∀ (cs : List Nat) (W : Ways), W <+: cs.foldl (addc n m t g) W
  | [], W => List.prefix_refl _
  | c :: cs, W => (addc_pre t g c W).trans (fold_pre t g cs _)
theorem bq_pre (g : Grid) (i : Nat) : bq n m g i <+: bq n m g (i + 1) := by
  show _ <+: grow n m (bq n m g i) i
  unfold grow
  split
  · exact fold_pre _ _ _ _
  · exact List.prefix_refl _
theorem bq_mono (g : Grid) (i : Nat) : ∀ d, bq n m g i <+: bq n m g (i + d)
  | 0 => List.prefix_refl _
  | d + 1 => (bq_mono g i d).trans (bq_pre g (i + d))
theorem bq_rest {g : Grid} {i : Nat} (h : (bq n m g i).length ≤ i) : ∀ d, bq n m g (i + d) = bq n m g i
  | 0 => rfl
  | d + 1 => by
    have e := bq_rest h d
    show grow n m (bq n m g (i + d)) (i + d) = _
    unfold grow
    rw [e, List.getElem?_eq_none (by omega)]
/-- all trays that can be reached, in the order of their shortest ways -/
@[irreducible] def ways (n m : Nat) (g : Grid) : Ways := bq n m g 4913
theorem ways_eq {n m : Nat} {g : Grid} : ways n m g = bq n m g 4913 := by unfold ways; rfl
/-- there are not too many -/
def Few (n m : Nat) (g : Grid) : Prop := ∃ l : List Grid, l.length ≤ 4913 ∧ ∀ t, (∀ c ∈ t, T4 c) → tilts n m t g ∈ l
theorem sub_len {α : Type} [DecidableEq α] : ∀ (l D : List α), l.Nodup → (∀ x ∈ l, x ∈ D) → l.length ≤ D.length
  | [], _, _, _ => Nat.zero_le _
  | x :: l, D, h, s => by
    obtain ⟨h1, h2⟩ := List.nodup_cons.mp h
    have hx := s x List.mem_cons_self
    have r := sub_len l (D.erase x) h2 fun y hy => (List.mem_erase_of_ne fun e => h1 (by rw [← e]; exact hy)).2 (s y (List.mem_cons_of_mem _ hy))
    have p := List.length_pos_of_mem hx
    rw [List.length_erase_of_mem hx] at r
    rw [List.length_cons]
    omega
theorem bq_few {g : Grid} (F : Few n m g) (i : Nat) : (bq n m g i).length ≤ 4913 := by
  obtain ⟨l, h1, h2⟩ := F
  have B := bq_ok (n := n) (m := m) g i
  have r := sub_len ((bq n m g i).map (·.2)) l B.nd fun x hx => by
    obtain ⟨y, hy, rfl⟩ := List.mem_map.mp hx
    obtain ⟨w1, w2⟩ := B.word y hy
    rw [w2]
    exact h2 _ w1
  rw [List.length_map] at r
  omega
/-- while i ways are done and more are known, more are to come -/
theorem bq_ways {g : Grid} (F : Few n m g) {i : Nat} (h : i ≤ (bq n m g i).length) : bq n m g i <+: ways n m g ∧ ((bq n m g i).length = i → ways n m g = bq n m g i) := by
  have l := bq_few F i
  have e : bq n m g 4913 = bq n m g (i + (4913 - i)) := by rw [show i + (4913 - i) = 4913 by omega]
  unfold ways
  rw [e]
  exact ⟨bq_mono g i _, fun z => bq_rest (by omega) _⟩
theorem ways_len {g : Grid} (F : Few n m g) : (ways n m g).length ≤ 4913 := by
  rw [ways_eq]
  exact bq_few F _
theorem ways_ok {g : Grid} : (ways n m g)[0]? = some ([], g) ∧ (∀ x ∈ ways n m g, (∀ c ∈ x.1, T4 c) ∧ x.2 = tilts n m x.1 g) ∧ ((ways n m g).map (·.2)).Nodup ∧ (ways n m g).Pairwise (fun x y => val x.1 < val y.1) :=
  by
  have B := bq_ok (n := n) (m := m) g 4913
  rw [ways_eq]
  exact ⟨B.zero, B.word, B.nd, B.up⟩
theorem T4.same {a c : Nat} (ha : T4 a) (hc : T4 c) (e : isH a = isH c) (ne : c ≠ a) : c = opq a := by
  rcases ha with rfl | rfl | rfl | rfl <;> rcases hc with rfl | rfl | rfl | rfl <;> first | rfl | (exact absurd rfl ne) | (exact absurd e (by decide))
/-- each reachable tray comes, by a way that is none behind any other -/
theorem ways_all {g : Grid} (R : Rect n m g) (F : Few n m g) : ∀ t, (∀ c ∈ t, T4 c) → ∃ x ∈ ways n m g, x.2 = tilts n m t g ∧ val x.1 ≤ val t := by
  have B := bq_ok (n := n) (m := m) g 4913
  have wl := ways_len F
  rw [ways_eq] at wl
  rw [ways_eq]
  have key : ∀ (v : Nat) (t : List Nat), val t = v → (∀ c ∈ t, T4 c) → ∃ x ∈ bq n m g 4913, x.2 = tilts n m t g ∧ val x.1 ≤ val t := fun v => by
    induction v using Nat.strongRecOn with
    | ind v ih =>
      intro t ev ht
      by_cases least : ∃ u, (∀ c ∈ u, T4 c) ∧ val u < val t ∧ tilts n m u g = tilts n m t g
      · obtain ⟨u, u1, u2, u3⟩ := least
        obtain ⟨x, h1, h2, h3⟩ := ih (val u) (by omega) u rfl u1
        exact ⟨x, h1, h2.trans u3, by omega⟩
      · have no : ∀ u, (∀ c ∈ u, T4 c) → u.length < t.length → tilts n m u g ≠ tilts n m t g := fun u h1 h2 h3 => least ⟨u, h1, val_shorter h1 ht h2, h3⟩
        rcases nil_snoc t with rfl | ⟨t', c, rfl⟩
        · exact ⟨([], g), List.mem_of_getElem? B.zero, rfl, Nat.le_refl _⟩
        have hc := ht c (by simp)
        have ht' : ∀ d ∈ t', T4 d := fun d h => ht d (List.mem_append_left _ h)
        have cb := hc.bd
        rw [val_snoc] at ev
        obtain ⟨x, h1, h2, h3⟩ := ih (val t') (by omega) t' rfl ht'
        have w1 := (B.word x h1).1
        have e0 : val x.1 = val t' := by
          rcases Nat.lt_or_ge (val x.1) (val t') with l | l
          · refine absurd ⟨x.1 ++ [c], fun d hd => ?_, by rw [val_snoc, val_snoc]; omega, ?_⟩ least
            · rcases List.mem_append.mp hd with q | q
              · exact w1 d q
              · rw [List.mem_singleton.mp q]
                exact hc
            · rw [tilts_snoc, tilts_snoc, ← (B.word x h1).2, h2]
          · omega
        have e1 : x.1 = t' := val_inj _ _ w1 ht' e0
        have hn : c ∈ nx t' := by
          rcases nil_snoc t' with rfl | ⟨r, b, rfl⟩
          · rcases hc with rfl | rfl | rfl | rfl <;> simp [nx]
          · have hb := ht' b (by simp)
            have tw : isH b ≠ isH c := fun e => by
              refine no (r ++ [c]) (fun d hd => ?_) (by simp) ?_
              · rcases List.mem_append.mp hd with q | q
                · exact ht' d (List.mem_append_left _ q)
                · rw [List.mem_singleton.mp q]
                  exact hc
              · rw [tilts_snoc, tilts_snoc, tilts_snoc, tilt_two (tilts_rect r R) e]
            rcases nil_snoc r with rfl | ⟨q, a, rfl⟩
            · show c ∈ (if isH b then [100, 117] else [108, 114])
              rcases hb with rfl | rfl | rfl | rfl <;> rcases hc with rfl | rfl | rfl | rfl <;> first | decide | (exact absurd rfl tw)
            · have ha := ht' a (by simp)
              have hq : ∀ d ∈ q, T4 d := fun d h => ht' d (by simp [h])
              have Rq := tilts_rect q R
              have ab : isH a ≠ isH b := fun e => by
                refine no (q ++ [b] ++ [c]) (fun d hd => ?_) (by simp) ?_
                · rcases List.mem_append.mp hd with z | z
                  · rcases List.mem_append.mp z with z | z
                    · exact hq d z
                    · rw [List.mem_singleton.mp z]
                      exact hb
                  · rw [List.mem_singleton.mp z]
                    exact hc
                · rw [tilts_snoc, tilts_snoc, tilts_snoc, tilts_snoc, tilts_snoc, tilt_two Rq e]
              have ac : isH a = isH c := by
                cases h1 : isH a <;> cases h2 : isH b <;> cases h3 : isH c <;> simp_all
              have ne : c ≠ a := fun e => by
                subst e
                refine no (q ++ [c] ++ [b]) (fun d hd => ?_) (by simp) ?_
                · rcases List.mem_append.mp hd with z | z
                  · rcases List.mem_append.mp z with z | z
                    · exact hq d z
                    · rw [List.mem_singleton.mp z]
                      exact hc
                  · rw [List.mem_singleton.mp z]
                    exact hb
                · rw [tilts_snoc, tilts_snoc, tilts_snoc, tilts_snoc, tilts_snoc]
                  exact (tilt_again Rq (fun z => ab z.symm)).symm
              have e2 : nx (q ++ [a] ++ [b]) = [opq a] := by
                cases q with
                | nil => rfl
                | cons y q =>
                  cases q with
                  | nil => rfl
                  | cons z q =>
                    show [opq ((y :: z :: (q ++ [a] ++ [b])).getD (q ++ [a] ++ [b]).length 0)] = _
                    have : (y :: z :: (q ++ [a] ++ [b])).getD (q ++ [a] ++ [b]).length 0 = a := by
                      have e3 : (q ++ [a] ++ [b]).length = q.length + 1 + 1 := by simp
                      rw [e3]
                      show (q ++ [a] ++ [b]).getD q.length 0 = a
                      simp
                    rw [this]
              rw [e2, ha.same hc ac ne]
              exact List.mem_singleton.mpr rfl
        obtain ⟨k, hk⟩ := List.getElem?_of_mem h1
        have lk : k < 4913 := by
          have := (List.getElem?_eq_some_iff.mp hk).1
          have := wl
          omega
        obtain ⟨y, y1, y2, y3⟩ := B.done k x c hk (.inl ⟨lk, by rw [e1]; exact hn⟩)
        refine ⟨y, y1, ?_, by rw [e1] at y3; exact y3⟩
        rw [y2, h2, tilts_snoc]
  exact fun t ht => key _ t rfl ht
end
end TM
end
section
set_option maxHeartbeats 4000000
set_option maxRecDepth 100000
set_option linter.all false
namespace TR
open PySem L2 TM TK TB TU TW
theorem T4_t {c : Nat} : T4 c ↔ isT c = true := by
  unfold T4 isT
  simp only [decide_eq_true_eq, List.mem_cons, List.not_mem_nil, or_false]
  omega
theorem three : ∀ x : Nat, 1 ≤ x → x * x * x ≤ 3 ^ x
  | 0, h => absurd h (by decide)
  | 1, _ => by decide
  | 2, _ => by decide
  | 3, _ => by decide
  | x + 4, _ => by
    have ih := three (x + 3) (by omega)
    rw [show x + 4 = (x + 3) + 1 by omega, Nat.pow_succ 3]
    have hy : 3 ≤ x + 3 := by omega
    generalize x + 3 = y at ih hy ⊢
    have h1 : 3 * y ≤ y * y := Nat.mul_le_mul_right y hy
    have h2 : 3 * (y * y) ≤ y * (y * y) := Nat.mul_le_mul_right _ hy
    have e : (y + 1) * (y + 1) * (y + 1) = y * (y * y) + 3 * (y * y) + 3 * y + 1 := by
      simp only [Nat.mul_add, Nat.add_mul, Nat.mul_assoc, Nat.one_mul, Nat.mul_one]
      omega
    have e2 : y * y * y = y * (y * y) := Nat.mul_assoc ..
    rw [e2] at ih
    omega
theorem three5 : ∀ x : Nat, 5 ≤ x → x * x * x * 243 ≤ 125 * 3 ^ x := fun x hx => by
  obtain ⟨d, rfl⟩ : ∃ d, x = d + 5 := ⟨x - 5, by omega⟩
  clear hx
  induction d with
  | zero => decide
  | succ d ih =>
    rw [show d + 1 + 5 = (d + 5) + 1 by omega, Nat.pow_succ 3]
    have hy : 3 ≤ d + 5 := by omega
    generalize d + 5 = y at ih hy ⊢
    have h1 : 3 * y ≤ y * y := Nat.mul_le_mul_right y hy
    have h2 : 3 * (y * y) ≤ y * (y * y) := Nat.mul_le_mul_right _ hy
    have e : (y + 1) * (y + 1) * (y + 1) = y * (y * y) + 3 * (y * y) + 3 * y + 1 := by
      simp only [Nat.mul_add, Nat.add_mul, Nat.mul_assoc, Nat.one_mul, Nat.mul_one]
      omega
    have e2 : y * y * y = y * (y * y) := Nat.mul_assoc ..
    rw [e2] at ih
    rw [e]
    omega
theorem cube_mul (a b : Nat) : a * b * (a * b) * (a * b) = a * a * a * (b * b * b) := by
  simp only [Nat.mul_assoc, Nat.mul_left_comm, Nat.mul_comm]
theorem lcm_mul {a b : Nat} (ha : 1 ≤ a) (hb : 1 ≤ b) : 1 ≤ Nat.lcm a b ∧ Nat.lcm a b ≤ a * b := by
  have p : 0 < a * b := Nat.mul_pos ha hb
  exact ⟨Nat.lcm_pos ha hb, Nat.le_of_dvd p (Nat.lcm_dvd_mul a b)⟩
theorem cube_le {x y : Nat} (h : x ≤ y) : x * x * x ≤ y * y * y := Nat.mul_le_mul (Nat.mul_le_mul h h) h
theorem fold_three : ∀ (cs : List (List Nat)) (a s : Nat), (∀ o ∈ cs, 1 ≤ o.length) → 1 ≤ a → a * a * a ≤ 3 ^ s →
    let b := cs.foldl (fun a o => Nat.lcm a o.length) a
    1 ≤ b ∧ b * b * b ≤ 3 ^ (s + (cs.map List.length).sum)
  | [], a, s, _, h1, h => ⟨h1, h⟩
  | o :: cs, a, s, ho, h1, h => by
    have o1 := ho o List.mem_cons_self
    obtain ⟨l1, l2⟩ := lcm_mul h1 o1
    have r := fold_three cs (Nat.lcm a o.length) (s + o.length) (fun p hp => ho p (List.mem_cons_of_mem _ hp)) l1 (by
      refine Nat.le_trans (cube_le l2) ?_
      rw [cube_mul, Nat.pow_add]
      exact Nat.mul_le_mul h (three _ o1))
    rw [Nat.add_assoc] at r
    exact r
theorem fold_three5 : ∀ (cs : List (List Nat)) (a s : Nat), (∀ o ∈ cs, 1 ≤ o.length) → 1 ≤ a → a * a * a * 243 ≤ 125 * 3 ^ s →
    let b := cs.foldl (fun a o => Nat.lcm a o.length) a
    b * b * b * 243 ≤ 125 * 3 ^ (s + (cs.map List.length).sum)
  | [], a, s, _, h1, h => h
  | o :: cs, a, s, ho, h1, h => by
    have o1 := ho o List.mem_cons_self
    obtain ⟨l1, l2⟩ := lcm_mul h1 o1
    have r := fold_three5 cs (Nat.lcm a o.length) (s + o.length) (fun p hp => ho p (List.mem_cons_of_mem _ hp)) l1 (by
      refine Nat.le_trans (Nat.mul_le_mul_right _ (cube_le l2)) ?_
      rw [cube_mul, Nat.pow_add, Nat.mul_right_comm, ← Nat.mul_assoc 125]
      exact Nat.mul_le_mul h (three _ o1))
    rw [Nat.add_assoc] at r
    exact r
theorem back_bd {cs : List (List Nat)} (h1 : ∀ o ∈ cs, 1 ≤ o.length) (h14 : (cs.map List.length).sum ≤ 14) : backN cs ≤ 135 := by
  by_cases all : ∀ o ∈ cs, o.length ≤ 4
  · have d : backN cs ∣ 12 := backN_dvd fun o ho => by
      have a := h1 o ho
      have b := all o ho
      have c : o.length = 1 ∨ o.length = 2 ∨ o.length = 3 ∨ o.length = 4 := by omega
      rcases c with c | c | c | c <;> rw [c] <;> decide
    exact Nat.le_trans (Nat.le_of_dvd (by decide) d) (by decide)
  · obtain ⟨o, ho⟩ := Classical.not_forall.mp all
    obtain ⟨ho, big⟩ := Classical.not_imp.mp ho
    obtain ⟨p, q, rfl⟩ := List.append_of_mem ho
    obtain ⟨a1, a2⟩ := fold_three p 1 0 (fun x hx => h1 x (by simp [hx])) (Nat.le_refl 1) (by decide)
    have o1 := h1 o ho
    obtain ⟨l1, l2⟩ := lcm_mul a1 o1
    have r := fold_three5 q (Nat.lcm (p.foldl (fun a o => Nat.lcm a o.length) 1) o.length) (0 + (p.map List.length).sum + o.length) (fun x hx => h1 x (by simp [hx])) l1 (by
      refine Nat.le_trans (Nat.mul_le_mul_right _ (cube_le l2)) ?_
      rw [cube_mul, Nat.pow_add, Nat.mul_assoc, Nat.mul_left_comm 125]
      exact Nat.mul_le_mul a2 (three5 _ (by omega)))
    have e : backN (p ++ o :: q) = q.foldl (fun a o => Nat.lcm a o.length) (Nat.lcm (p.foldl (fun a o => Nat.lcm a o.length) 1) o.length) := by
      unfold backN
      rw [List.foldl_append]
      rfl
    rw [e]
    dsimp only at r
    generalize q.foldl (fun a o => Nat.lcm a o.length) (Nat.lcm (p.foldl (fun a o => Nat.lcm a o.length) 1) o.length) = b at r ⊢
    have le : 0 + (p.map List.length).sum + o.length + (q.map List.length).sum ≤ 14 := by
      rw [List.map_append, List.sum_append, List.map_cons, List.sum_cons] at h14
      omega
    have pw := Nat.pow_le_pow_right (show 0 < 3 by decide) le
    have e14 : 3 ^ 14 = 4782969 := by decide
    rcases Nat.lt_or_ge 135 b with z | z
    · have := cube_le (show 136 ≤ b by omega)
      omega
    · exact z
def quad (a b : Nat) : List Nat := [a, b, opq a, opq b]
theorem opq_opq {a : Nat} (h : T4 a) : opq (opq a) = a := by
  rcases h with rfl | rfl | rfl | rfl <;> rfl
theorem go_round : ∀ (n : Nat) (s : List Nat), s.length ≤ n → (∀ c ∈ s, T4 c) → Alt s → NoRep s → ∀ a b r, s = a :: b :: r → ∃ q k, s = (List.replicate q (quad a b)).flatten ++ (quad a b).take k ∧ k < 4
  | 0, s, l, _, _, _, a, b, r, e => by
    rw [e] at l
    simp at l
  | n + 1, s, l, h4, hA, hN, a, b, r, e => by
    subst e
    have ha := h4 a (by simp)
    have hb := h4 b (by simp)
    cases r with
    | nil => exact ⟨0, 2, rfl, by decide⟩
    | cons c r =>
      have hc := h4 c (by simp)
      have ec : c = opq a := ha.same hc (by
        have h1 := hA.1
        have h2 := hA.2.1
        cases h3 : isH a <;> cases h5 : isH b <;> cases h6 : isH c <;> simp_all) fun z => hN.1 z.symm
      cases r with
      | nil => exact ⟨0, 3, by rw [ec]; rfl, by decide⟩
      | cons d r =>
        have hd := h4 d (by simp)
        have ed : d = opq b := hb.same hd (by
          have h1 := hA.2.1
          have h2 := hA.2.2.1
          cases h3 : isH b <;> cases h5 : isH c <;> cases h6 : isH d <;> simp_all) fun z => hN.2.1 z.symm
        have e4 : a :: b :: c :: d :: r = quad a b ++ r := by
          rw [ec, ed]
          rfl
        cases r with
        | nil => exact ⟨1, 0, by rw [e4]; simp, by decide⟩
        | cons x r =>
          have hx := h4 x (by simp)
          have ex : x = a := by
            have z : x = opq c := hc.same hx (by
              have h1 := hA.2.2.1
              have h2 := hA.2.2.2.1
              cases h3 : isH c <;> cases h5 : isH d <;> cases h6 : isH x <;> simp_all) fun z => hN.2.2.1 z.symm
            rw [z, ec, opq_opq ha]
          cases r with
          | nil => exact ⟨1, 1, by rw [e4, ex]; simp [quad], by decide⟩
          | cons y r =>
            have hy := h4 y (by simp)
            have ey : y = b := by
              have z : y = opq d := hd.same hy (by
                have h1 := hA.2.2.2.1
                have h2 := hA.2.2.2.2.1
                cases h3 : isH d <;> cases h5 : isH x <;> cases h6 : isH y <;> simp_all) fun z => hN.2.2.2.1 z.symm
              rw [z, ed, opq_opq hb]
            obtain ⟨q, k, e2, hk⟩ := go_round n (x :: y :: r) (by simp at l ⊢; omega) (fun z hz => h4 z (by
              rcases List.mem_cons.mp hz with q | q
              · subst q
                simp
              · exact List.mem_cons_of_mem _ (List.mem_cons_of_mem _ (List.mem_cons_of_mem _ (List.mem_cons_of_mem _ (List.mem_cons_of_mem _ q)))))) hA.tail.tail.tail.tail hN.tail.tail.tail.tail x y r rfl
            refine ⟨q + 1, k, ?_, hk⟩
            rw [e4, e2, ex, ey, List.replicate_succ, List.flatten_cons, List.append_assoc]
theorem tilts_cat {n m : Nat} (t u : List Nat) (g : Grid) : tilts n m (t ++ u) g = tilts n m u (tilts n m t g) := by
  unfold tilts
  rw [List.foldl_append]
theorem tilts_reps {n m : Nat} (t : List Nat) (g : Grid) : ∀ q, tilts n m (List.replicate q t).flatten g = rounds n m t q g
  | 0 => rfl
  | q + 1 => by
    rw [List.replicate_succ', List.flatten_append, tilts_cat, tilts_reps t g q]
    simp [rounds]
theorem rounds_back {h w : Nat} {t : List Nat} {g : Grid} (hV : VG h w g) : ∀ q, ∃ j, j ≤ backN (cirs h w t g) ∧ rounds h w t q g = rounds h w t j g := fun q => by
  induction q using Nat.strongRecOn with
  | ind q ih =>
    rcases Nat.lt_or_ge (backN (cirs h w t g)) q with l | l
    · have e := back_after_same (t := t) hV (q - 1 - backN (cirs h w t g))
      rw [show q - 1 - backN (cirs h w t g) + 1 + backN (cirs h w t g) = q by omega] at e
      have one : 1 ≤ backN (cirs h w t g) := by
        unfold backN
        have key : ∀ (cs : List (List Nat)) (a : Nat), (∀ o ∈ cs, 1 ≤ o.length) → 1 ≤ a → 1 ≤ cs.foldl (fun a o => Nat.lcm a o.length) a := fun cs => by
          induction cs with
          | nil => exact fun a _ h => h
          | cons o cs ih => exact fun a h1 h2 => ih _ (fun x hx => h1 x (List.mem_cons_of_mem _ hx)) (lcm_mul h2 (h1 o List.mem_cons_self)).1
        exact key _ 1 (cir_one _ _) (Nat.le_refl 1)
      obtain ⟨j, j1, j2⟩ := ih (q - 1 - backN (cirs h w t g) + 1) (by omega)
      exact ⟨j, j1, e.trans j2⟩
    · exact ⟨q, l, rfl⟩
theorem flat_len {α β : Type} {f : α → List β} {k : Nat} (h : ∀ x, (f x).length = k) : ∀ l : List α, (l.flatMap f).length = l.length * k
  | [] => by simp
  | x :: l => by
    rw [List.flatMap_cons, List.length_append, h, flat_len h l, List.length_cons, Nat.add_mul]
    omega
def pairs : List (Nat × Nat) := [(100, 108), (100, 114), (117, 108), (117, 114), (108, 100), (108, 117), (114, 100), (114, 117)]
theorem few_of {h w : Nat} {g : Grid} (hV : VG h w g) (h14 : (mb g.flatten).length ≤ 14) : Few h w g := by
  refine ⟨[g] ++ [100, 108, 114, 117].map (tilt h w g) ++ pairs.flatMap fun p => (List.range 136).flatMap fun j => (List.range 4).map fun k => tilts h w ((quad p.1 p.2).take k) (rounds h w (quad p.1 p.2) j g), ?_, fun t ht => ?_⟩
  · rw [List.length_append, flat_len (k := 136 * 4) (fun p => by rw [flat_len (k := 4) (fun j => by simp)]; simp), List.length_append, List.length_map]
    exact (by decide : 1 + 4 + 8 * (136 * 4) ≤ 4913)
  · rw [← short_same hV.rc t]
    have s4 : ∀ c ∈ wn t, T4 c := fun c hc => ht c (wn_mem hc)
    have sA := wn_alt t
    have sN := wn_norep t
    generalize wn t = s at s4 sA sN
    cases s with
    | nil => exact List.mem_append_left _ (List.mem_append_left _ List.mem_cons_self)
    | cons a s =>
      have ha := s4 a List.mem_cons_self
      cases s with
      | nil =>
        refine List.mem_append_left _ (List.mem_append_right _ (List.mem_map.mpr ⟨a, ?_, rfl⟩))
        rcases ha with rfl | rfl | rfl | rfl <;> simp
      | cons b s =>
        have hb := s4 b (by simp)
        obtain ⟨q, k, e, hk⟩ := go_round _ _ (Nat.le_refl _) s4 sA sN a b s rfl
        rw [e, tilts_cat, tilts_reps]
        obtain ⟨j, j1, j2⟩ := rounds_back (t := quad a b) hV q
        have bd : backN (cirs h w (quad a b) g) ≤ 135 := back_bd (cir_one _ _) (by
          have p := (cir_facts (t := quad a b) hV).2.2.length_eq
          rw [List.length_flatten] at p
          omega)
        rw [j2]
        refine List.mem_append_right _ (List.mem_flatMap.mpr ⟨(a, b), ?_, List.mem_flatMap.mpr ⟨j, List.mem_range.mpr (by omega), List.mem_map.mpr ⟨k, List.mem_range.mpr hk, rfl⟩⟩⟩)
        have ab := sA.1
        rcases ha with rfl | rfl | rfl | rfl <;> rcases hb with rfl | rfl | rfl | rfl <;> first | decide | exact absurd rfl ab
end TR
end
section
set_option Elab.async false
set_option maxRecDepth 100000
set_option linter.all false
namespace TR
open PySem PySem.Spec PyProof.Rows L2 TM TK TB TP TH TU TG GenW
theorem nxt_nx : ∀ t, nxt t = nx t
  | [] => rfl
  | [_] => rfl
  | _ :: _ :: _ => rfl
/-- a tray as a set's key -/
def keyG (g : Grid) : List Key := g.map fun r => Sum.inr (S r)
theorem keyG_V (g : Grid) : (keyG g).map kV = rowV g := by
  unfold keyG rowV
  rw [List.map_map]
  rfl
theorem keyG_inj {a b : Grid} (h : keyG a = keyG b) : a = b := by
  unfold keyG at h
  refine (List.map_inj_right fun x y e => ?_).mp h
  exact S_inj (Sum.inr.inj e)
/-- what may change is kept at O, what never changes everywhere -/
def Kp (O : Addr → Prop) (H H' : Hp) : Prop := ∀ b o, (mutO o = false ∨ O b) → H b = some o → H' b = some o
theorem Kp.same {O : Addr → Prop} {H H' : Hp} (s : Same H H') : Kp O H H' := fun b o _ e => s b o e
theorem Kp.trans {O : Addr → Prop} {H1 H2 H3 : Hp} (a : Kp O H1 H2) (b : Kp O H2 H3) : Kp O H1 H3 := fun c o q e => b c o q (a c o q e)
theorem Kp.put {O : Addr → Prop} {H : Hp} {a : Addr} {o o' : HO} (e : H a = some o) (m : mutO o = true) (n : ¬ O a) : Kp O H (upd H a o') := fun b u q eu => by
  have ne : b ≠ a := fun z => by
    subst z
    rw [e] at eu
    cases eu
    rcases q with q | q
    · rw [m] at q
      cases q
    · exact n q
  rw [upd_ne ne]
  exact eu
theorem Kp.km {O M : Addr → Prop} {H H' : Hp} (hM : MOk H M) (k : KM M H H') (d : ∀ b, O b → ¬ M b) : Kp O H H' := fun b o q e => by
  refine k.k b o (fun z => ?_) e
  obtain ⟨o', e1, m1⟩ := hM b z
  rw [e1] at e
  cases e
  rcases q with q | q
  · rw [m1] at q
    cases q
  · exact d b q z
theorem Kp.sqt {K : PySem.W.Frag} {O : Addr → Prop} {H H' : Hp} {a : Addr} {xs : List V} (k : Kp O H H') (h : SqT K H a xs) : SqT K H' a xs :=
  h.imp (fun z => z.imp (fun z => k _ _ (.inl rfl) z) fun ⟨o, z⟩ => ⟨o, k _ _ (.inl rfl) z⟩) fun z => z
theorem Kp.tray {K : PySem.W.Frag} {D p : Addr} {O : Addr → Prop} {H H' : Hp} {g : Grid} (k : Kp O H H') (h : TrayAt K D H p g) : TrayAt K D H' p g := tray_imp h fun b o m e => k b o (.inl m) e
/-- a way and its tray -/
def WayAt (K : PySem.W.Frag) (D : Addr) (H : Hp) (x : V) (y : List Nat × Grid) : Prop := ∃ tp r, x = V.ref tp ∧ SqT K H tp [.str (S y.1), .ref r] ∧ TrayAt K D H r y.2
def LstW (K : PySem.W.Frag) (D : Addr) (H : Hp) (a : Addr) (ys : Ways) : Prop := ∃ xs, H a = some (.lst xs) ∧ xs.length = ys.length ∧ ∀ (k : Nat) x y, xs[k]? = some x → ys[k]? = some y → WayAt K D H x y
def SeenW (K : PySem.W.Frag) (P : Program) (w : World) (H : Hp) (a : Addr) (W : Ways) : Prop := ∃ L, H a = some (SetO P w a L) ∧ KeysAt K H L ∧ (L.map (·.2)).Perm (W.map fun y => keyG y.2)
theorem WayAt.kp {K : PySem.W.Frag} {D : Addr} {O : Addr → Prop} {H H' : Hp} {x : V} {y : List Nat × Grid} (h : WayAt K D H x y) (k : Kp O H H') : WayAt K D H' x y := by
  obtain ⟨tp, r, e, h1, h2⟩ := h
  exact ⟨tp, r, e, k.sqt h1, k.tray h2⟩
theorem LstW.kp {K : PySem.W.Frag} {D a : Addr} {O : Addr → Prop} {H H' : Hp} {ys : Ways} (h : LstW K D H a ys) (k : Kp O H H') (o : O a) : LstW K D H' a ys := by
  obtain ⟨xs, e, l, all⟩ := h
  exact ⟨xs, k _ _ (.inr o) e, l, fun i x y h1 h2 => (all i x y h1 h2).kp k⟩
theorem SeenW.kp {K : PySem.W.Frag} {P : Program} {w : World} {a : Addr} {O : Addr → Prop} {H H' : Hp} {W : Ways} (h : SeenW K P w H a W) (k : Kp O H H') (o : O a) : SeenW K P w H' a W := by
  obtain ⟨L, e, h1, h2⟩ := h
  exact ⟨L, k _ _ (.inr o) e, fun p hp => k.sqt (h1 p hp), h2⟩
theorem LstW.put {K : PySem.W.Frag} {D a : Addr} {O : Addr → Prop} {H H' : Hp} {xs : List V} {ys : Ways} {x : V} {y : List Nat × Grid} (e : xs.length = ys.length) (all : ∀ (k : Nat) x y, xs[k]? = some x → ys[k]? = some y → WayAt K D H x y) (k : Kp O H H') (hx : WayAt K D H' x y)
    (ha : H' a = some (.lst (xs ++ [x]))) : LstW K D H' a (ys ++ [y]) := by
  refine ⟨_, ha, by simp [e], fun i x' y' h1 h2 => ?_⟩
  rcases Nat.lt_or_ge i xs.length with l | l
  · rw [List.getElem?_append_left l] at h1
    rw [List.getElem?_append_left (by omega)] at h2
    exact (all i x' y' h1 h2).kp k
  · rw [List.getElem?_append_right l] at h1
    rw [List.getElem?_append_right (by omega), ← e] at h2
    cases z : i - xs.length with
    | zero =>
      rw [z] at h1 h2
      cases h1
      cases h2
      exact hx
    | succ n =>
      rw [z] at h1
      simp at h1
section
variable {X : Cx} {K : PySem.W.Frag}
theorem pi_listC {tg l : Expr} {tl : TE} (h : X.K = K) (hl : PE X l tl) : PI X tg l (iList K tl) := by
  subst h
  exact pi_list hl
theorem pg_tupC {es : List Expr} {k : Nat} {t : L2.TGs} {n : Nat} {pos : Pos} (h : X.K = K) (hc : X.calm = true) (ht : PGs X es t) (hn : (assignEach es X.env).length = n := by rfl) (hst : (assignEach es X.env).findIdx? (·.1) = none := by rfl) : PG X (.Tuple es k pos) (gTup K n t) := by
  subst h
  exact pg_tup hc ht hn hst
def tTru (K : PySem.W.Frag) (ta : TE) : TT := fun σ H Q => ta σ H fun x H' => ∃ k, TruV K x H' k ∧ Q k H'
theorem pt_truthC {a : Expr} {ta : TE} (h : X.K = K) (ha : PE X a ta) (he : ∀ whole, isTrue a X.env whole = (do let v ← whole; standAt a.pos; holding [v] (truthy v)) := by intro _; rfl) : PT X a (tTru K ta) := by
  subst h
  exact pt_truth ha he
theorem or_notInC {P : Program} {w : World} (h : X.K = K) (h2 : X.prog = P) (h3 : X.w = w) (hu : X.A.units + 64 < cLine) : OpR X (compareOp .NotIn) (rNotInQ K P w) := by
  subst h h2 h3
  exact or_notInQ hu
theorem cr_set0C {P : Program} {w : World} (h2 : X.prog = P) (h3 : X.w = w) : CallR X (.type "set") (rSet0Q P w) := by
  subst h2 h3
  exact cr_set0Q
theorem pe_addC {P : Program} {w : World} {o e : Expr} {es : List Expr} {to : TE} {t : TA} {apos cpos : Pos} (h : X.K = K) (h2 : X.prog = P) (h3 : X.w = w) (hu : X.A.units + 64 < cLine) (ho : PE X o to) (ha : PA X (e :: es) t)
    (q1 : attributeBase o "add" X.env (eval o X.env) = eval o X.env := by rfl)
    (q2 : ((backTo cpos (starEach (e :: es) X.env)).all (fun x => !x.1) && (backToKw cpos (keywordEach [] X.env)).all (fun x => x.1.isSome) && decide ((e :: es).length + ([] : List Keyword).length + (if ([] : List Keyword).isEmpty then 0 else 1) < 30)) = true := by rfl)
    (q3 : (apos.endLine == cpos.line) = true := by rfl) (q4 : starEach (e :: es) X.env = (false, eval e X.env) :: starEach es X.env := by rfl) (q5 : (backTo cpos (starEach es X.env)).any (·.1) = false := by rfl) :
    PE X (.Call (.Attribute o "add" apos) (e :: es) [] cpos) (tAddQ K P w to t) := by
  subst h h2 h3
  exact pe_addQ hu ho ha q1 q2 q3 q4 q5
end
/-- for over a list in a generator -/
theorem gfor_list {K : PySem.W.Frag} {a : Addr} {xs : List V} {g : L2.TG} {tb : TG.TGs} {D : GE} {i0 : Nat} {H0 : Hp} {σ : L2.St} {H : Hp} (Pv : Nat → Nat → Hp → L2.St → Hp → Prop) (h0 : Pv 0 i0 H0 σ H) (hl : ∀ j i H0 σ H, Pv j i H0 σ H → SqL K H a xs)
    (hs : ∀ j i H0 σ H x, xs[j]? = some x → Pv j i H0 σ H → g x σ H fun σ2 H2 => tb { D with nx := Pv (j + 1), ct := Pv (j + 1), bk := D.nx } i H0 σ2 H2) (hd : ∀ i H0 σ H, Pv xs.length i H0 σ H → D.nx i H0 σ H) :
    ∃ W : Nat → Nat → Nat → Hp → L2.St → Hp → Prop, (∃ m, W 0 m i0 H0 σ H) ∧ ∀ j m i H0 σ H, W j m i H0 σ H →
      ((Itl K a).stop j H ∧ D.nx i H0 σ H) ∨ ((Itl K a).go j H ∧ ∃ Nw : Nat → Hp → L2.St → Hp → Prop, (∀ i' H0' σ' H', Nw i' H0' σ' H' → ∃ m', m' < m ∧ W (j + 1) m' i' H0' σ' H') ∧ ∀ x H', (Itl K a).yld j H x H' → g x σ H' fun σ2 H2 => tb { D with nx := Nw, ct := Nw, bk := D.nx } i H0 σ2 H2) := by
  refine ⟨fun j m i H0 σ H => m = xs.length - j ∧ j ≤ xs.length ∧ Pv j i H0 σ H, ⟨xs.length, by omega, Nat.zero_le _, h0⟩, ?_⟩
  rintro j m i H0 σ H ⟨rfl, hj, p⟩
  have q := hl j i H0 σ H p
  by_cases lt : j < xs.length
  · refine .inr ⟨⟨xs, _, q, List.getElem?_eq_getElem lt⟩, Pv (j + 1), fun i' H0' σ' H' p' => ⟨xs.length - (j + 1), by omega, rfl, lt, p'⟩, fun x H' y => ?_⟩
    obtain ⟨rfl, y⟩ := y
    exact hs j i H0 σ _ x (y xs q) p
  · obtain rfl : j = xs.length := by omega
    exact .inl ⟨⟨xs, q, by omega⟩, hd i H0 σ H p⟩
/-- what stands between a generator's statements: start H, stretch H0, now H1 -/
structure Bs (K : PySem.W.Frag) (P : Program) (w : World) (H : Hp) (M : Addr → Prop) (H0 H1 : Hp) (sA : Addr) (W : Ways) : Prop where
  mok : MOk H1 M
  ex : ∀ b, H b ≠ none → H1 b ≠ none
  kept : Kept (S0of H) H0 H1
  seen : SeenW K P w H1 sA W
/-- a thing of the generator's own -/
def Own1 (H : Hp) (M : Addr → Prop) (b : Addr) : Prop := H b = none ∧ ¬ M b
section
variable {K : PySem.W.Frag} {P : Program} {w : World} {H H0 H1 H2 : Hp} {M : Addr → Prop} {sA b : Addr} {W : Ways}
theorem Bs.fresh (B : Bs K P w H M H0 H1 sA W) (e : H1 b = none) : Own1 H M b :=
  ⟨Classical.byContradiction fun z => B.ex b z e, fun z => by
    obtain ⟨o, e1, _⟩ := B.mok b z
    rw [e] at e1
    cases e1⟩
theorem Bs.same (B : Bs K P w H M H0 H1 sA W) (s : Same H1 H2) : Bs K P w H M H0 H2 sA W :=
  ⟨mok_same B.mok s, (fun b z e => by
    cases q : H1 b with
    | none => exact B.ex b z q
    | some o =>
      rw [s b o q] at e
      cases e), B.kept.trans (Kept.of_same s), B.seen.kp (O := fun _ => True) (Kp.same s) trivial⟩
theorem kept_put {o o' : HO} (e : H1 b = some o) (m : mutO o = true) (n : Own1 H M b) : Kept (S0of H) H1 (upd H1 b o') := fun c u q eu => by
  have ne : c ≠ b := fun z => by
    subst z
    rcases q with q | q
    · exact q n.1
    · rw [e] at eu
      cases eu
      rw [m] at q
      cases q
  rw [upd_ne ne]
  exact eu
theorem mok_put {o' : HO} (h : MOk H1 M) (n : ¬ M b) : MOk (upd H1 b o') M := fun c z => by
  have ne : c ≠ b := fun q => n (by rw [← q]; exact z)
  rw [upd_ne ne]
  exact h c z
theorem Bs.put (B : Bs K P w H M H0 H1 sA W) {o o' : HO} (e : H1 b = some o) (m : mutO o = true) (n : Own1 H M b) (ne : sA ≠ b) : Bs K P w H M H0 (upd H1 b o') sA W :=
  ⟨mok_put B.mok n.2, (fun c z => by
    by_cases q : c = b
    · rw [q, upd_same]
      exact fun z => by cases z
    · rw [upd_ne q]
      exact B.ex c z), B.kept.trans (kept_put e m n), B.seen.kp (O := fun c => c ≠ b) (Kp.put e m fun z => z rfl) ne⟩
theorem Bs.km (B : Bs K P w H M H0 H1 sA W) (k : KM M H1 H2) (n : ¬ M sA) : Bs K P w H M H2 H2 sA W :=
  ⟨mok_km B.mok k, (fun b z e => by
    cases q : H1 b with
    | none => exact B.ex b z q
    | some o =>
      by_cases hm : M b
      · obtain ⟨o1, e1, m1⟩ := B.mok b hm
        obtain ⟨o2, e2, _⟩ := k.m b o1 hm e1 m1
        rw [e] at e2
        cases e2
      · rw [k.k b o hm q] at e
        cases e), Kept.of_same fun _ _ e => e, B.seen.kp (O := fun c => ¬ M c) (Kp.km B.mok k fun _ z => z) n⟩
end
def ways0 (g : Grid) : Ways := [([], g)]
abbrev NSw : List Str := ["tray", "seen", "ways", "longer_ways", "tilts", "reached", "tilt", "after"]
theorem scSw : GScope NSw ["tray"] (defScope sShortestWays) := ⟨rfl, rfl, rfl, by decide +kernel, rfl, by decide +kernel, by decide +kernel⟩
section
variable {P : Program} {w_ : World} {K : PySem.W.Frag} {mg : Str → Option Value} {base : Heap} {n : Nat} {C D fRs fNx pR gR fWi : Addr} {fdNx fdR fdWi : FuncData}
def spSw (K : PySem.W.Frag) (D : Addr) : SpGn := fun vs H N Yx => ∃ (p : Addr) (h w : Nat) (g : Grid), vs = [.ref p] ∧ TrayAt K D H p g ∧ VG h w g ∧ Few h w g ∧ N = (ways h w g).length ∧
  Yx = fun i x H' => ∃ y, (ways h w g)[i]? = some y ∧ WayAt K D H' x y
theorem ok_sw {f : Addr} {oc kw doc pm cdv ct : Value} {od an : Option Addr} {osl : Array (Option Value)} (lk : K.lookup f = some ⟨oc, od, .func (PySem.W.fnOf "_shortest_ways" "_shortest_ways" (defArgs sShortestWays) (defBody sShortestWays) (defScope sShortestWays) .none kw doc pm an cdv ct), osl⟩) (hcd : PySem.W.codeIn K cdv "_shortest_ways" = true)
    (b : Binds K (PySem.W.fnOf "_shortest_ways" "_shortest_ways" (defArgs sShortestWays) (defBody sShortestWays) (defScope sShortestWays) .none kw doc pm an cdv ct) ["tray"] [])
    (CW : ClsW K mg C) (CT : ClsT K mg D) (hDC : D ≠ C) (sf : PySem.W.selfFirst K D = true) (NO : NoOp K C Operator.RShift.info.2) (hs : PySem.W.findIn K (.ref D) (PySem.dunder Operator.RShift.info.2) = some (some (.ref fRs))) (hf : PySem.W.isFn K (.ref fRs) = true) (GRs : FnRn n P w_ K mg base CX0 5 fRs (spRs K C D))
    (GNx : FnOk P w_ K mg base CX0 1 fNx fdNx ["tilts"] spNx) (kNx : PySem.W.keepIn K (.ref fNx) = true) (bNx : Binds K fdNx ["tilts"] []) (mNx : mg "_next_tilts" = some (.ref fNx))
    (PR : PropOf K D "rows" pR gR) (GR : FnOk P w_ K mg base CX0 1 gR fdR ["self"] (getSp D "_rows")) (bR : Binds K fdR ["self"] [])
    (MW : Mk K C fWi) (GWi : FnOk P w_ K mg base CX0 3 fWi fdWi ["self", "text"] (spWi C)) (bWi : Binds K fdWi ["self", "text"] []) (hset : mg "set" = none) :
    FnG n P w_ K mg base 6 f (spSw K D) := by
  refine fng_of lk hcd b scSw (fun m => rfl) (fun vs H N Yx h => ?_) fun A outer s H vs N Yx M pn hr h hM => ?_
  · obtain ⟨p, h, w, g, rfl, _⟩ := h
    rfl
  · obtain ⟨p, h, w, g, rfl, T0, hV, hF, rfl, rfl⟩ := h
    have nd := scSw.nd
    have r1 : Room 1 _ := hr.mono (by decide)
    have r2 : Room 2 _ := hr.mono (by decide)
    have r4 : Room 4 _ := hr.mono (by decide)
    have hu := hr.units
    refine ⟨_, TG.gss_cons (gst_pl rfl fun _ _ _ => PS.up (ps_set (i := 1) nd rfl (.inl rfl) (pe_callTy0 (cr_set0C (P := P) (w := w_) rfl rfl) (by rfl) hset (by decide +kernel))))
      (TG.gss_cons (gst_pl rfl fun _ _ _ => PS.up (ps_expr (pe_addC (K := K) (P := P) (w := w_) rfl rfl rfl hu (pv 1) (pa_cons (pe_prop (pv 0) CT.cl PR GR r2 bR .nil pass0 rfl) pa_nil))))
      (TG.gss_cons (gst_pl rfl fun _ _ _ => PS.up (ps_set (i := 2) nd rfl (.inl rfl) (pe_lst (pa_cons (pe_tup (pa_cons pe_str (pa_cons (pv 0) pa_nil))) pa_nil))))
      (TG.gss_cons (TG.gst_while rfl (fun X hX => by
          obtain ⟨_, _, _, rfl, _⟩ := hX
          exact PT.up (pt_truthC (K := K) rfl (pv 2)))
        (TG.gss_cons (gst_pl rfl fun _ _ _ => PS.up (ps_set (i := 3) nd rfl (.inl rfl) (pe_lst pa_nil)))
        (TG.gss_cons (gst_fo rfl rfl (fun _ _ _ => pi_listC (K := K) rfl (pv 2)) (fun _ _ _ => pg_tupC (K := K) (n := 2) rfl rfl (pgs_cons (pg_name (i := 4) nd rfl (.inl rfl)) (pgs_cons (pg_name (i := 5) nd rfl (.inl rfl)) pgs_nil)))
          (TG.gss_cons (gst_yd rfl fun _ _ _ => PE.up (pe_tup (pa_cons (pv 4) (pa_cons (pv 5) pa_nil))))
          (TG.gss_cons (gst_pl rfl fun _ _ _ => psn_for PassesOwn.never rfl (pi_str (pe_call GNx r1 rfl mNx kNx bNx .nil pass0 (pa_cons (pv 4) pa_nil))) (pg_name (i := 6) nd rfl (.inl rfl))
            (pssn_cons (psn_set (i := 7) nd rfl (.inl rfl) (pen_op (op_twoN hDC sf NO hs hf GRs hr pass0) (PE.up (pv 5)) (PE.up (pe_make MW GWi r4 rfl CW.mgC bWi .nil pass0 (pa_cons (pv 6) pa_nil)))))
            (pssn_one (PS.up (ps_if (pt_cmpR (or_notInC (K := K) (P := P) (w := w_) rfl rfl rfl hu) (pe_prop (pv 7) CT.cl PR GR r2 bR .nil pass0 rfl) (pv 1) (by rfl))
              (pss_cons (ps_expr (pe_addC (K := K) (P := P) (w := w_) rfl rfl rfl hu (pv 1) (pa_cons (pe_prop (pv 7) CT.cl PR GR r2 bR .nil pass0 rfl) pa_nil)))
              (pss_one (ps_expr (TA.pe_bmK (K := K) rfl PySem.F.plainAttrs_list PySem.F.slot_list_append PySem.F.type_list_append mt_append (pv 3) (pa_cons (pe_tup (pa_cons (pe_op op_add_str (pv 4) (pv 6)) (pa_cons (pv 7) pa_nil))) pa_nil))))) pss_nil)))))
          TG.gss_nil)))
        (TG.gss_cons (gst_pl rfl fun _ _ _ => PS.up (ps_set (i := 2) nd rfl (.inl rfl) (pv 3))) TG.gss_nil))))
      TG.gss_nil))), fun H2 hk => ?_⟩
    have T2 : TrayAt K D H2 p g := tray_km T0 hM hk
    have M2 := mok_km hM hk
    have first : ∀ b, H2 b = none → Own1 H M b := fun b e => ⟨(by
      cases q : H b with
      | none => rfl
      | some o =>
        by_cases hm : M b
        · obtain ⟨o1, e1, m1⟩ := hM b hm
          obtain ⟨o2, e2, _⟩ := hk.m b o1 hm e1 m1
          rw [e] at e2
          cases e2
        · rw [hk.k b o hm q] at e
          cases e), fun z => by
      obtain ⟨o1, e1, m1⟩ := M2 b z
      rw [e] at e1
      cases e1⟩
    refine ⟨rfl, fun sA hsA => ?_⟩
    have oA := first sA hsA
    have s2 : Same H2 (upd H2 sA (SetO P w_ sA [])) := same_new hsA
    obtain ⟨dp, ap, hp, hSp⟩ := id (T2.same s2)
    refine ⟨_, rfl, ⟨sA, [], rfl, upd_same⟩, ?_⟩
    refine ⟨_, rfl, p, dp, _, rfl, hp, p, dp, _, _, rfl, hp, rfl, ?_⟩
    have hSp : SqT K (upd H2 sA (SetO P w_ sA [])) ap ((keyG g).map kV) := by
      rw [keyG_V]
      exact hSp
    refine ⟨sA, ap, keyG g, [], rfl, rfl, upd_same, (fun q hq => nomatch hq), hSp, (by decide), fun L' _ c2 => ?_⟩
    have pL : L'.Perm [(ap, keyG g)] := c2 (by simp)
    -- the set holds the tray
    have B3 : Bs K P w_ H M H2 (upd (upd H2 sA (SetO P w_ sA [])) sA (SetO P w_ sA L')) sA (ways0 g) := by
      refine ⟨mok_put (mok_put M2 oA.2) oA.2, fun b z => ?_, ?_, ⟨L', upd_same, fun q hq => ?_, pL.map (·.2)⟩⟩
      · by_cases q : b = sA
        · rw [q, upd_same]
          exact fun z => nomatch z
        · rw [upd_ne q, upd_ne q]
          intro e
          exact z (first b e).1
      · exact (Kept.of_same s2).trans (kept_put upd_same rfl oA)
      · rw [List.mem_singleton.mp (pL.mem_iff.mp hq)]
        exact Kp.sqt (O := fun c => c ≠ sA) (Kp.put upd_same rfl fun z => z rfl) hSp
    have T3 : TrayAt K D (upd (upd H2 sA (SetO P w_ sA [])) sA (SetO P w_ sA L')) p g := Kp.tray (O := fun c => c ≠ sA) (Kp.put upd_same rfl fun z => z rfl) (T2.same s2)
    generalize upd (upd H2 sA (SetO P w_ sA [])) sA (SetO P w_ sA L') = H3 at B3 T3 ⊢
    refine ⟨_, rfl, (by show 2 ≤ sizeLine; decide), fun tp htp => ⟨(by show 1 ≤ sizeLine; decide), fun lA hlA => ?_⟩⟩
    have s3 : Same H3 (upd (upd H3 tp (.tup [V.str (Str.ofString ""), V.ref p])) lA (.lst [V.ref tp])) := (same_new htp).trans (same_new hlA)
    have B4 := B3.same s3
    have oL : Own1 H M lA := (B3.same (same_new htp)).fresh hlA
    have nL : sA ≠ lA := by
      obtain ⟨L, e, _⟩ := (B3.same (H2 := upd H3 tp (.tup [V.str (Str.ofString ""), V.ref p])) (same_new htp)).seen
      exact ne_of_none e hlA
    have ls4 : LstW K D (upd (upd H3 tp (.tup [V.str (Str.ofString ""), V.ref p])) lA (.lst [V.ref tp])) lA (ways0 g) := by
      refine ⟨[V.ref tp], upd_same, rfl, fun k x y h1 h2 => ?_⟩
      cases k with
      | zero =>
        cases h1
        cases h2
        exact ⟨tp, p, rfl, .inl (.inl (by rw [upd_ne (ne_of_none upd_same hlA), upd_same]; rfl)), T3.same s3⟩
      | succ k => simp at h1
    generalize upd (upd H3 tp (.tup [V.str (Str.ofString ""), V.ref p])) lA (.lst [V.ref tp]) = H4 at B4 ls4 ⊢
    refine ⟨fun m i H0 σ H' => ∃ (X lv : Ways) (lA : Addr) (v3 v4 v5 v6 v7 : Option V), σ = [some (.ref p), some (.ref sA), some (.ref lA), v3, v4, v5, v6, v7] ∧ m = 4914 - i ∧ i = X.length ∧ bq h w g i = X ++ lv ∧ Bs K P w_ H M H0 H' sA (X ++ lv) ∧ LstW K D H' lA lv ∧ Own1 H M lA ∧ sA ≠ lA,
      ⟨_, [], ways0 g, lA, none, none, none, none, none, rfl, rfl, rfl, rfl, B4, ls4, oL, nL⟩, ?_⟩
    rintro m i H0 σ H5 ⟨X, lv, lA, v3, v4, v5, v6, v7, rfl, rfl, hi, hb, B5, L5, oL, nL⟩
    obtain ⟨xs, hxs, lxs, hall⟩ := id L5
    refine ⟨_, rfl, _, .inl ⟨xs, SqL.of hxs, rfl⟩, ?_⟩
    have len_i : i ≤ (bq h w g i).length := by
      rw [hb, List.length_append]
      omega
    obtain ⟨pre, stop⟩ := bq_ways hF len_i
    cases lv with
    | nil =>
      have xe : xs = [] := List.eq_nil_of_length_eq_zero (by simpa using lxs)
      subst xe
      show if (!([] : List V).isEmpty) = true then _ else _
      rw [if_neg (by decide)]
      have e := stop (by rw [hb, List.append_nil]; exact hi.symm)
      exact ⟨by rw [e, hb, List.append_nil]; exact hi, B5.kept⟩
    | cons y0 lv0 =>
      have ne : xs ≠ [] := fun z => by
        rw [z] at lxs
        simp at lxs
      have e1 : (!xs.isEmpty) = true := by
        cases xs with
        | nil => exact absurd rfl ne
        | cons _ _ => rfl
      show if (!xs.isEmpty) = true then _ else _
      rw [if_pos e1]
      refine ⟨fun i' H0' σ' H' => ∃ (X lv : Ways) (lA : Addr) (v3 v4 v5 v6 v7 : Option V), i < i' ∧ i' ≤ 4913 ∧ σ' = [some (.ref p), some (.ref sA), some (.ref lA), v3, v4, v5, v6, v7] ∧ i' = X.length ∧ bq h w g i' = X ++ lv ∧ Bs K P w_ H M H0' H' sA (X ++ lv) ∧ LstW K D H' lA lv ∧ Own1 H M lA ∧ sA ≠ lA, ?_, ?_⟩
      · rintro i' H0' σ' H' ⟨X, lv, lA, v3, v4, v5, v6, v7, l1, l2, z⟩
        exact ⟨4914 - i', by omega, X, lv, lA, v3, v4, v5, v6, v7, z.1, rfl, z.2⟩
      generalize y0 :: lv0 = lv at *
      refine ⟨(by show 0 ≤ sizeLine; decide), fun l3 h3 => ?_⟩
      have s5 : Same H5 (upd H5 l3 (.lst [])) := same_new h3
      have o3 := B5.fresh h3
      have n3L : lA ≠ l3 := ne_of_none hxs h3
      have n3 : sA ≠ l3 := by
        obtain ⟨L, e, _⟩ := B5.seen
        exact ne_of_none e h3
      refine ⟨_, rfl, lA, rfl, ⟨xs, SqL.of (s5 _ _ hxs)⟩, gfor_list (K := K) (a := lA) (xs := xs) (fun j i' H0' σ' H' => ∃ (lg : Ways) (v4 v5 v6 v7 : Option V), σ' = [some (.ref p), some (.ref sA), some (.ref lA), some (.ref l3), v4, v5, v6, v7] ∧ i' = X.length + j ∧ bq h w g i' = X ++ lv ++ lg ∧ Bs K P w_ H M H0' H' sA (X ++ lv ++ lg) ∧
          H' lA = some (.lst xs) ∧ (∀ (k : Nat) x y, xs[k]? = some x → lv[k]? = some y → WayAt K D H' x y) ∧ LstW K D H' l3 lg) ?_ ?_ ?_ ?_⟩
      · exact ⟨[], v4, v5, v6, v7, rfl, hi, by rw [List.append_nil]; exact hb, by rw [List.append_nil]; exact B5.same s5, s5 _ _ hxs, fun k x y h1 h2 => (hall k x y h1 h2).kp (O := fun _ => True) (Kp.same s5), [], upd_same, rfl, fun k x y h1 _ => by simp at h1⟩
      · rintro j i' H0' σ' H6 ⟨lg, v4, v5, v6, v7, rfl, _, _, _, e, _⟩
        exact SqL.of e
      · rintro j i' H0' σ' H6 x hx ⟨lg, v4, v5, v6, v7, rfl, hi', hb', B6, e6, a6, L6⟩
        have lj := (List.getElem?_eq_some_iff.mp hx).1
        have hy : lv[j]? = some lv[j] := List.getElem?_eq_getElem (by omega)
        generalize lv[j] = y at hy
        obtain ⟨t, g'⟩ := y
        have at_i : (bq h w g i')[i']? = some (t, g') := by
          rw [hb', hi', List.append_assoc, List.getElem?_append_right (by omega), show X.length + j - X.length = j by omega, List.getElem?_append_left (by omega)]
          exact hy
        obtain ⟨tp, r, rfl, hT, hR⟩ := a6 j x _ hx hy
        dsimp only at hT hR
        refine ⟨tp, _, rfl, hT, rfl, ?_⟩
        have Bi := bq_ok (n := h) (m := w) g i'
        have word := Bi.word _ (List.mem_of_getElem? at_i)
        dsimp only at word
        have lenB := bq_few hF i'
        have li' : i' < (bq h w g i').length := (List.getElem?_eq_some_iff.mp at_i).1
        have lt := Bi.len _ _ at_i
        dsimp only at lt
        have V' : VG h w g' := by
          rw [word.2]
          exact VG.tilts t hV
        obtain ⟨r0, e0⟩ := (bq_ways hF (Nat.le_of_lt li')).1
        have at_w : (ways h w g)[i']? = some (t, g') := by
          rw [← e0, List.getElem?_append_left li']
          exact at_i
        refine ⟨_, _, rfl, _, _, rfl, rfl, (List.getElem?_eq_some_iff.mp at_w).1, _, rfl, _, rfl, (by show 2 ≤ sizeLine; decide), fun tp2 htp2 => ?_⟩
        have s6 : Same H6 (upd H6 tp2 (.tup [V.str (S t), V.ref r])) := same_new htp2
        refine ⟨B6.kept.trans (Kept.of_same s6), ⟨_, at_w, tp2, r, rfl, .inl (.inl upd_same), hR.same s6⟩, fun H7 k7 => ?_⟩
        have B6' := B6.same s6
        have kp7 : Kp (fun b => ¬ M b) (upd H6 tp2 (.tup [V.str (S t), V.ref r])) H7 := Kp.km B6'.mok k7 fun _ z => z
        have kp67 : Kp (fun b => ¬ M b) H6 H7 := (Kp.same s6).trans kp7
        have B7 := B6'.km k7 oA.2
        have e7 := kp67 _ _ (.inr oL.2) e6
        have R7 := kp67.tray hR
        have a7 : ∀ (k : Nat) x y, xs[k]? = some x → lv[k]? = some y → WayAt K D H7 x y := fun k x y h1 h2 => (a6 k x y h1 h2).kp kp67
        have L7 := L6.kp kp67 o3.2
        obtain ⟨n1, n2⟩ := nx_ok t
        refine ⟨_, rfl, t, rfl, by omega, fun c hc => T4_t.mp (word.1 c hc), ?_⟩
        rw [nxt_nx]
        refine ⟨_, rfl, for_it (walk_str (z := S (nx t))) (fun k σ' H' => ∃ (lg : Ways) (v6 v7 : Option V), σ' = [some (.ref p), some (.ref sA), some (.ref lA), some (.ref l3), some (.str (S t)), some (.ref r), v6, v7] ∧ ((nx t).take k).foldl (addc h w t g') (bq h w g i') = X ++ lv ++ lg ∧ Bs K P w_ H M H7 H' sA (X ++ lv ++ lg) ∧
          H' lA = some (.lst xs) ∧ (∀ (k : Nat) x y, xs[k]? = some x → lv[k]? = some y → WayAt K D H' x y) ∧ LstW K D H' l3 lg ∧ TrayAt K D H' r g') ⟨lg, v6, v7, rfl, hb', B7, e7, a7, L7, R7⟩ (fun _ _ _ _ _ => True.intro) ?_ ?_⟩
        · rintro k x σ' H8 H8' hk ⟨lg, v6, v7, rfl, hf8, B8, e8, a8, L8, R8⟩ ⟨rfl, c, hc, rfl⟩
          rw [S_at] at hc
          have et : ((nx t).take (k + 1)).foldl (addc h w t g') (bq h w g i') = addc h w t g' (X ++ lv ++ lg) c := by
            rw [List.take_add_one, hc, List.foldl_append, hf8]
            rfl
          have c4 : T4 c := n1 c (List.mem_of_getElem? hc)
          refine ⟨_, rfl, _, rfl, fun x dx nx ndx nex => ⟨x, dx, [c], rfl, upd_same, ⟨by show 1 ≤ 60; decide, by simpa using T4_t.mp c4⟩, fun H9 hw9 kp9 => ⟨rfl, ?_⟩⟩⟩
          have s9 := Same.made nx ndx kp9
          obtain ⟨dr, ar, hrr, _⟩ := id (R8.same s9)
          obtain ⟨dq, hq⟩ := id hw9
          refine ⟨r, dr, _, x, dq, _, rfl, rfl, hrr, hq, r, x, h, w, _, [c], rfl, R8.same s9, V', hw9, fun Ha ra sa Ta => ?_⟩
          have s8a : Same H8' Ha := s9.trans sa
          have Ta : TrayAt K D Ha ra (TM.tilt h w g' c) := Ta
          have B9 := B8.same s8a
          obtain ⟨dy, ay, hra, hay⟩ := id Ta
          have hay : SqT K Ha ay ((keyG (TM.tilt h w g' c)).map kV) := by
            rw [keyG_V]
            exact hay
          obtain ⟨L, hL, kL, pL⟩ := id B9.seen
          have memL : keyG (TM.tilt h w g' c) ∈ L.map (·.2) ↔ TM.tilt h w g' c ∈ (X ++ lv ++ lg).map (·.2) := by
            rw [pL.mem_iff]
            constructor
            · intro z
              obtain ⟨y, hy, e⟩ := List.mem_map.mp z
              exact List.mem_map.mpr ⟨y, hy, keyG_inj e⟩
            · intro z
              obtain ⟨y, hy, e⟩ := List.mem_map.mp z
              exact List.mem_map.mpr ⟨y, hy, by rw [e]⟩
          refine ⟨_, rfl, ra, dy, _, rfl, hra, ra, dy, _, _, rfl, hra, rfl, _, rfl, sA, ay, _, L, rfl, rfl, hL, kL, hay, fun m => ?_, fun m => ?_⟩
          · refine ⟨false, rfl, iteF ⟨lg, _, _, rfl, ?_, B9, s8a _ _ e8, fun k x y h1 h2 => (a8 k x y h1 h2).kp (O := fun _ => True) (Kp.same s8a), L8.kp (O := fun _ => True) (Kp.same s8a) trivial, R8.same s8a⟩⟩
            rw [et]
            unfold addc
            rw [if_pos (memL.mp m)]
          · refine ⟨true, rfl, iteT ?_⟩
            have new : addc h w t g' (X ++ lv ++ lg) c = X ++ lv ++ (lg ++ [(t ++ [c], TM.tilt h w g' c)]) := by
              unfold addc
              rw [if_neg (fun z => m (memL.mpr z)), List.append_assoc _ lg]
            refine ⟨_, rfl, ⟨sA, L, rfl, hL⟩, _, rfl, ra, dy, _, rfl, hra, ra, dy, _, _, rfl, hra, rfl, sA, ay, _, L, rfl, rfl, hL, kL, hay, ?_, fun L' _ c2 => ?_⟩
            · have pre8 : (X ++ lv ++ lg) <+: bq h w g (i' + 1) := by
                show _ <+: grow h w (bq h w g i') i'
                unfold grow
                rw [at_i]
                dsimp only
                rw [← hf8]
                have := fold_pre (n := h) (m := w) t g' ((TM.nx t).drop k) (((TM.nx t).take k).foldl (addc h w t g') (bq h w g i'))
                rwa [← List.foldl_append, List.take_append_drop] at this
              have l1 := pre8.length_le
              have l2 := bq_few hF (i' + 1)
              have l3 := pL.length_eq
              rw [List.length_map, List.length_map] at l3
              omega
            have pL' := c2 m
            have kb : Kp (fun b => b ≠ sA) Ha (upd Ha sA (SetO P w_ sA L')) := Kp.put hL rfl fun z => z rfl
            have Bb : Bs K P w_ H M H7 (upd Ha sA (SetO P w_ sA L')) sA (X ++ lv ++ (lg ++ [(t ++ [c], TM.tilt h w g' c)])) := by
              refine ⟨mok_put B9.mok oA.2, fun b z => ?_, B9.kept.trans (kept_put hL rfl oA), L', upd_same, fun q hq => kb.sqt ?_, ?_⟩
              · by_cases q : b = sA
                · rw [q, upd_same]
                  exact fun z => nomatch z
                · rw [upd_ne q]
                  exact B9.ex b z
              · rcases List.mem_cons.mp (pL'.mem_iff.mp hq) with rfl | hq
                · exact hay
                · exact kL q hq
              · rw [← List.append_assoc, List.map_append (l₁ := X ++ lv ++ lg)]
                refine (pL'.map (·.2)).trans ?_
                show (keyG _ :: L.map (·.2)).Perm _
                exact ((pL.cons _).trans (List.perm_append_singleton _ _).symm)
            have kab : Kp (fun b => b ≠ sA) H8' (upd Ha sA (SetO P w_ sA L')) := (Kp.same s8a).trans kb
            have eb := kab _ _ (.inr nL.symm) e8
            have ab : ∀ (k : Nat) x y, xs[k]? = some x → lv[k]? = some y → WayAt K D (upd Ha sA (SetO P w_ sA L')) x y := fun k x y h1 h2 => (a8 k x y h1 h2).kp kab
            have Lb := L8.kp kab n3.symm
            have Rb := kab.tray R8
            have Tb := kb.tray Ta
            generalize upd Ha sA (SetO P w_ sA L') = Hb at Bb eb ab Lb Rb Tb
            obtain ⟨ys, ey, ly, ay⟩ := Lb
            have lg4 : lg.length ≤ 4913 := by
              have pre8 : (X ++ lv ++ lg) <+: bq h w g (i' + 1) := by
                show _ <+: grow h w (bq h w g i') i'
                unfold grow
                rw [at_i]
                dsimp only
                rw [← hf8]
                have := fold_pre (n := h) (m := w) t g' ((TM.nx t).drop k) (((TM.nx t).take k).foldl (addc h w t g') (bq h w g i'))
                rwa [← List.foldl_append, List.take_append_drop] at this
              have l1 := pre8.length_le
              have l2 := bq_few hF (i' + 1)
              rw [List.length_append] at l1
              omega
            refine ⟨_, rfl, .inl ⟨rfl, _, SqL.of ey⟩, _, rfl, _, rfl, S t, S [c], rfl, rfl, ?_, _, rfl, (by show 2 ≤ sizeLine; decide), fun tp3 htp3 => ?_⟩
            · rw [S_len, S_len]
              show _ ≤ 16777216
              simp only [List.length_singleton]
              omega
            have sc : Same Hb (upd Hb tp3 (.tup [V.str (S t ++ S [c]), V.ref ra])) := same_new htp3
            refine ⟨l3, ys, _, rfl, rfl, sc _ _ ey, ?_, ?_⟩
            · rw [ly]
              show _ < 16777216
              omega
            have kd : Kp (fun b => b ≠ l3) Hb (upd (upd Hb tp3 (.tup [V.str (S t ++ S [c]), V.ref ra])) l3 (.lst (ys ++ [V.ref tp3]))) := (Kp.same sc).trans (Kp.put (sc _ _ ey) rfl fun z => z rfl)
            refine ⟨lg ++ [(t ++ [c], TM.tilt h w g' c)], _, _, rfl, by rw [et, new], (Bb.same sc).put (sc _ _ ey) rfl o3 n3, kd _ _ (.inr n3L) eb, fun k x y h1 h2 => (ab k x y h1 h2).kp kd, LstW.put ly ay kd ⟨tp3, ra, rfl, .inl (.inl ?_), kd.tray Tb⟩ upd_same, kd.tray Rb⟩
            rw [upd_ne (ne_of_none ey htp3).symm, upd_same, SX.S_cat]
        · rintro σ' H8 ⟨lg, v6, v7, rfl, hf8, B8, e8, a8, L8, R8⟩
          rw [S_size, List.take_length] at hf8
          refine ⟨lg, _, _, _, _, rfl, by omega, ?_, B8, e8, a8, L8⟩
          show grow h w (bq h w g i') i' = _
          unfold grow
          rw [at_i]
          exact hf8
      · rintro i' H0' σ' H6 ⟨lg, v4, v5, v6, v7, rfl, hi', hb', B6, e6, a6, L6⟩
        have pos : 1 ≤ xs.length := List.length_pos_iff.mpr ne
        have l1 := bq_few hF i'
        have l2 : (bq h w g i').length = X.length + lv.length + lg.length := by rw [hb', List.length_append, List.length_append]
        exact ⟨_, rfl, X ++ lv, lg, l3, _, _, _, _, _, by omega, by omega, rfl, by rw [List.length_append]; omega, hb', B6, L6, o3, n3⟩
end
end TR
end
namespace TP
end TP
namespace TP
end TP
namespace TP
end TP
namespace TP
end TP
section
set_option Elab.async false
set_option maxRecDepth 100000
set_option linter.all false
namespace TA
open TK
open TK
open PySem PySem.Spec PyProof.Rows L2 LamX TX TK TM TB
theorem pe_told {X : Cx} {ce : Nat → Addr} {cT g c P : Addr} {fdg : FuncData} {T : List (Addr × Str)} {k : Nat} {params : Arguments} {body : Expr} {scope : Scope} {t : XK → TE} {p lpos pos : Pos} (FR : Fun X.K "_law_raised" "_law_raised" sLawRaised g fdg) (bR : L2.Binds X.K fdg ["_law_work"] [])
    (mR : X.mg "_law_raised" = some (.ref g)) (TE : TxtE X.K X.mg ce cT) (hg : Gl X "_law_raised") (TB : LamX.TabB X.base X.mg c P) (hcode : X.env.code = .ref c) (hmT : (P, X.env.qual ++ "<lambda>") ∈ T) (hu : ∀ p ∈ T, p.1 = P → p.2 = X.env.qual ++ "<lambda>") (hr : Room (k + 2) X.A)
    (L : LamS X.env.scope scope) (hdef : defaultsOf params X.env = ([], [])) (hbind : ∀ (q : Str) (cl : List (Str × Addr)) (pm cv ctv : Value), bindArgs (PySem.W.kla_fn "<lambda>" q params body scope cl pm cv ctv) ⟨[], []⟩ = pure [])
    (hbody : ∀ (A : Around) (outer : List Env) (s : Shared) (H : Hp) (E : XK) (f c' : Addr), Room k (A.deeper (lamEnv X scope s.heap.objs.size f c')) → PE (lamCx X A outer s H E scope f c') body (t E)) :
    PE X (.Call (.Name "_law_raised" p) [.Lambda params body scope lpos] [] pos) (tLam T (TRa ce) t) := by
  obtain ⟨oc, od, kV, doc, pm, an, cdv, ct, osl, rfl, lk, hcd⟩ := FR.ex
  exact pe_lamcall hg mR FR.kp lk hcd bR scRa rfl (.inl rfl) (raised_gives TE) TB hcode hmT hu hr L hdef hbind hbody
end TA
namespace TP
open PySem PySem.Spec PyProof.Rows L2 LamX TX TK TA
end TP
end
section
set_option Elab.async false
set_option maxRecDepth 100000
set_option linter.all false
namespace TR
open PySem PySem.Spec PyProof.Rows L2 TM TK TB TP TH TU TG GenW LamX
structure LamS1 (sc scope : Scope) (a : Str) : Prop where
  kind : scope.kind = .function
  co : scope.isCoroutine = false
  gen : scope.isGenerator = false
  own : ∀ y ∈ scope.names, y.2 ≠ .cell ∧ (y.2 = .local → y.1 = a)
  par : scope.names.lookup a = some .local
  free : ∀ y ∈ scope.names, y.2 = .free → sc.names.lookup y.1 = some .cell ∨ sc.names.lookup y.1 = some .free
def lamS1B (sc scope : Scope) (a : Str) : Bool :=
  decide (scope.kind = .function) && !scope.isCoroutine && !scope.isGenerator && decide (scope.names.lookup a = some .local) && scope.names.all fun y => !decide (y.2 = .cell) && (!decide (y.2 = .local) || decide (y.1 = a)) && (!decide (y.2 = .free) || decide (sc.names.lookup y.1 = some .cell) || decide (sc.names.lookup y.1 = some .free))
theorem lamS1_by {sc scope : Scope} {a : Str} (h : lamS1B sc scope a = true) : LamS1 sc scope a := by
  unfold lamS1B at h
  simp only [Bool.and_eq_true, Bool.or_eq_true, Bool.not_eq_true', decide_eq_true_eq, decide_eq_false_iff_not, List.all_eq_true] at h
  obtain ⟨⟨⟨⟨k1, k2⟩, k3⟩, k4⟩, k5⟩ := h
  refine ⟨k1, k2, k3, fun y hy => ⟨(k5 y hy).1.1, fun e => ?_⟩, k4, fun y hy e => ?_⟩
  · rcases (k5 y hy).1.2 with z | z
    · exact absurd e z
    · exact z
  · rcases (k5 y hy).2 with (z | z) | z
    · exact absurd e z
    · exact .inl z
    · exact .inr z
/-- the context of its body -/
def lamCx1 (X : Cx) (A : Around) (outer : List Env) (s : Shared) (H : Hp) (scope : Scope) (f c' : Addr) (a : Str) : Cx where
  prog := X.prog
  w := X.w
  K := X.K
  mg := X.mg
  base := X.base
  A := A.deeper (lamEnv X scope s.heap.objs.size f c')
  N := X.N ++ [a]
  s_0 := s
  H_0 := H
  env := lamEnv X scope s.heap.objs.size f c'
  outer := outer
  stack := lamEnv X scope s.heap.objs.size f c' :: outer
  ex := []
  fn := fun _ => false
  calm := true
  pn := []
  xe := fun _ _ => False
section
variable {X : Cx} {pins : List (Addr × Obj)} {σ : L2.St} {H HZ : Hp} {s s1 : Shared}
theorem lam1_has {scope : Scope} {a : Str} (L : LamS1 X.env.scope scope a) (ok : X.Ok) : ∀ y ∈ scope.names, y.2 = .free → ∃ c, X.env.cells.lookup y.1 = some c := fun y hy e => by
  rcases L.free y hy e with k | k
  · exact ok.has _ (.inl k)
  · exact ok.has _ (.inr k)
theorem lam1_start {A : Around} {outer : List Env} {scope : Scope} {f c' : Addr} {a : Str} {v : V} {u : Value} {h₁ : Heap} {tk : Nat} (I : Inv X pins σ H s) (L : LamS1 X.env.scope scope a) (na : a ∉ X.N) (rv : RelV v u) (e0 : Env0 X.prog X.w X.K X.mg X.base A outer s1 HZ) (hd : A.handled = none)
    (un : Un (frs X.stack) [] H HZ s.heap s1.heap) (hns : h₁.Ns s1.heap.objs.size fun y => ([(a, u)] : List (Str × Value)).reverse.lookup y) (kp : ∀ b o, s1.heap.get? b = some o → h₁.get? b = some o) :
    Inv (lamCx1 X A outer s1 HZ scope f c' a) [] (σ ++ [some v]) HZ { s1 with heap := h₁, toks := tk } := by
  have hfree := lam1_has L I.ok
  have cm : ∀ {y c}, (cloFrom X.env.cells scope.names []).lookup y = some c → X.env.cells.lookup y = some c := fun {y c} e => by
    rcases cloFrom_mem (PySem.mem_of_lookup e) with hm | ⟨g1, g2⟩
    · cases hm
    · obtain ⟨c1, hc⟩ := hfree _ g1 rfl
      have hc : X.env.cells.lookup y = some c1 := hc
      have e2 : c = c1 := by
        rw [g2, hc]
        rfl
      rw [e2]
      exact hc
  have look : ∀ {y}, scope.names.lookup y = some .free → ∃ c, (cloFrom X.env.cells scope.names []).lookup y = some c := fun {y} hl =>
    mem_lookup (cloFrom_has (cells := X.env.cells) (acc := []) (show (y, NameKind.free) ∈ scope.names from PySem.mem_of_lookup hl))
  have cellK : ∀ {c : Addr} {v : Option Value}, H c = none → s.heap.IsCell c v → h₁.IsCell c v := fun {c v} n ⟨o, ho, hd⟩ => by
    obtain ⟨sl, q⟩ := un.any ho n (by simp)
    exact ⟨_, kp _ _ q, hd⟩
  have noA : ∀ b : Addr, b ∉ (lamCx1 X A outer s1 HZ scope f c' a).ex := fun b z => absurd (show b ∈ ([] : List Addr) from z) (by simp)
  have hlen := I.len
  refine ⟨⟨e0.mod, L.kind, rfl, rfl, Nat.le_refl _, fun y z c e1 e2 => I.ok.inj y z c (cm e1) (cm e2), fun y hy => ?_, fun y c z _ => ?_, fun _ => hd, Around.frames_deeper e0.frames, .inr ⟨rfl, rfl⟩, fun b z => absurd z (noA b), e0.bs, e0.bsz, fun b _ _ => noA b,
      fun b z => absurd z (noA b), e0.funs, e0.frf⟩,
    rfl, e0.bare, Un.kept kp, ⟨_, hns, fun i y v' e1 e2 e3 => ?_⟩, fun y c e => ?_, e0.hok.fresh (Nat.le_refl _), fun y c e => ?_, fun q hq => absurd (show q ∈ ([] : List (Addr × Obj)) ++ [] from hq) (by simp), e0.hok.kept kp, ?_⟩
  · have hy : scope.names.lookup y = some .cell ∨ scope.names.lookup y = some .free := hy
    rcases hy with hy | hy
    · exact absurd rfl (L.own _ (PySem.mem_of_lookup hy)).1
    · exact look hy
  · have z : false = true := z
    cases z
  · have e1 : (X.N ++ [a])[i]? = some y := e1
    have e2 : (σ ++ [some v])[i]? = some (some v') := e2
    rcases Nat.lt_or_ge i X.N.length with l | l
    · rw [List.getElem?_append_left l] at e1
      rw [List.getElem?_append_left (by omega)] at e2
      have yN : y ∈ X.N := List.mem_of_getElem? e1
      have e3 : Vis scope y := e3
      rcases e3 with k | k | k
      · exact absurd ((L.own _ (PySem.mem_of_lookup k)).2 rfl) (fun z => na (by rw [← z]; exact yN))
      · exact absurd rfl (L.own _ (PySem.mem_of_lookup k)).1
      · obtain ⟨m, hn, hl⟩ := I.loc
        have hvis : Vis X.env.scope y := (L.free _ (PySem.mem_of_lookup k) rfl).elim (fun k => .inr (.inl k)) (fun k => .inr (.inr k))
        obtain ⟨w', r, q⟩ := hl i y v' e1 e2 hvis
        obtain ⟨c2, h2⟩ := look k
        refine ⟨w', r, .inr ⟨.inr k, c2, h2, ?_⟩⟩
        have c1 := cm h2
        rcases q with ⟨k', _⟩ | ⟨_, c3, e', z⟩
        · have k' : X.env.scope.names.lookup y = some .local := k'
          rcases L.free _ (PySem.mem_of_lookup k) rfl with k2 | k2
          · rw [show X.env.scope.names.lookup y = _ from k2] at k'
            cases k'
          · rw [show X.env.scope.names.lookup y = _ from k2] at k'
            cases k'
        · rw [c1] at e'
          cases e'
          exact cellK (I.freeC y _ c1) z
    · have ei : i = X.N.length := by
        have := (List.getElem?_eq_some_iff.mp e1).1
        simp at this
        omega
      subst ei
      rw [List.getElem?_append_right (Nat.le_refl _), Nat.sub_self] at e1
      rw [← hlen, List.getElem?_append_right (Nat.le_refl _), Nat.sub_self] at e2
      cases e1
      cases e2
      refine ⟨u, rv, .inl ⟨L.par, ?_⟩⟩
      show ([(a, u)] : List (Str × Value)).lookup a = some u
      simp
  · obtain ⟨w', z⟩ := I.cell y c (cm e)
    exact ⟨w', cellK (I.freeC y c (cm e)) z⟩
  · obtain ⟨v, o, ho, hd⟩ := I.cell y c (cm e)
    exact un.free c o ho (I.freeC y c (cm e)) (by simp)
  · show (σ ++ [some v]).length = (X.N ++ [a]).length
    rw [List.length_append, List.length_append, hlen]
    rfl
/-- x(e), in the def that got the lambda -/
theorem pe_act1 {CXg : CXT} {Eg : XK} {Ng : List Str} {qg : Str} {sg : Scope} {g f c' : Addr} {cdg pm ctv : Value} {params : Arguments} {body : Expr} {scope : Scope} {k i : Nat} {a b : Str} {A0 : Around} {te : TE} {tb : TE} {e : Expr} {p1 p2 : Pos}
    (I : Inv X pins σ H s) (L : LamS1 X.env.scope scope a) (na : a ∉ X.N) (hf : s.heap.get? f = some (PySem.W.kla_obj "<lambda>" (X.env.qual ++ "<lambda>") params body scope (cloFrom X.env.cells scope.names []) pm c' ctv)) (hfn : H f = none) (hfr : f ∉ frs X.stack)
    (hbind : ∀ u : Value, bindArgs (PySem.W.kla_fn "<lambda>" (X.env.qual ++ "<lambda>") params body scope (cloFrom X.env.cells scope.names []) pm (.ref c') ctv) ⟨[u], []⟩ = pure [(a, u)])
    (hr : Room (k + 1) (A0.deeper (envOfC qg sg s.heap.objs.size g cdg)))
    (hbody : ∀ (A : Around) (outer : List Env) (s : Shared) (H : Hp), Room k (A.deeper (lamEnv X scope s.heap.objs.size f c')) → PE (lamCx1 X A outer s H scope f c' a) body tb)
    (he : PE (cxOf CXg X.prog X.w X.K X.mg X.base Ng qg sg g cdg A0 X.stack s H Eg).nox e te) (hN : Ng[i]? = some b) (hv : Vis sg b) (hd : (b == ("__debug__" : Str)) = false := by decide) (hcd : (b == ("__classdict__" : Str)) = false := by decide)
    (hs1 : starEach [e] (cxOf CXg X.prog X.w X.K X.mg X.base Ng qg sg g cdg A0 X.stack s H Eg).nox.env = (false, eval e (cxOf CXg X.prog X.w X.K X.mg X.base Ng qg sg g cdg A0 X.stack s H Eg).nox.env) :: starEach [] (cxOf CXg X.prog X.w X.K X.mg X.base Ng qg sg g cdg A0 X.stack s H Eg).nox.env := by rfl) :
    PE (cxOf CXg X.prog X.w X.K X.mg X.base Ng qg sg g cdg A0 X.stack s H Eg).nox (.Call (.Name b p1) [e] [] p2)
      (fun σZ HZ Q => σZ[i]? = some (some (.ref f)) ∧ te σZ HZ fun v H1 => H1 c' = some (CodeO c' (X.env.qual ++ "<lambda>")) ∧ tb (σ ++ [some v]) H1 Q) := by
  refine ⟨fun pinsZ sZ σZ HZ Q IZ h => ?_⟩
  obtain ⟨hs, ht⟩ := h
  refine wpAny_Call_Name_kw (thn ((pe_var (pos := p1) (i := i) hN hv hd hcd).run pinsZ sZ σZ HZ (fun v H1 => v = .ref f ∧ H1 = HZ) IZ ⟨.ref f, hs, rfl, rfl⟩) fun u s1 ⟨v, H1, I1, r1, q1⟩ => ?_)
  obtain ⟨ev, eH⟩ := q1
  subst ev
  rw [eH] at I1
  obtain rfl : u = Value.ref f := r1
  have at1 : ∀ {s2 : Shared} {H2 : Hp} {σ2 : L2.St}, Inv (cxOf CXg X.prog X.w X.K X.mg X.base Ng qg sg g cdg A0 X.stack s H Eg).nox pinsZ σ2 H2 s2 → s2.heap.get? f = some (PySem.W.kla_obj "<lambda>" (X.env.qual ++ "<lambda>") params body scope (cloFrom X.env.cells scope.names []) pm c' ctv) :=
    fun I2 => I2.base.keep f _ hf hfn hfr (fun z => nomatch (show f ∈ ([] : List Addr) from z))
  refine PySem.W.callWith_F ⟨_, _, _, _, at1 I1⟩ ?_ hs1 (by rfl)
  rw [hs1]
  show wpAny _ _ (spliced ((false, eval e _) :: backTo p2 (starEach [] _))) _ _ s1
  refine Calls.spliced_cons (thn (he.run pinsZ s1 σZ HZ _ I1 ht) fun u2 s2 ⟨v, H2, I2, r2, hc, q2⟩ => Calls.spliced_nil ⟨⟨_, _, _, _, at1 I2⟩, ?_⟩)
  have of2 := at1 I2
  have un : Un (frs X.stack) [] H H2 s.heap s2.heap := I2.base
  obtain ⟨⟨oc, vs, t, hoc, hdc, hvc⟩, _, _⟩ := I2.hok c' _ hc
  have rc : codeAny (model X.prog X.w) (A0.deeper (envOfC qg sg s.heap.objs.size g cdg)) (.call (.ref f) ⟨[u2], []⟩) (CR C8.CX0 (envOfC qg sg s.heap.objs.size g cdg :: X.stack) X.prog X.w H2 s2 Q C8.E0) s2 := by
    refine PySem.W.kla_callFunE hr.depth of2 rfl L.co L.gen rfl ⟨c', oc, vs, t, rfl, hoc, hdc, hvc⟩ ?_
    rw [hbind]
    refine wpAny_pure (wpAny_newFunctionEnv (fun y hy => (L.own y hy).1) (fun y hy => by rw [List.mem_singleton.mp hy]; exact L.par) (fun h₁ hns hsb => ⟨I2.nolimit.fresh _ hsb, ?_⟩) L.kind)
    show codeAny _ _ (.expr body (lamEnv X scope s2.heap.objs.size f c')) _ _
    have kp : ∀ b o, s2.heap.get? b = some o → h₁.get? b = some o := fun b o e => hsb.extBut b o (Nat.ne_of_lt (Heap.lt_size e)) (Heap.get?_push_of_some _ e)
    have J : Inv (lamCx1 X (A0.deeper (envOfC qg sg s.heap.objs.size g cdg)) (envOfC qg sg s.heap.objs.size g cdg :: X.stack) s2 H2 scope f c' a) [] (σ ++ [some v]) H2 { s2 with heap := h₁, toks := s2.toks + ([(a, u2)] : List (Str × Value)).length } :=
      lam1_start I L na r2 I2.env0 hr.hd un hns kp
    refine PySem.W.kla_codeExpr (wpAny_mono ((hbody _ _ s2 H2 (hr.deeper _)).run [] _ _ H2 Q J q2) (fun v s' hq => ?_) fun e s' hq => (show False from hq).elim)
    obtain ⟨w', H', J', rv, q⟩ := hq
    exact ⟨w', H', J'.os, J'.bare, J'.base, J'.hok, rv, q⟩
  refine wpAny_call (codeAny_mono rc fun r s' hq => ?_)
  cases r with
  | error e => exact (show False from hq).elim
  | ok fl =>
    cases fl with
    | ret u => exact I2.after hq
    | next => exact False.elim hq
    | brk => exact False.elim hq
    | cont => exact False.elim hq
end
end TR
end
section
set_option Elab.async false
set_option maxRecDepth 100000
set_option linter.all false
namespace TR
open PySem PySem.Spec PyProof.Rows L2 TM TK TB TP TH TU TG GenW LamX
/-- a def called, its promise told of the very state, n tokens out -/
theorem run_nS {CX : CXT} {P : Program} {w : World} {K : PySem.W.Frag} {mg : Str → Option Value} {base : Heap} {k n : Nat} {f : Addr} {name qual : Str} {params : Arguments} {body : List Stmt} {scope : Scope} {dV kV doc pm cdv ct oc : Value} {an od : Option Addr}
    {osl : Array (Option Value)} {N ps : List Str} (lk : K.lookup f = some ⟨oc, od, .func (PySem.W.fnOf name qual params body scope dV kV doc pm an cdv ct), osl⟩) (hcd : PySem.W.codeIn K cdv qual = true) (S : FnScope N ps scope)
    {A : Around} {outer : List Env} {s : Shared} {H : Hp} {us : List Value} {vs : List V} {Q : VK} {E : XK} (hn : n ≤ s.toks) (hr : Room (k + 1) A) (e0 : Env0 P w K mg base A outer s H) (b : L2.Binds K (PySem.W.fnOf name qual params body scope dV kV doc pm an cdv ct) ps []) (r : Vals vs us) (hl : vs.length = ps.length)
    (hbody : Room k (A.deeper (envOfC qual scope s.heap.objs.size f cdv)) → ∃ t, PSsn n (cxOf CX P w K mg base N qual scope f cdv A outer s H E).nox body t ∧ t { nx := fun _ H' => Q .non H', rt := Q } (L2.start N vs) H) :
    codeAny (model P w) A (.call (.ref f) ⟨us, []⟩) (CR CX outer P w H s Q E) s := by
  have KX : K.In s.heap := e0.mod.kin.keeps fun b o e => (e0.bs b o e).1
  have lim : s.heap.NoLimit := e0.mod.nolimit.keeps fun b o e => (e0.bs b o e).1
  have hkind : ∀ y ∈ ps.zip us, scope.names.lookup y.1 = some .local ∨ (scope.names.lookup y.1 = some .cell ∧ ((cellsFrom (s.heap.objs.size + 1) scope.names []).lookup y.1).isSome = true) := fun ⟨m, v⟩ hy => by
    rcases S.par m (List.of_mem_zip hy).1 with q | q
    · exact .inl q
    · exact .inr ⟨q, PySem.W.cellsFrom_some _ _ _ (.inl q)⟩
  have hul : us.length = ps.length := by rw [← r.length]; exact hl
  have hb := b s us KX (by rw [List.append_nil]; exact hul)
  rw [List.append_nil] at hb
  refine codeAny_call_function hr.depth (KX _ _ lk) rfl S.co S.gen rfl (PySem.W.codeRec_of KX hcd) (hb _ _ _ _ ?_)
  refine wpAny_with_toks hn (wpAny_mono (wpAny_newFunctionEnv_cells (Q := fun env s1 => n ≤ s1.toks → _) S.kind hkind fun env he s1 x hn1 => ?_) (fun _ _ z => z) fun _ _ z _ => z)
  subst he
  refine ⟨lim.keeps x.toInCall.keep, codeAny_func ?_⟩
  obtain ⟨t, ht, hq⟩ := hbody (hr.deeper _)
  have I : Inv (cxOf CX P w K mg base N qual scope f cdv A outer s H E) [] (L2.start N vs) H s1 := inv_start S hr.hd e0 hl r x
  refine wpAny_mono (pssn_nox ht [] s1 (L2.start N vs) H _ hn1 I hq) (fun fl s' hs => ?_) fun e s' hs => hs
  have fin : ∀ {σ' : L2.St} {H' : Hp} {v : V} {u : Value}, Inv (cxOf CX P w K mg base N qual scope f cdv A outer s H E) [] σ' H' s' → L2.RelV v u → Q v H' → CE outer P w H s Q u s' :=
    fun {σ' H' v u} J rv q => ⟨v, H', J.os, J.bare, J.base, J.hok, rv, q⟩
  cases fl with
  | ret u =>
    obtain ⟨v, σ', H', J, rv, q⟩ := hs
    exact fin J rv q
  | next =>
    obtain ⟨σ', H', J, q⟩ := hs
    exact fin (v := V.non) (u := Value.none) J rfl q
  | brk =>
    obtain ⟨_, _, _, q⟩ := hs
    exact q.elim
  | cont =>
    obtain ⟨_, _, _, q⟩ := hs
    exact q.elim
abbrev NFw : List Str := ["tray", "is_goal", "tilts", "reached"]
theorem scFw : FnScope NFw ["tray", "is_goal"] (defScope sFirstWay) := ⟨rfl, rfl, rfl, by decide +kernel, rfl, by decide +kernel, by decide +kernel⟩
/-- what the search gives -/
def wayV (W : Ways) (ok : List Nat × Grid → Bool) : V := match W.find? ok with
  | some y => .str (S y.1)
  | none => .non
/-- the search, the goal told by a lambda's body -/
def tFw (K : PySem.W.Frag) (D : Addr) (T : List (Addr × Str)) (te : TE) (tb : TE) : TE := fun σ H Q => te σ H fun v H0 => ∃ (p : Addr) (h w : Nat) (g : Grid), v = .ref p ∧ TrayAt K D H0 p g ∧ VG h w g ∧ Few h w g ∧ Tabs T H0 ∧ ∀ H1, ExtN H0 H1 → Tabs T H1 → TrayAt K D H1 p g →
  ∃ ok : List Nat × Grid → Bool, (∀ H2 r y Q', y ∈ ways h w g → Same H1 H2 → TrayAt K D H2 r y.2 → (∀ H3, Same H2 H3 → Q' (.bl (ok y)) H3) → tb (σ ++ [some (.ref r)]) H2 Q') ∧ ∀ H2, Same H1 H2 → Q (wayV (ways h w g) ok) H2
theorem find_at {α : Type} {ok : α → Bool} : ∀ {W : List α} {i : Nat} {y : α}, W[i]? = some y → ok y = true → (∀ (j : Nat) z, j < i → W[j]? = some z → ok z = false) → W.find? ok = some y
  | [], i, y, e, _, _ => by simp at e
  | x :: W, 0, y, e, h, _ => by
    cases e
    rw [List.find?_cons, h]
  | x :: W, i + 1, y, e, h, no => by
    rw [List.find?_cons, no 0 x (Nat.succ_pos i) rfl]
    exact find_at (show W[i]? = some y from e) h fun j z l q => no (j + 1) z (Nat.succ_lt_succ l) q
section
variable {X : Cx} {D fFw fSw : Addr} {fdFw : FuncData} {n : Nat}
theorem tray_extN {K : PySem.W.Frag} {D p : Addr} {H H' : Hp} {g : Grid} (h : TrayAt K D H p g) (e : ExtN H H') : TrayAt K D H' p g := tray_imp h fun b o m q => e b o q fun ps z => by
  subst z
  cases m
theorem pen_fw {T : List (Addr × Str)} {c P : Addr} {params : Arguments} {body : Expr} {scope : Scope} {te tb : TE} {et : Expr} {p lpos pos : Pos} (hst : X.stack = X.env :: X.outer) (F : Fun X.K "_first_way" "_first_way" sFirstWay fFw fdFw) (b : L2.Binds X.K fdFw ["tray", "is_goal"] []) (m : X.mg "_first_way" = some (.ref fFw)) (hg : Gl X "_first_way")
    (GS : FnG n X.prog X.w X.K X.mg X.base 6 fSw (spSw X.K D)) (mS : X.mg "_shortest_ways" = some (.ref fSw)) (kS : PySem.W.keepIn X.K (.ref fSw) = true)
    (TBx : TabB X.base X.mg c P) (hcode : X.env.code = .ref c) (hmT : (P, X.env.qual ++ "<lambda>") ∈ T) (hu : ∀ p ∈ T, p.1 = P → p.2 = X.env.qual ++ "<lambda>") (hr : Room 8 X.A) (L : LamS1 X.env.scope scope "reached") (na : ("reached" : Str) ∉ X.N) (hdef : defaultsOf params X.env = ([], []))
    (hbind : ∀ (q : Str) (cl : List (Str × Addr)) (pm cv ctv u : Value), bindArgs (PySem.W.kla_fn "<lambda>" q params body scope cl pm cv ctv) ⟨[u], []⟩ = pure [(("reached" : Str), u)])
    (hbody : ∀ (A : Around) (outer : List Env) (s : Shared) (H : Hp) (f c' : Addr), Room 6 (A.deeper (lamEnv X scope s.heap.objs.size f c')) → PE (lamCx1 X A outer s H scope f c' "reached") body tb)
    (hte : PE X et te) (h1 : starEach [et, .Lambda params body scope lpos] X.env = (false, eval et X.env) :: starEach [.Lambda params body scope lpos] X.env := by rfl) (h2 : starEach [.Lambda params body scope lpos] X.env = (false, eval (.Lambda params body scope lpos) X.env) :: starEach [] X.env := by rfl) :
    PEn n X (.Call (.Name "_first_way" p) [et, .Lambda params body scope lpos] [] pos) (tFw X.K D T te tb) := by
  obtain ⟨oc, od, kw, doc, pm, an, cdv, ct, osl, rfl, lk, hcd⟩ := F.ex
  intro pins s σ H Q hn I h
  refine wpAny_Call_Name_kw (ld_glob I hg m ?_ (by decide))
  refine PySem.W.callWith_K (h₀ := X.base) I.ok.mod.kin F.kp ?_ h1 (by rfl)
  rw [h1]
  show wpAny _ _ (spliced ((false, eval et X.env) :: backTo pos (starEach [.Lambda params body scope lpos] X.env))) _ _ s
  refine Calls.spliced_cons (thnN hn (hte.run pins s σ H _ I h) fun u0 s0 hn0 ⟨v, H0, I0, r0, q0⟩ => ?_)
  obtain ⟨tp, h, w, g, rfl, T0, hV, hF, hT, q0⟩ := q0
  obtain rfl : u0 = Value.ref tp := r0
  rw [h2]
  show wpAny _ _ (spliced ((false, eval (.Lambda params body scope lpos) X.env) :: backTo pos (starEach [] X.env))) _ _ s0
  refine Calls.spliced_cons (wpAny_mono (wpAny_toks_of hn0 (lam_make2 (E := X.xe) (Q := fun u s' => ∃ (f c' : Addr) (pm' ctv : Value) (H1 : Hp), u = .ref f ∧ Inv X pins σ H1 s' ∧ ExtN H0 H1 ∧ Tabs T H1 ∧
      s'.heap.get? f = some (PySem.W.kla_obj "<lambda>" (X.env.qual ++ "<lambda>") params body scope (cloFrom X.env.cells scope.names []) pm' c' ctv) ∧ H1 f = none ∧ f ∉ frs X.stack ∧ H1 c' = some (CodeO c' (X.env.qual ++ "<lambda>")))
      I0 TBx hcode hmT hu hT hdef (lam1_has L I0.ok) fun f c' pm' ctv H1 s' I1 eN T1 hf hfn hfr hco => ⟨f, c', pm', ctv, H1, rfl, I1, eN, T1, hf, hfn, hfr, hco⟩)) (fun u s' z => ?_) fun _ _ z => z.2)
  obtain ⟨hn1, f, c', pm', ctv, H1, rfl, I1, eN, T1, hf, hfn, hfr, hco⟩ := z
  refine Calls.spliced_nil ⟨I1.kIn, ?_⟩
  have T1t := tray_extN T0 eN
  obtain ⟨ok, hok, hQ⟩ := q0 H1 eN T1 T1t
  have rc : codeAny (model X.prog X.w) X.A (.call (.ref fFw) ⟨[.ref tp, .ref f], []⟩) (CR C8.CX0 X.stack X.prog X.w H1 s' Q C8.E0) s' := by
    refine run_nS (N := NFw) (ps := ["tray", "is_goal"]) (us := [.ref tp, .ref f]) (vs := [.ref tp, .ref f]) lk hcd scFw hn1 hr I1.env0 b (.cons rfl (.cons rfl .nil)) rfl fun hr' => ?_
    have nd := scFw.nd
    refine ⟨_, pssn_cons (psn_forG rfl rfl rfl GS hr' rfl mS kS (pan_cons (PE.up (pv 0)) pan_nil) (pg_tup rfl (pgs_cons (pg_name (i := 2) nd rfl (.inl rfl)) (pgs_cons (pg_name (i := 3) nd rfl (.inl rfl)) pgs_nil)))
        (pssn_one (PS.up (ps_if (pt_val (pe_act1 (i := 1) I1 L na hf hfn hfr (fun u => hbind _ _ _ _ _ u) hr' (fun A outer s H hr2 => hbody A outer s H f c' hr2) (pv 3) rfl (.inl rfl))) (pss_one (ps_ret (pv 2))) pss_nil))))
      (pssn_one (PS.up (ps_ret pe_non))), ?_⟩
    refine ⟨_, rfl, (ways h w g).length, _, fun _ => False, ⟨tp, h, w, g, rfl, T1t, hV, hF, rfl, rfl⟩, (fun _ z => z.elim), fun i σ2 H2 => ∃ v2 v3 : Option V, σ2 = [some (.ref tp), some (.ref f), v2, v3] ∧ Same H1 H2 ∧ ∀ (j : Nat) z, j < i → (ways h w g)[j]? = some z → ok z = false,
      ⟨none, none, rfl, Same.refl H1, fun j z l => absurd l (Nat.not_lt_zero _)⟩, ?_, ?_⟩
    · rintro i x σ2 H2 H3 hi ⟨v2, v3, rfl, sm, no⟩ kp ⟨y, hy, tq, r, rfl, hT2, hR⟩
      have sm3 : Same H1 H3 := fun b o e => kp b o (.inl (fun z => by rw [e] at z; cases z)) (sm b o e)
      refine ⟨tq, _, rfl, hT2, rfl, _, _, rfl, _, _, rfl, rfl, ?_⟩
      refine ⟨rfl, _, rfl, sm3 _ _ hco, hok H3 r y _ (List.mem_of_getElem? hy) sm3 hR fun H4 s4 => ?_⟩
      refine ⟨ok y, rfl, ?_⟩
      cases e : ok y with
      | true =>
        refine iteT ⟨_, rfl, ?_⟩
        have z := hQ H4 (sm3.trans s4)
        unfold wayV at z
        rw [find_at hy e no] at z
        exact z
      | false =>
        refine iteF ⟨KM.of_same s4, _, _, rfl, sm3.trans s4, fun j z l q => ?_⟩
        rcases Nat.lt_or_ge j i with l2 | l2
        · exact no j z l2 q
        · obtain rfl : j = i := by omega
          rw [hy] at q
          cases q
          exact e
    · rintro σ2 H2 H3 ⟨v2, v3, rfl, sm, no⟩ kp
      have sm3 : Same H1 H3 := fun b o e => kp b o (.inl (fun z => by rw [e] at z; cases z)) (sm b o e)
      have z := hQ H3 sm3
      unfold wayV at z
      rw [List.find?_eq_none.mpr fun y hy => by
        obtain ⟨j, hj⟩ := List.getElem?_of_mem hy
        rw [no j y (List.getElem?_eq_some_iff.mp hj).1 hj]
        decide] at z
      exact z
  refine wpAny_call (codeAny_mono rc fun r s2 hq => ?_)
  cases r with
  | error e => exact (show False from hq).elim
  | ok fl =>
    cases fl with
    | ret u => exact I1.after hq
    | next => exact False.elim hq
    | brk => exact False.elim hq
    | cont => exact False.elim hq
end
end TR
end
section
set_option Elab.async false
set_option maxRecDepth 100000
set_option linter.all false
namespace TR
open PySem PySem.Spec PyProof.Rows L2 TM TK TB TP TH TU TW
def mkv (M : List Nat) (qa : Nat → Addr) : List (Key × V) := M.map fun m => (Sum.inr (S [m]), V.ref (qa m))
def MdAt (H : Hp) (e : Addr) (w : Nat) (pos : Nat → Nat) (M : List Nat) (qa : Nat → Addr) : Prop := H e = some (.dK (mkv M qa)) ∧ ∀ m ∈ M, H (qa m) = some (.tup (plV w (pos m)))
theorem MdAt.same {H H' : Hp} {e : Addr} {w : Nat} {pos : Nat → Nat} {M : List Nat} {qa : Nat → Addr} (h : MdAt H e w pos M qa) (s : Same H H') : MdAt H' e w pos M qa := ⟨s _ _ h.1, fun m hm => s _ _ (h.2 m hm)⟩
theorem key_inj {a b : Nat} (e : (Sum.inr (S [a]) : Key) = Sum.inr (S [b])) : a = b := by
  injection e with e
  injection e with e
  injection e with e
  injection e
end TR
end
section
set_option Elab.async false
set_option maxRecDepth 100000
set_option linter.all false
namespace TR
open PySem PySem.Spec PyProof.Rows L2 TM TX TK TB TP TH TU TW
section
variable {P : Program} {w_ : World} {K : PySem.W.Frag} {mg : Str → Option Value} {base : Heap} {C D CN CU fN fU fTc fCn fCm fAr fCl : Addr} {fdN fdU fdCn fdCm fdAr : FuncData}
def spCmX (K : PySem.W.Frag) (D CU : Addr) : Sp := fun vs H Q E => ∃ (p : Addr) (x : V) (h w : Nat) (g : Grid), vs = [.ref p, x] ∧ TrayAt K D H p g ∧ VG h w g ∧
  ((∃ c, x = sg c ∧ c ∈ mb g.flatten ∧ ∀ H', Same H H' → Q .non H') ∨
    (((∃ u : List Nat, x = .str (S u) ∧ u.length ≤ 1000 ∧ has g u = false) ∨ NoText K H x) ∧ ∀ H' d, Same H H' → H d = none → H' d = some (.xd [("marble", x)]) → E (.ref CU) (some d) H'))
theorem ok_cmX {f : Addr} {fd : FuncData} (F : Fun K "check_marble" "check_marble" sCheckMarble f fd) (hs : PySem.W.findIn K (.ref D) "__contains__" = some (some (.ref fTc))) (hf : PySem.W.isFn K (.ref fTc) = true) (FC : FnR P w_ K mg base CX0 3 fTc (spTc K D))
    (X : ExcT K mg "UnknownMarble" CU fU) (GU : FnOk P w_ K mg base CX0 1 fU fdU ["self", "marble"] (spUm CU)) (bU : Binds K fdU ["self", "marble"] []) :
    FnOk P w_ K mg base (L2.CX P w_) 4 f fd ["tray", "marble"] (spCmX K D CU) := by
  refine F.okX scCm (fun vs H Q E h => ?_) (fun cdv A outer s H vs Q E hr h => ?_)
  · obtain ⟨p, x, h, w, g, rfl, _⟩ := h
    rfl
  · obtain ⟨p, x, h, w, g, rfl, T0, hV, hx⟩ := h
    obtain ⟨dx, a, hp, hS⟩ := id T0
    refine ⟨_, pss_one (ps_if (pt_cmpR (op_notOwn hs hf FC (hr.mono (by decide)) pass0) (pv 1) (pv 0) (by rfl)) (pss_one (ps_raise rfl (takes_of rfl rfl rfl rfl) (pmk_oex X.ox X.iE X.tE GU (hr.mono (by decide)) bU .nil pass0 rfl X.mgE (pa_cons (pv 1) pa_nil)))) pss_nil), ?_⟩
    refine ⟨_, rfl, _, rfl, p, dx, _, rfl, hp, p, _, h, w, g, rfl, T0, hV, ?_⟩
    rcases hx with ⟨c, rfl, hm, k⟩ | ⟨hn, k⟩
    · have hh : has g [c] = true := by
        show (true && decide (c ∈ mb g.flatten)) = true
        rw [decide_eq_true hm]
        rfl
      refine .inl ⟨[c], rfl, by show 1 ≤ 1000; decide, fun H1 sm => ?_⟩
      rw [hh]
      exact ⟨true, rfl, _, rfl, iteF (k _ sm)⟩
    · have raised : ∀ {H1 : Hp}, Same H H1 → ∀ a, H1 a = none → spUm CU [.ref a, x] (upd H1 a (exo a CU none)) (fun v H2 => v = .non ∧ ∃ (d : Addr) (fs : List (Str × V)), H2 a = some (exo a CU (some d)) ∧ H2 d = some (exd d fs) ∧ H1 d = none ∧ E (.ref CU) (some d) (upd (del H2 a) d (.xd fs))) (fun _ _ _ => False) := by
        intro H1 sm a ha
        refine ⟨a, x, rfl, upd_same, fun d hd hne => ⟨rfl, d, _, upd_same, by rw [upd_ne hne, upd_same], ?_, ?_⟩⟩
        · rw [upd_ne hne] at hd
          exact hd
        · rw [upd_ne hne] at hd
          refine k _ _ (fun b o e => ?_) (sm.free hd) upd_same
          have e1 := sm b o e
          have nd := ne_of_none e1 hd
          have na := ne_of_none e1 ha
          rw [upd_ne nd, del_ne na, upd_ne na, upd_ne nd, upd_ne na]
          exact e1
      rcases hn with ⟨u, rfl, hu, hh⟩ | hn
      · refine .inl ⟨u, rfl, hu, fun H1 sm => ?_⟩
        rw [hh]
        exact ⟨false, rfl, _, rfl, iteT ⟨_, rfl, by show 1 ≤ 1000; decide, raised sm⟩⟩
      · exact .inr ⟨hn, fun H1 sm => ⟨false, rfl, _, rfl, iteT ⟨_, rfl, by show 1 ≤ 1000; decide, raised sm⟩⟩⟩
end
end TR
end
section
set_option Elab.async false
set_option maxRecDepth 100000
set_option linter.all false
namespace TR
open PySem PySem.Spec PyProof.Rows L2 TM TX TK TB TP TH TU TW
theorem mb_snoc (l : List Nat) (c : Nat) : mb (l ++ [c]) = if c = 46 then mb l else mb l ++ [c] := by
  unfold mb
  rw [List.filter_append]
  by_cases q : c = 46
  · simp [q]
  · simp [q]
theorem plc_of {w r c : Nat} (hc : c < w) : plV w (r * w + c) = [.int (r : Nat), .int (c : Nat)] := by
  unfold plV
  have h1 : (((r * w + c : Nat) : Int)) / (w : Int) = (r : Int) := by
    have : (r * w + c) / w = r := by
      rw [Nat.mul_comm, Nat.mul_add_div (by omega), Nat.div_eq_of_lt hc, Nat.add_zero]
    exact congrArg Int.ofNat this
  have h2 : (((r * w + c : Nat) : Int)) % (w : Int) = (c : Int) := by
    have : (r * w + c) % w = c := by
      rw [Nat.mul_comm, Nat.mul_add_mod, Nat.mod_eq_of_lt hc]
    exact congrArg Int.ofNat this
  rw [h1, h2]
section
variable {P : Program} {w_ : World} {K : PySem.W.Frag} {mg : Str → Option Value} {base : Heap}
structure TxtQ (mg : Str → Option Value) : Prop where
  len : mg "len" = none
  range : mg "range" = none
abbrev NPs : List Str := ["_law_rows_here", "_law_found", "_law_r", "_law_c"]
theorem scPs : FnScope NPs ["_law_rows_here"] (defScope sLawPlaces) := ⟨rfl, rfl, rfl, by decide +kernel, rfl, by decide +kernel, by decide +kernel⟩
def spPs (K : PySem.W.Frag) : Sp := fun vs H Q _ => ∃ (l : Addr) (h w : Nat) (g : Grid), vs = [.ref l] ∧ VG h w g ∧ H l = some (.lst (rowV g)) ∧
  ∀ H' e qa, Same H H' → H e = none → MdAt H' e w (fun m => g.flatten.idxOf m) (mb g.flatten) qa → Q (.ref e) H'
theorem ok_ps {f : Addr} {fd : FuncData} (F : Fun K "_law_places" "_law_places" sLawPlaces f fd) (T : TxtQ mg) : FnOk P w_ K mg base CX0 1 f fd ["_law_rows_here"] (spPs K) := by
  refine F.ok scPs (fun vs H Q E h => ?_) (fun cdv A outer s H vs Q E hr h => ?_)
  · obtain ⟨l, h, w, g, rfl, _⟩ := h
    rfl
  · obtain ⟨l, h, w, g, rfl, hV, hl, k⟩ := h
    have nd := scPs.nd
    refine ⟨_, pss_cons (ps_set (i := 1) nd rfl (.inl rfl) pe_dnewK)
      (pss_cons (ps_for PassesOwn.never rfl (pi_range1 (by rfl) T.range (pa_cons (pe_callB call_len_seq (by rfl) T.len PySem.boot_len (pa_cons (pv 0) pa_nil)) pa_nil)) (pg_name (i := 2) nd rfl (.inl rfl))
        (pss_one (ps_for PassesOwn.never rfl (pi_range1 (by rfl) T.range (pa_cons (pe_callB call_len_str (by rfl) T.len PySem.boot_len (pa_cons (pe_ix ix_list (pv 0) pe_int (fun _ _ => rfl)) pa_nil)) pa_nil)) (pg_name (i := 3) nd rfl (.inl rfl))
          (pss_one (ps_if (pt_cmpR op_ne (pe_ix ix_str (pe_ix ix_list (pv 0) (pv 2) (fun _ _ => rfl)) (pv 3) (fun _ _ => rfl)) pe_str (nomark _))
            (pss_one (ps_asg (pe_tup (pa_cons (pv 2) (pa_cons (pv 3) pa_nil))) (pg_sub (pv 1) (pe_ix ix_str (pe_ix ix_list (pv 0) (pv 2) (fun _ _ => rfl)) (pv 3) (fun _ _ => rfl)) (set_dict (hu_of hr))))) pss_nil)))))
      (pss_one (ps_ret (pv 1)))), ?_⟩
    intro e he
    have se := same_new (o := .dK []) he
    have h1 := hV.n1
    have h8 := hV.n8
    have w1 := hV.m1
    have w8 := hV.m8
    have hlen : (rowV g).length = h := by rw [List.length_map]; exact hV.rc.1
    have rowL : ∀ i, i < h → (g.getD i []).length = w := fun i hi => by
      rw [List.getD_eq_getElem?_getD, List.getElem?_eq_getElem (by rw [hV.rc.1]; exact hi)]
      exact hV.rc.2 _ (List.getElem_mem _)
    have ixr : ∀ i, i < h → atI (rowV g) ((i : Nat) : Int) = some (V.str (S (g.getD i []))) := fun i hi => atI_nat (by
      rw [List.getElem?_map, List.getD_eq_getElem?_getD, List.getElem?_eq_getElem (by rw [hV.rc.1]; exact hi)]
      rfl)
    have ixc : ∀ i c, i < h → c < w → atI (S (g.getD i [])).cps.toList ((c : Nat) : Int) = some (cell g i c) := fun i c hi hc => atI_nat (by
      rw [S_list, List.getElem?_eq_getElem (by rw [rowL i hi]; exact hc)]
      unfold cell
      rw [List.getD_eq_getElem?_getD (l := g.getD i []), List.getElem?_eq_getElem (by rw [rowL i hi]; exact hc)]
      rfl)
    have oz : ∀ i, i < h → (S (g.getD i [])).length ≤ sizeLine := fun i hi => by
      rw [S_len, rowL i hi]
      show _ ≤ 16777216
      omega
    have fl : g.flatten.length = h * w := flatten_len hV.rc
    have hl1 := se _ _ hl
    refine ⟨_, rfl, l, _, rfl, .inl (SqL.of hl1), ((rowV g).length : Int), rfl, by omega, by omega, for_range (lo := 0) (n := (((rowV g).length : Nat) : Int).toNat) (fun r σ H1 => ∃ v2 v3 qa, σ = [some (.ref l), some (.ref e), v2, v3] ∧ Same H H1 ∧ MdAt H1 e w (fun m => g.flatten.idxOf m) (mb (g.flatten.take (r * w))) qa)
      ⟨none, none, fun _ => 0, rfl, se, by rw [Nat.zero_mul]; exact ⟨upd_same, fun m hm => (by simp [mb] at hm)⟩⟩ ?_ ?_⟩
    · rintro r σ H1 hr1 ⟨v2, v3, qa, rfl, s1, hM⟩
      rw [Int.toNat_natCast, hlen] at hr1
      rw [Int.zero_add]
      have hl2 := s1 _ _ hl
      refine ⟨_, rfl, l, _, _, _, rfl, rfl, SqL.of hl2, ixr 0 (by omega), _, rfl, oz 0 (by omega), ((S (g.getD 0 [])).length : Int), rfl, ?_, ?_, for_range (lo := 0) (n := (((S (g.getD 0 [])).length : Nat) : Int).toNat) (fun c σ H2 => ∃ v3 qa, σ = [some (.ref l), some (.ref e), some (.int (r : Nat)), v3] ∧ Same H H2 ∧ MdAt H2 e w (fun m => g.flatten.idxOf m) (mb (g.flatten.take (r * w + c))) qa)
        ⟨v3, qa, rfl, s1, hM⟩ ?_ ?_⟩
      · rw [S_len, rowL 0 (by omega)]
        omega
      · rw [S_len, rowL 0 (by omega)]
        omega
      · rintro c σ H2 hc ⟨v3, qa, rfl, s2, hM⟩
        rw [Int.toNat_natCast, S_len, rowL 0 (by omega)] at hc
        rw [Int.zero_add]
        have hl3 := s2 _ _ hl
        have hat := flat_at hV.rc hr1 hc
        have take1 : g.flatten.take (r * w + c + 1) = g.flatten.take (r * w + c) ++ [cell g r c] := by rw [List.take_add_one, hat]; rfl
        refine ⟨_, rfl, _, rfl, l, _, _, _, rfl, rfl, SqL.of hl3, ixr r hr1, _, rfl, S (g.getD r []), (c : Int), cell g r c, rfl, rfl, oz r hr1, ixc r c hr1 hc, rfl, _, rfl, ?_⟩
        by_cases q : cell g r c = 46
        · rw [show (!decide (V.str ⟨#[cell g r c]⟩ = V.str (Str.ofString "."))) = false by rw [q]; rfl]
          refine iteF ⟨_, qa, rfl, s2, ?_⟩
          rw [← Nat.add_assoc, take1, mb_snoc, if_pos q]
          exact hM
        · rw [show (!decide (V.str ⟨#[cell g r c]⟩ = V.str (Str.ofString "."))) = true by
            rw [decide_eq_false (fun z => q (by
              injection z with z
              injection z with z
              injection z with z
              injection z))]
            rfl]
          refine iteT ⟨_, rfl, _, rfl, (by show 2 ≤ sizeLine; decide), fun T_ hT => ?_⟩
          have sT := same_new (o := .tup [V.int (r : Nat), V.int (c : Nat)]) hT
          have lT : upd H2 T_ (.tup [V.int (r : Nat), V.int (c : Nat)]) T_ = some (.tup [V.int (r : Nat), V.int (c : Nat)]) := upd_same
          generalize upd H2 T_ (.tup [V.int (r : Nat), V.int (c : Nat)]) = H3 at sT lT
          have hM3 := hM.same sT
          have s3 := s2.trans sT
          have hl4 := s3 _ _ hl
          have cnew : cell g r c ∉ mb (g.flatten.take (r * w + c)) := fun hm => by
            have nd1 : (mb (g.flatten.take (r * w + c + 1))).Nodup := by
              have : (mb (g.flatten.take (r * w + c + 1) ++ g.flatten.drop (r * w + c + 1))).Nodup := by rw [List.take_append_drop]; exact hV.nd
              unfold mb at this ⊢
              rw [List.filter_append] at this
              exact (List.nodup_append.mp this).1
            rw [take1, mb_snoc, if_neg q] at nd1
            exact (List.nodup_append.mp nd1).2.2 _ hm _ (List.mem_singleton.mpr rfl) rfl
          obtain ⟨qn, hq1, hq2⟩ : ∃ qn : Nat → Addr, qn (cell g r c) = T_ ∧ ∀ m, m ≠ cell g r c → qn m = qa m := ⟨fun m => if m = cell g r c then T_ else qa m, if_pos rfl, fun m hm => if_neg hm⟩
          have hqe : ∀ {b : Addr} {xs : List V}, H3 b = some (.tup xs) → b ≠ e := fun z1 z => by
            rw [z, hM3.1] at z1
            cases z1
          refine ⟨_, rfl, _, rfl, _, rfl, l, _, _, _, rfl, rfl, SqL.of hl4, ixr r hr1, _, rfl, S (g.getD r []), (c : Int), cell g r c, rfl, rfl, oz r hr1, ixc r c hr1 hc, e, _, rfl, .inl ⟨_, Sum.inr (S [cell g r c]), hM3.1, rfl, ?_, rfl⟩, ?_⟩
          · unfold mkv
            rw [List.length_map]
            have : (mb (g.flatten.take (r * w + c))).length ≤ g.flatten.length := Nat.le_trans (List.length_filter_le _ _) (by rw [List.length_take]; omega)
            have h64 : h * w ≤ 64 := Nat.mul_le_mul h8 w8
            show _ < 16777216
            omega
          · refine ⟨_, qn, rfl, same_put s3 he, ?_, fun m hm => ?_⟩
            · rw [upd_same, putK_new _ (by
                unfold mkv
                exact valV_no fun m hm z => cnew (by rw [← key_inj z]; exact hm)), ← Nat.add_assoc, take1, mb_snoc, if_neg q]
              unfold mkv
              rw [List.map_append]
              congr 3
              · refine List.map_congr_left fun m hm => ?_
                rw [hq2 m (fun z => cnew (by rw [← z]; exact hm))]
              · simp [hq1]
            · rw [← Nat.add_assoc, take1, mb_snoc, if_neg q] at hm
              rcases List.mem_append.mp hm with hm | hm
              · rw [hq2 m (fun z => cnew (by rw [← z]; exact hm)), upd_ne (hqe (hM3.2 m hm))]
                exact hM3.2 m hm
              · rw [List.mem_singleton.mp hm, hq1, upd_ne (hqe lT)]
                show H3 T_ = some (.tup (plV w (g.flatten.idxOf (cell g r c))))
                rw [idx_uniq hV.nd q hat, plc_of hc]
                exact lT
      · rintro σ H2 ⟨v3, qa, rfl, s2, hM⟩
        refine ⟨_, _, qa, rfl, s2, ?_⟩
        rw [Int.toNat_natCast, S_len, rowL 0 (by omega)] at hM
        rw [Nat.succ_mul]
        exact hM
    · rintro σ H1 ⟨v2, v3, qa, rfl, s1, hM⟩
      rw [Int.toNat_natCast, hlen, ← fl, List.take_length] at hM
      exact ⟨_, rfl, k _ e qa s1 he hM⟩
end
end TR
end
namespace TR
end TR
section
set_option Elab.async false
set_option maxRecDepth 100000
set_option linter.all false
namespace TK
open PySem L2 TM
open PySem.Spec PyProof.Rows TH
/-- the script as the law finds it: locked, unless it is an object of the top -/
def scr (K : PySem.W.Frag) (a : Addr) (vs : List Value) (ns : List Int) : Hp := fun b => if b = a ∧ K.lookup a = none then some (.frz { cls := .type "list", data := .seq vs.toArray } (.lst (ns.map V.int))) else none
theorem scr_at {K : PySem.W.Frag} {a b : Addr} {vs : List Value} {ns : List Int} {u : HO} (h : scr K a vs ns b = some u) : b = a ∧ K.lookup a = none ∧ u = .frz { cls := .type "list", data := .seq vs.toArray } (.lst (ns.map V.int)) := by
  unfold scr at h
  split at h
  · rename_i c
    exact ⟨c.1, c.2, (Option.some.inj h).symm⟩
  · cases h
end TK
end
section
set_option Elab.async false
set_option maxRecDepth 100000
set_option linter.all false
namespace TK
open PySem PySem.W PySem.W.X PySem.Spec PyProof.Rows L2 TH
theorem ofPys_ints : ∀ ns : List Int, ofPys (ns.map PyData.int) = ns.map WData.int
  | [] => by simp [ofPys]
  | n :: ns => by
    rw [List.map_cons, List.map_cons, ofPys, ofPys_ints ns]
    rfl
end TK
end
section
set_option Elab.async false
set_option maxRecDepth 100000
set_option linter.all false
namespace TK
open PySem L2 TM
open PySem.Spec PyProof.Rows TH
def scrT (K : PySem.W.Frag) (a : Addr) (vs : List Value) (ns : List Int) (ts : List Addr) : Hp := fun b => if b ∈ ts then some (.tbl #[]) else scr K a vs ns b
theorem law_nT {P : Program} {w : World} {K : PySem.W.Frag} {mg mb : Str → Option Value} {n k : Nat} {fa a : Addr} {sp : Sp} {s₁ : Shared} {vs : List Value} {ns : List Int} {cs : List (Addr × Addr)}
    (KX : K.In s₁.heap) (hns : s₁.heap.Ns mainGlobals mg) (hb : s₁.heap.Ns builtinsNs mb) (hbb : ∀ x : Str, x ≠ "__name__" → mb x = bootBuiltins x) (hlim : s₁.heap.NoLimit) (hg : s₁.gens = #[]) (hn : n ≤ s₁.toks)
    (tabs : ∀ p ∈ cs, s₁.heap.get? p.2 = some { cls := .none, data := .fields #[] } ∧ K.lookup p.2 = none ∧ PySem.W.CodeHd s₁.heap p.1 p.2)
    (hbm : ∃ (bm : Addr) (ob : Obj), mg "__builtins__" = some (.ref bm) ∧ bm ≠ builtinsNs ∧ s₁.heap.get? bm = some ob ∧ ob.cls = .type "module" ∧ ob.dict = some builtinsNs ∧ ob.data = .plain)
    (ha : s₁.heap.get? a = some { cls := .type "list", data := .seq vs.toArray }) (hi : Vals (ns.map V.int) vs) (hl : ns.length ≤ sizeLine) (hr : Room k callerA)
    (F : ∀ base : Heap, K.In base → base.Ns mainGlobals mg → (∀ p ∈ cs, LamX.TabB base mg p.1 p.2) → FnRn n P w K mg base CX0 k fa sp)
    (hsp : ∀ H : Hp, (∀ p ∈ cs, H p.2 = some (.tbl #[])) → SqL K H a (ns.map V.int) → sp [.ref a] H (fun v _ => v = .bl true) fun _ _ _ => False) :
    codeAny (model P w) callerA (.call (.ref fa) ⟨[.ref a], []⟩) (fun r s' => r = .ok (.ret (.bool true)) ∧ OldK s₁.heap s'.heap ∧ s'.os = s₁.os ∧ AllBare s'.gens) s₁ := by
  have hvl : vs.length = ns.length := by rw [← hi.length, List.length_map]
  have inTs : ∀ {b : Addr}, b ∈ cs.map (·.2) → s₁.heap.get? b = some { cls := .none, data := .fields #[] } ∧ K.lookup b = none := fun {b} hb => by
    obtain ⟨p, hp, rfl⟩ := List.mem_map.mp hb
    exact ⟨(tabs p hp).1, (tabs p hp).2.1⟩
  have aNo : a ∉ cs.map (·.2) := fun z => by
    have := (inTs z).1
    rw [ha] at this
    cases this
  obtain ⟨H, hH⟩ : ∃ H, H = scrT K a vs ns (cs.map (·.2)) := ⟨_, rfl⟩
  have onT : ∀ {b : Addr}, b ∈ cs.map (·.2) → H b = some (.tbl #[]) := fun {b} z => by
    rw [hH]
    exact if_pos z
  have offT : ∀ {b : Addr}, b ∉ cs.map (·.2) → H b = scr K a vs ns b := fun {b} z => by
    rw [hH]
    exact if_neg z
  have seen : SqL K H a (ns.map V.int) := by
    cases hk : K.lookup a with
    | none => exact .inl (.inr ⟨_, (offT aNo).trans (if_pos ⟨rfl, hk⟩)⟩)
    | some o =>
      have e := KX a o hk
      rw [ha] at e
      cases e
      exact .inr ⟨_, vs.toArray, _, hk, rfl, rfl, rfl, by rw [List.size_toArray, hvl]; exact hl, by simpa using hi⟩
  have fine : HOk P w H s₁.heap := fun b u h => by
    by_cases z : b ∈ cs.map (·.2)
    · rw [onT z] at h
      cases h
      exact (inTs z).1
    · rw [offT z] at h
      obtain ⟨rfl, _, rfl⟩ := scr_at h
      exact ⟨ha, by rw [List.length_map]; exact hl, vs, _, hi, ha⟩
  have only : ∀ {b : Addr} {u : HO}, H b = some u → (b ∈ cs.map (·.2)) ∨ (b = a ∧ K.lookup a = none ∧ ∃ o xs, u = .frz o (.lst xs)) := fun {b u} h => by
    by_cases z : b ∈ cs.map (·.2)
    · exact .inl z
    · rw [offT z] at h
      obtain ⟨z1, z2, z3⟩ := scr_at h
      exact .inr ⟨z1, z2, _, _, z3⟩
  have tblAt : ∀ p ∈ cs, H p.2 = some (.tbl #[]) := fun p hp => onT (List.mem_map.mpr ⟨p, hp, rfl⟩)
  have free : ∀ {b : Addr} {o : Obj}, s₁.heap.get? b = some o → (∀ vs n, o.data ≠ .seq vs n) → o.data ≠ .fields #[] → H b = none := fun {b o} e h1 h2 => by
    cases hz : H b with
    | none => rfl
    | some u =>
      rcases only hz with z | ⟨rfl, _⟩
      · rw [(inTs z).1] at e
        cases e
        exact absurd rfl h2
      · rw [ha] at e
        cases e
        exact absurd rfl (h1 _ _)
  have dict : ∀ {b : Addr} {m : Str → Option Value}, s₁.heap.Ns b m → (hidT s₁.heap H).Ns b m := fun {b m} ⟨o, es, ep, e, d, q⟩ =>
    ⟨o, es, ep, hidT_get e (free e (fun _ _ z => by rw [d] at z; cases z) fun z => by rw [d] at z; cases z), d, q⟩
  have inB : K.In (hidT s₁.heap H) := fun b o e => hidT_get (KX b o e) (by
    cases hz : H b with
    | none => rfl
    | some u =>
      rcases only hz with z | ⟨rfl, z, _⟩
      · rw [(inTs z).2] at e
        cases e
      · rw [z] at e
        cases e)
  have TB : ∀ p ∈ cs, LamX.TabB (hidT s₁.heap H) mg p.1 p.2 := fun p hp => by
    obtain ⟨t1, t2, o, us, file, tf, flags, tg, inF, text, tt, e1, x1, x2, x3, x4, x5, x6, x7, x8, ne⟩ := tabs p hp
    refine ⟨⟨o, us, file, tf, flags, tg, inF, text, tt, hidT_get e1 (free e1 (fun _ _ z => by rw [x2] at z; cases z) fun z => ?_), x1, x2, x3, x4, x5, x6, x7, x8, ne⟩, ?_, fun z => ?_⟩
    · rw [x2] at z
      cases z
      simp at x3
    · obtain ⟨bm, ob, b1, b2, b3, b4, b5, b6⟩ := hbm
      refine ⟨bm, ob, b1, b2, fun z => ?_, fun z => ?_, hidT_get b3 (free b3 (fun _ _ z => by rw [b6] at z; cases z) fun z => by rw [b6] at z; cases z), b4, b5, b6⟩
      · obtain ⟨o', es, ep, e, hd, _⟩ := hns
        rw [z, e] at b3
        cases b3
        rw [hd] at b6
        cases b6
      · rw [z, t1] at b3
        cases b3
        cases b6
    · obtain ⟨o', es, ep, e, hd, _⟩ := hns
      rw [z, t1] at e
      cases e
      cases hd
  obtain ⟨mc, q1, q2⟩ := hlim
  have start : Env0 P w K mg (hidT s₁.heap H) callerA [] s₁ H := ⟨rfl, ⟨inB, dict hns, ⟨mb, dict hb, hbb⟩, mc, dict q1, q2⟩, fun b o e => of_hidT e, Nat.le_of_eq (hidT_size _ _), trivial, fun b z => absurd (show b ∈ ([] : List Addr) from z) (by simp), fine, .of_eq hg⟩
  refine codeAny_mono (F _ inB (dict hns) TB callerA [] s₁ H [.ref a] [.ref a] _ _ hn hr start (.cons rfl .nil) (hsp H tblAt seen)) fun r s' h => ?_
  cases r with
  | error e => exact False.elim h
  | ok fl =>
    cases fl with
    | next => exact False.elim h
    | brk => exact False.elim h
    | cont => exact False.elim h
    | ret u =>
      obtain ⟨v, H', os, bare, un, fine', rv, q⟩ := h
      obtain rfl : v = .bl true := q
      obtain rfl : u = Value.bool true := rv
      have same : ∀ b o, b ∉ cs.map (·.2) → s₁.heap.get? b = some o → s'.heap.get? b = some o := fun b o nb e => by
        cases hz : H b with
        | none => exact un.keep b o e hz (fun z => absurd (show b ∈ ([] : List Addr) from z) (by simp)) (by simp)
        | some u =>
          rcases only hz with z | ⟨_, _, ob, xs, rfl⟩
          · exact absurd z nb
          · have e1 := (fine b _ hz).1
            have e2 := (fine' b _ (un.frzs b ob _ hz)).1
            rw [e] at e1
            cases e1
            exact e2
      have more : ∀ p ∈ cs, ∃ ys : Array Value, s'.heap.get? p.2 = some { cls := .none, data := .fields ys } := fun p hp => by
        obtain ⟨ys, z⟩ := un.tbls p.2 #[] (tblAt p hp)
        exact ⟨_, fine' p.2 _ z⟩
      refine ⟨rfl, ⟨fun b o e => ?_, fun b o e => ?_⟩, os, bare⟩
      · by_cases hb : b ∈ cs.map (·.2)
        · obtain ⟨p, hp, rfl⟩ := List.mem_map.mp hb
          obtain ⟨ys, hys⟩ := more p hp
          obtain ⟨t1, _, t3⟩ := tabs p hp
          rw [t1] at e
          cases e
          exact .inr (.inl ⟨(t3.tab t1).isCodeTable, rfl, #[], ys, rfl, by rw [Array.empty_append]; exact hys⟩)
        · exact .inl (same b o hb e)
      · by_cases hb : b ∈ cs.map (·.2)
        · obtain ⟨p, hp, rfl⟩ := List.mem_map.mp hb
          obtain ⟨ys, hys⟩ := more p hp
          exact ⟨_, hys⟩
        · exact ⟨o, same b o hb e⟩
end TK
end
section
set_option Elab.async false
set_option maxRecDepth 100000
set_option linter.all false
namespace TR
open PySem PySem.Spec PyProof.Rows L2 TM TX TK TB TP TH TU TW
section
variable {X : Cx}
theorem zip_each {pins : List (Addr × Obj)} {σ : L2.St} {H : Hp} {s : Shared} (I : Inv X pins σ H s) : ∀ {ys : List V} {ds : List PyData} {vs : List Value}, DpAll X.K H ys ds → Vals ys vs →
    PySem.W.EachIs (fun v (b : V × PyData) => RelV b.1 v ∧ Dp X.K H b.1 b.2) vs (ys.zip ds) ∧ PySem.W.EachIs (fun v (b : V × PyData) => ∃ as, Reads s.heap v b.2 as) vs (ys.zip ds)
  | [], _, _, h, r => by
    cases h
    cases r
    exact ⟨.nil, .nil⟩
  | y :: ys, _, _, h, r => by
    cases h with
    | cons h1 h2 =>
      cases r with
      | cons r1 r2 =>
        obtain ⟨e1, e2⟩ := zip_each I h2 r2
        exact ⟨.cons ⟨r1, h1⟩ e1, .cons (Dp.reads I _ _ _ h1 r1) e2⟩
theorem each_vals {K : PySem.W.Frag} {H : Hp} : ∀ {vs : List Value} {bs : List (V × PyData)}, PySem.W.EachIs (fun v (b : V × PyData) => RelV b.1 v ∧ Dp K H b.1 b.2) vs bs → Vals (bs.map (·.1)) vs ∧ DpAll K H (bs.map (·.1)) (bs.map (·.2))
  | _, _, .nil => ⟨.nil, .nil⟩
  | _, _, .cons ⟨r, d⟩ t => by
    obtain ⟨e1, e2⟩ := each_vals t
    exact ⟨.cons r e1, .cons d e2⟩
theorem dp_len {K : PySem.W.Frag} {H : Hp} : ∀ {ys : List V} {ds : List PyData}, DpAll K H ys ds → ys.length = ds.length
  | [], _, h => by
    cases h
    rfl
  | _ :: ys, _, h => by
    cases h with
    | cons _ h2 =>
      rw [List.length_cons, List.length_cons, dp_len h2]
def rSortedDt (K : PySem.W.Frag) : List V → Hp → VK → Prop := fun xs H Q => ∃ (a : Addr) (ys : List V) (ds : List PyData), xs = [V.ref a] ∧ SqL K H a ys ∧ DpAll K H ys ds ∧ PySem.W.AllAlike ds ∧ PySem.W.Sortable ds ∧ (∀ d ∈ ds, d.depth ≤ 50) ∧
  ∀ (zs : List V) (p : Addr), DpAll K H zs (((ys.zip ds).mergeSort (PySem.W.dataLe false (·.2))).map (·.2)) → H p = none → Q (.ref p) (upd H p (.lst zs))
theorem cr_sortedDt (hu : X.A.units + 64 < cLine) : CallR X (.builtin "sorted") (rSortedDt X.K) := by
  intro pins s σ H xs us Q I r h
  obtain ⟨a, ys, ds, rfl, hs, hd, al, so, dep, q⟩ := h
  obtain ⟨its, rv, hl, hz⟩ := I.list hs
  rw [Vals.ref1 r]
  obtain ⟨e1, e2⟩ := zip_each I hd rv
  have em : (ys.zip ds).map (·.2) = ds := List.map_snd_zip (by rw [dp_len hd]; exact Nat.le_refl _)
  have ln : (ys.zip ds).length = ys.length := by rw [List.length_zip, dp_len hd, Nat.min_self]
  refine PySem.W.sorted_data (bs := ys.zip ds) (enc := (·.2)) hl.isList e1 e2 (by rw [em]; exact al) (by rw [em]; exact so) (by rw [ln]; exact hz) (fun b hb => ?_) fun out hlen ho => ?_
  · have := dep b.2 (by rw [← em]; exact List.mem_map.mpr ⟨b, hb, rfl⟩)
    omega
  · obtain ⟨f1, f2⟩ := each_vals ho
    obtain ⟨ep, he'⟩ := PyProof.Rows.sortedAll_at s.heap its out.toArray
    refine ⟨.ref _, upd H (s.heap.objs.size + 1) (.lst _), I.laid (t' := s.toks) (fun _ _ => PyProof.Rows.sortedAll_old) (Nat.le_succ _) ⟨?_, out, ep, f1, he'⟩, rfl, q _ _ f2 (I.hok.fresh (Nat.le_succ _))⟩
    rw [List.length_map, List.length_mergeSort, ln]
    exact hz
end
end TR
end
namespace TR
end TR
namespace TR
end TR
namespace TR
end TR
namespace TR
end TR
namespace TR
end TR
namespace TR
end TR
section
set_option Elab.async false
set_option maxRecDepth 100000
set_option linter.all false
namespace TK
open PySem PySem.W PySem.W.X PySem.Spec PyProof.Rows L2 TH
def lessT (K : Frag) (ts : List Addr) : Frag := K.filter fun e => decide (e.1 ∉ ts)
theorem lessT_look {ts : List Addr} {a : Addr} {o : Obj} : ∀ {K : Frag}, (lessT K ts).lookup a = some o → K.lookup a = some o
  | [], h => by cases h
  | (b, u) :: K, h => by
    unfold lessT at h
    by_cases q : b ∈ ts
    · rw [List.filter_cons_of_neg (by simp [q])] at h
      have h2 := lessT_look (K := K) (ts := ts) (a := a) (o := o) h
      by_cases e : a = b
      · subst e
        exfalso
        have : ∀ L : Frag, (L.filter fun e => decide (e.1 ∉ ts)).lookup a = none := fun L => by
          induction L with
          | nil => rfl
          | cons x L ih =>
            by_cases z : x.1 ∈ ts
            · rw [List.filter_cons_of_neg (by simp [z])]
              exact ih
            · rw [List.filter_cons_of_pos (by simp [z])]
              have ne : ¬ a = x.1 := fun y => z (by rw [← y]; exact q)
              rw [show x = (x.1, x.2) from rfl, List.lookup_cons, show (a == x.1) = false from by simpa using ne]
              exact ih
        rw [this K] at h
        cases h
      · show List.lookup a ((b, u) :: K) = some o
        rw [List.lookup_cons]
        have : (a == b) = false := by simpa using e
        rw [this]
        exact h2
    · rw [List.filter_cons_of_pos (by simp [q])] at h
      have h : List.lookup a ((b, u) :: lessT K ts) = some o := h
      show List.lookup a ((b, u) :: K) = some o
      rw [List.lookup_cons] at h ⊢
      cases e : a == b with
      | true =>
        rw [e] at h
        exact h
      | false =>
        rw [e] at h
        exact lessT_look h
theorem lessT_in {K : Frag} {ts : List Addr} {h : Heap} (X : K.In h) : (lessT K ts).In h := fun a o e => X a o (lessT_look e)
theorem end_nkT {l : OpenLaw} {w : World} {s₀ s₁ : Shared} {args : List WData} {vals : List Value} {as : List Addr} {fa : Addr} {K : PySem.W.Frag} {mg mb : Str → Option Value} {cl : Str → Option Addr} {mean : ExcName → Option Value} {tk n k : Nat} {sp : Sp} {cs : List (Addr × Addr)}
    (hr : Room k callerA) (hsp : ∀ (a : Addr) (ns : List Int) (H : Hp), (∀ p ∈ cs, H p.2 = some (.tbl #[])) → SqL K H a (ns.map V.int) → sp [.ref a] H (fun v _ => v = .bl true) fun _ _ _ => False)
    (hm : l.most = some 63) (KX : K.In s₁.heap) (hns : s₁.heap.Ns mainGlobals mg) (hb : s₁.heap.Ns builtinsNs mb) (hbb : ∀ x : Str, x ≠ "__name__" → mb x = bootBuiltins x) (hlim : s₁.heap.NoLimit) (hg : s₁.gens = #[])
    (hbm : ∃ (bm : Addr) (ob : Obj), mg "__builtins__" = some (.ref bm) ∧ bm ≠ builtinsNs ∧ s₁.heap.get? bm = some ob ∧ ob.cls = .type "module" ∧ ob.dict = some builtinsNs ∧ ob.data = .plain)
    (tabs : ∀ p ∈ cs, s₁.heap.get? p.2 = some { cls := .none, data := .fields #[] } ∧ K.lookup p.2 = none ∧ PySem.W.CodeHd s₁.heap p.1 p.2)
    (L : Laid l.row.toRowW.records w s₀ s₁ args vals as) (ZT : s₀.toks = tk) (hn : n ≤ tk) (hpre : l.row.toRowW.claim.pre args = true) (hwl : WellAll w.params s₁.heap vals args)
    (F : ∀ base : Heap, K.In base → base.Ns mainGlobals mg → (∀ p ∈ cs, LamX.TabB base mg p.1 p.2) → FnRn n l.row.toRowW.prog w K mg base CX0 k fa sp) :
    wpAny (model l.row.toRowW.prog w) callerA (PySem.call (.ref fa) vals) (fun v s' => GoodWG l.row.toRowW.claim cl mean args s₁ (.ok (.ret v)) s') (fun e s' => GoodWG l.row.toRowW.claim cl mean args s₁ (.error e) s') s₁ := by
  obtain ⟨a, vs, ns, rfl, rfl, hobj, hints, hlen⟩ := Att.script_of hm hpre hwl
  have hl63 : ns.length ≤ sizeLine := Nat.le_trans hlen (by decide)
  have L' : Laid l.row.toRowW.records w s₀ s₁ [ofPy (PyData.list (ns.map PyData.int))] [.ref a] as := by
    rw [show ofPy (PyData.list (ns.map PyData.int)) = WData.list (ns.map WData.int) by rw [ofPy, ofPys_ints]]
    exact L
  have run := law_nT (k := k) KX hns hb hbb hlim hg (Nat.le_trans hn (script_toks L' ZT)) tabs hbm hobj (vals_ints hints) hl63 hr F fun H h1 h2 => hsp a ns H h1 h2
  refine enter_call (codeAny_mono run fun r s' hq => ?_)
  obtain ⟨e1, h2, h3, h4⟩ := hq
  subst e1
  exact ⟨.inl ⟨.bool true, .bool true, [], rfl, fun _ => rfl, .bool true, Att.post_true l _, fun _ => ⟨List.Pairwise.nil, fun _ hm => (nomatch hm)⟩⟩, h2, h3, h4⟩
end TK
end
section
set_option Elab.async false
set_option maxRecDepth 100000
set_option linter.all false
namespace TA
open TK
open TK
open PySem PySem.Spec PyProof.Rows L2 LamX TX TK TM TB
end TA
end
section
set_option Elab.async false
set_option maxRecDepth 100000
set_option linter.all false
namespace TH
open PySem PySem.Spec PyProof.Rows L2
theorem fn_nE {CX : CXT} {P : Program} {w : World} {K : PySem.W.Frag} {mg : Str → Option Value} {base : Heap} {n k : Nat} {f : Addr} {x qual : Str} {st : Stmt} {N ps : List Str} {sp : Sp} {oc kV doc pm cdv ct : Value} {od an : Option Addr} {osl : Array (Option Value)} (lk : K.lookup f = some ⟨oc, od, .func (PySem.W.fnOf x qual (defArgs st) (defBody st) (defScope st) .none kV doc pm an cdv ct), osl⟩) (hcd : PySem.W.codeIn K cdv qual = true) (b : Binds K (PySem.W.fnOf x qual (defArgs st) (defBody st) (defScope st) .none kV doc pm an cdv ct) ps []) (S : FnScope N ps (defScope st)) (len : ∀ vs H Q E, sp vs H Q E → vs.length = ps.length)
    (hbody : ∀ (A : Around) (outer : List Env) (s : Shared) (H : Hp) (vs : List V) (Q : VK) (E : XK), Room k (A.deeper (envOfC qual (defScope st) s.heap.objs.size f cdv)) → sp vs H Q E →
      ∃ t, PSsn n (cxOf CX P w K mg base N qual (defScope st) f cdv A outer s H E).nox (defBody st) t ∧ t { nx := fun _ H' => Q .non H', rt := Q } (start N vs) H) : FnRn n P w K mg base CX (k + 1) f sp := by
  intro A outer s H us vs Q E hn hr e0 r hsp
  have hl : vs.length = ps.length := len vs H Q E hsp
  have KX : K.In s.heap := e0.mod.kin.keeps fun b o e => (e0.bs b o e).1
  have lim : s.heap.NoLimit := e0.mod.nolimit.keeps fun b o e => (e0.bs b o e).1
  have hkind : ∀ y ∈ ps.zip us, (defScope st).names.lookup y.1 = some .local ∨ ((defScope st).names.lookup y.1 = some .cell ∧ ((cellsFrom (s.heap.objs.size + 1) (defScope st).names []).lookup y.1).isSome = true) := fun ⟨m, v⟩ hy => by
    rcases S.par m (List.of_mem_zip hy).1 with q | q
    · exact .inl q
    · exact .inr ⟨q, PySem.W.cellsFrom_some _ _ _ (.inl q)⟩
  have hul : us.length = ps.length := by rw [← r.length]; exact hl
  have hb := b s us KX (by rw [List.append_nil]; exact hul)
  rw [List.append_nil] at hb
  refine codeAny_call_function hr.depth (KX _ _ lk) rfl S.co S.gen rfl (PySem.W.codeRec_of KX hcd) (hb _ _ _ _ ?_)
  refine wpAny_with_toks hn (wpAny_mono (wpAny_newFunctionEnv_cells (Q := fun env s1 => n ≤ s1.toks → _) S.kind hkind fun env he s1 x hn1 => ?_) (fun _ _ z => z) fun _ _ z _ => z)
  subst he
  refine ⟨lim.keeps x.toInCall.keep, codeAny_func ?_⟩
  obtain ⟨t, ht, hq⟩ := hbody A outer s H vs Q E (hr.deeper _) hsp
  have I : Inv (cxOf CX P w K mg base N qual (defScope st) f cdv A outer s H E) [] (start N vs) H s1 := inv_start S hr.hd e0 hl r x
  refine wpAny_mono (pssn_nox ht [] s1 (start N vs) H _ hn1 I hq) (fun fl s' hs => ?_) fun e s' hs => hs
  have fin : ∀ {σ' : L2.St} {H' : Hp} {v : V} {u : Value}, Inv (cxOf CX P w K mg base N qual (defScope st) f cdv A outer s H E) [] σ' H' s' → RelV v u → Q v H' → CE outer P w H s Q u s' :=
    fun {σ' H' v u} J rv q => ⟨v, H', J.os, J.bare, J.base, J.hok, rv, q⟩
  cases fl with
  | ret u =>
    obtain ⟨v, σ', H', J, rv, q⟩ := hs
    exact fin J rv q
  | next =>
    obtain ⟨σ', H', J, q⟩ := hs
    exact fin (v := V.non) (u := Value.none) J rfl q
  | brk =>
    obtain ⟨_, _, _, q⟩ := hs
    exact False.elim q
  | cont =>
    obtain ⟨_, _, _, q⟩ := hs
    exact False.elim q
end TH
namespace TQ
open PySem PySem.Spec PyProof.Rows L2 TH
section
variable {X : Cx} {n : Nat}
theorem op_eqDK {K : PySem.W.Frag} (hK : X.K = K) (hu : X.A.units + 64 < cLine) : OpR X (compareOp .Eq) (rEqD K) := by
  subst hK
  exact op_eqD hu
end
end TQ
namespace TU
open PySem L2 TM TK TB
open PySem.Spec PyProof.Rows TH
section
variable {P : Program} {w : World} {K : PySem.W.Frag} {mg : Str → Option Value} {base : Heap} {fT : Addr} {fdT : FuncData}
end
end TU
end
namespace TP
end TP
section
set_option Elab.async false
set_option maxRecDepth 100000
set_option linter.all false
namespace TR
open PySem PySem.Spec PyProof.Rows L2 TM TK TB TP TH TU TG GenW LamX TW
/-- a def's code object and its table -/
structure TabE (base : Heap) (mg : Str → Option Value) (T : List (Addr × Str)) (q : Str) (cW Pw : Addr) : Prop where
  tb : TabB base mg cW Pw
  tm : (Pw, q) ∈ T
  tu : ∀ p ∈ T, p.1 = Pw → p.2 = q
theorem sqt_ext {K : PySem.W.Frag} {H H' : Hp} {a : Addr} {xs : List V} (h : SqT K H a xs) (e : ExtN H H') : SqT K H' a xs := by
  rcases h with (h | ⟨o, h⟩) | h
  · exact .inl (.inl (e _ _ h fun ps z => (by cases z)))
  · exact .inl (.inr ⟨o, e _ _ h fun ps z => (by cases z)⟩)
  · exact .inr h
/-- what the searches use -/
structure FwF (P : Program) (w : World) (K : PySem.W.Frag) (mg : Str → Option Value) (base : Heap) (n : Nat) (D CU CP : Addr) : Prop where
  fFw : ∃ g fd, Fun K "_first_way" "_first_way" sFirstWay g fd ∧ L2.Binds K fd ["tray", "is_goal"] [] ∧ mg "_first_way" = some (.ref g)
  fSw : ∃ g, FnG n P w K mg base 6 g (spSw K D) ∧ mg "_shortest_ways" = some (.ref g) ∧ PySem.W.keepIn K (.ref g) = true
  fCm : ∃ g fd, FnOk P w K mg base CX0 4 g fd ["tray", "marble"] (spCm K D) ∧ PySem.W.keepIn K (.ref g) = true ∧ Binds K fd ["tray", "marble"] [] ∧ mg "check_marble" = some (.ref g)
  fCp : ∃ g fd, FnOk P w K mg base (L2.CX P w) 3 g fd ["tray", "place"] (spCp K D CP) ∧ PySem.W.keepIn K (.ref g) = true ∧ Binds K fd ["tray", "place"] [] ∧ mg "check_place" = some (.ref g)
  cCl : ∃ g, StX.CallO K D g ∧ FnR P w K mg base (L2.CX P w) 4 g (spCl K D CU)
section
variable {P : Program} {w_ : World} {K : PySem.W.Frag} {mg : Str → Option Value} {base : Heap} {n : Nat} {D CU CP cW pW : Addr} {T : List (Addr × Str)}
theorem ways_VG {h w : Nat} {g : Grid} (hV : VG h w g) {y : List Nat × Grid} (hy : y ∈ ways h w g) : VG h w y.2 ∧ (mb y.2.flatten).Perm (mb g.flatten) := by
  rw [(ways_ok.2.1 y hy).2]
  exact ⟨VG.tilts _ hV, (like_tilts _ hV.rc).pm⟩
abbrev NFp : List Str := ["tray", "marble", "place"]
theorem scFp : FnScope NFp ["tray", "marble", "place"] (defScope sFewestToPlace) := ⟨rfl, rfl, rfl, by decide +kernel, rfl, by decide +kernel, by decide +kernel⟩
def spFp (K : PySem.W.Frag) (D : Addr) (T : List (Addr × Str)) : Sp := fun vs H Q _ => ∃ (p q : Addr) (m h w k : Nat) (g : Grid), vs = [.ref p, sg m, .ref q] ∧ TrayAt K D H p g ∧ VG h w g ∧ Few h w g ∧ m ∈ mb g.flatten ∧ SqT K H q (plV w k) ∧ k < h * w ∧ Tabs T H ∧
  ∀ H', ExtN H H' → Tabs T H' → Q (wayV (ways h w g) fun y => decide (y.2.flatten.idxOf m = k)) H'
theorem extN_same {H H1 H2 : Hp} (a : ExtN H H1) (b : Same H1 H2) : ExtN H H2 := a.trans (ExtN.of b)
theorem same_extN {H H1 H2 : Hp} (a : Same H H1) (b : ExtN H1 H2) : ExtN H H2 := (ExtN.of a).trans b
theorem ok_fp {f : Addr} {oc kw doc pm ct : Value} {od an : Option Addr} {osl : Array (Option Value)} (lk : K.lookup f = some ⟨oc, od, .func (PySem.W.fnOf "fewest_to_place" "fewest_to_place" (defArgs sFewestToPlace) (defBody sFewestToPlace) (defScope sFewestToPlace) .none kw doc pm an (.ref cW) ct), osl⟩) (hcd : PySem.W.codeIn K (.ref cW) "fewest_to_place" = true)
    (b : Binds K (PySem.W.fnOf "fewest_to_place" "fewest_to_place" (defArgs sFewestToPlace) (defBody sFewestToPlace) (defScope sFewestToPlace) .none kw doc pm an (.ref cW) ct) ["tray", "marble", "place"] []) (L : FwF P w_ K mg base n D CU CP) (tb : TabE base mg T "fewest_to_place.<locals>.<lambda>" cW pW) :
    FnRn n P w_ K mg base CX0 9 f (spFp K D T) := by
  obtain ⟨gFw, fdFw, FFw, bFw, mFw⟩ := L.fFw
  obtain ⟨gSw, GSw, mSw, kSw⟩ := L.fSw
  obtain ⟨gCm, fdCm, GCm, kCm, bCm, mCm⟩ := L.fCm
  obtain ⟨gCp, fdCp, GCp, kCp, bCp, mCp⟩ := L.fCp
  obtain ⟨gCl, CO, GC⟩ := L.cCl
  refine fn_nE lk hcd b scFp (fun vs H Q E h => ?_) fun A outer s H vs Q E hr h => ?_
  · obtain ⟨p, q, m, h, w, k, g, rfl, _⟩ := h
    rfl
  · obtain ⟨p, q, m, h, w, k, g, rfl, T0, hV, hF, hm, hq, hk, hT, kk⟩ := h
    refine ⟨_, pssn_cons (PS.up (ps_expr (pe_call GCm (hr.mono (by decide)) rfl mCm kCm bCm .nil pass0 (pa_cons (pv 0) (pa_cons (pv 1) pa_nil)))))
      (pssn_cons (PS.up (ps_expr (pe_call GCp (hr.mono (by decide)) rfl mCp kCp bCp .nil passL (pa_cons (pv 0) (pa_cons (pv 2) pa_nil)))))
      (pssn_one (psn_ret (pen_fw rfl FFw bFw mFw rfl GSw mSw kSw tb.tb rfl tb.tm tb.tu hr (show LamS1 (defScope sFewestToPlace) _ "reached" from lamS1_by (by decide +kernel)) (show ("reached" : Str) ∉ NFp by decide) rfl (fun _ _ _ _ _ _ => rfl)
        (fun A outer s H f c' hr' => pe_cmpR (TQ.op_eqDK (K := K) rfl hr'.units) (pe_callO (pv 3) CO GC (hr'.mono (by decide)) passL (pa_cons (pv 1) pa_nil)) (pv 2) (nomark _)) (pv 0))))), ?_⟩
    have hw1 := hV.m1
    refine ⟨_, rfl, _, rfl, p, m, h, w, g, rfl, T0, hV, hm, fun H1 s1 => ?_⟩
    have q1 := s1.tup hq
    refine ⟨_, rfl, _, rfl, p, _, h, w, g, rfl, T0.same s1, hV, .inl ⟨q, k / w, k % w, rfl, by exact q1, (Nat.div_lt_iff_lt_mul hw1).mpr hk, Nat.mod_lt _ hw1, ?_⟩⟩
    refine ⟨_, rfl, p, h, w, g, rfl, T0.same s1, hV, hF, hT.ext s1, fun H2 e2 t2 T2 => ⟨fun y => decide (y.2.flatten.idxOf m = k), fun H3 r y Q' hy s3 hR fin => ?_, fun H3 s3 => kk H3 (extN_same (same_extN s1 e2) s3) (t2.ext s3)⟩⟩
    obtain ⟨Vy, pmy⟩ := ways_VG hV hy
    obtain ⟨dr, ar, er, _⟩ := id hR
    refine ⟨_, rfl, r, rfl, _, rfl, ⟨dr, _, er⟩, call_ok hR Vy (pmy.mem_iff.mpr hm) fun H4 r2 s4 h4 e4 => ?_⟩
    have q4 : SqT K H4 q (plV w k) := s4.tup (s3.tup (sqt_ext q1 e2))
    refine ⟨_, rfl, plD w (y.2.flatten.idxOf m), plD w k, pl_dp e4, .tup q4 (.cons (.int _) (.cons (.int _) .nil)), pl_shaped _ _, pl_shaped _ _, ?_⟩
    rw [pl_eqv]
    exact fin H4 s4
end
end TR
namespace TR
open PySem PySem.Spec PyProof.Rows L2 TM TK TB TP TH TU TG GenW LamX TW
theorem op_cmpOwnK {X : Cx} {CX : CXT} {K : PySem.W.Frag} {n : Nat} {C g : Addr} {sp : Sp} {E : XK} {op : CmpOp} (hK : X.K = K) (hop : ∀ a b, compareOp op a b = richCompare op a b) (hs : PySem.W.findIn K (.ref C) (cmpInfo op).2.1 = some (some (.ref g))) (hf : PySem.W.isFn K (.ref g) = true) (F : FnR X.prog X.w K X.mg X.base CX n g sp)
    (hr : Room n X.A) (hx : Passes CX X E) : OpR X (compareOp op) (rCmpOwn K C sp E) := by
  subst hK
  exact op_cmpOwn hop hs hf F hr hx
section
variable {P : Program} {w_ : World} {K : PySem.W.Frag} {mg : Str → Option Value} {base : Heap} {n : Nat} {D CU CP cW pW fAn fTe : Addr} {fdAn : FuncData} {T : List (Addr × Str)}
def absI (i : Int) : Int := if i < 0 then -i else i
/-- side by side -/
def near (w a b : Nat) : Bool := decide (absI ((a : Int) / w - (b : Int) / w) + absI ((a : Int) % w - (b : Int) % w) = 1)
abbrev NAn : List Str := ["place", "other"]
theorem scAn : FnScope NAn ["place", "other"] (defScope sAreNeighbours) := ⟨rfl, rfl, rfl, by decide +kernel, rfl, by decide +kernel, by decide +kernel⟩
def spAn : Sp := fun vs H Q _ => ∃ (q r : Addr) (w a b : Nat), vs = [.ref q, .ref r] ∧ H q = some (.tup (plV w a)) ∧ H r = some (.tup (plV w b)) ∧ Q (.bl (near w a b)) H
theorem ok_an {f : Addr} {fd : FuncData} (F : Fun K "_are_neighbours" "_are_neighbours" sAreNeighbours f fd) (habs : mg "abs" = none) : FnOk P w_ K mg base CX0 1 f fd ["place", "other"] spAn := by
  refine F.ok scAn (fun vs H Q E h => ?_) (fun cdv A outer s H vs Q E hr h => ?_)
  · obtain ⟨q, r, w, a, b, rfl, _⟩ := h
    rfl
  · obtain ⟨q, r, w, a, b, rfl, hq, hr2, k⟩ := h
    refine ⟨_, pss_one (ps_ret (pe_cmpR op_eq (pe_op op_add (pe_callB call_abs (by rfl) habs (by decide +kernel) (pa_cons (pe_op op_sub (pe_ix ix_tup (pv 0) pe_int (fun _ _ => rfl)) (pe_ix ix_tup (pv 1) pe_int (fun _ _ => rfl))) pa_nil))
      (pe_callB call_abs (by rfl) habs (by decide +kernel) (pa_cons (pe_op op_sub (pe_ix ix_tup (pv 0) pe_int (fun _ _ => rfl)) (pe_ix ix_tup (pv 1) pe_int (fun _ _ => rfl))) pa_nil))) pe_int (nomark _))), ?_⟩
    have sq := SqT.of (K := K) hq
    have sr := SqT.of (K := K) hr2
    refine ⟨_, rfl, q, _, 0, _, rfl, rfl, sq, rfl, _, rfl, r, _, 0, _, rfl, rfl, sr, rfl, ?_⟩
    refine ⟨_, _, rfl, rfl, _, rfl, _, rfl, q, _, 1, _, rfl, rfl, sq, rfl, _, rfl, r, _, 1, _, rfl, rfl, sr, rfl, ?_⟩
    refine ⟨_, _, rfl, rfl, _, rfl, _, _, rfl, rfl, rfl, ?_⟩
    have e : (decide (V.int (absI ((a : Int) / w - (b : Int) / w) + absI ((a : Int) % w - (b : Int) % w)) = V.int 1)) = near w a b := by
      unfold near
      by_cases z : absI ((a : Int) / w - (b : Int) / w) + absI ((a : Int) % w - (b : Int) % w) = 1
      · rw [decide_eq_true z, z]
        rfl
      · rw [decide_eq_false z, decide_eq_false fun y => z (V.int.inj y)]
    have k2 : Q (.bl (decide (V.int (absI ((a : Int) / w - (b : Int) / w) + absI ((a : Int) % w - (b : Int) % w)) = V.int 1))) H := by
      rw [e]
      exact k
    exact k2
def spFm (K : PySem.W.Frag) (D : Addr) (T : List (Addr × Str)) : Sp := fun vs H Q _ => ∃ (p : Addr) (m m' h w : Nat) (g : Grid), vs = [.ref p, sg m, sg m'] ∧ TrayAt K D H p g ∧ VG h w g ∧ Few h w g ∧ m ∈ mb g.flatten ∧ m' ∈ mb g.flatten ∧ m ≠ m' ∧ Tabs T H ∧
  ∀ H', ExtN H H' → Tabs T H' → Q (wayV (ways h w g) fun y => near w (y.2.flatten.idxOf m) (y.2.flatten.idxOf m')) H'
abbrev NFm : List Str := ["tray", "one", "other"]
theorem scFm : FnScope NFm ["tray", "one", "other"] (defScope sFewestToMeet) := ⟨rfl, rfl, rfl, by decide +kernel, rfl, by decide +kernel, by decide +kernel⟩
theorem ok_fm {f : Addr} {oc kw doc pm ct : Value} {od an : Option Addr} {osl : Array (Option Value)} (lk : K.lookup f = some ⟨oc, od, .func (PySem.W.fnOf "fewest_to_meet" "fewest_to_meet" (defArgs sFewestToMeet) (defBody sFewestToMeet) (defScope sFewestToMeet) .none kw doc pm an (.ref cW) ct), osl⟩) (hcd : PySem.W.codeIn K (.ref cW) "fewest_to_meet" = true)
    (b : Binds K (PySem.W.fnOf "fewest_to_meet" "fewest_to_meet" (defArgs sFewestToMeet) (defBody sFewestToMeet) (defScope sFewestToMeet) .none kw doc pm an (.ref cW) ct) ["tray", "one", "other"] []) (L : FwF P w_ K mg base n D CU CP) (tb : TabE base mg T "fewest_to_meet.<locals>.<lambda>" cW pW)
    (GA : FnOk P w_ K mg base CX0 1 fAn fdAn ["place", "other"] spAn) (kA : PySem.W.keepIn K (.ref fAn) = true) (bA : Binds K fdAn ["place", "other"] []) (mA : mg "_are_neighbours" = some (.ref fAn)) :
    FnRn n P w_ K mg base CX0 9 f (spFm K D T) := by
  obtain ⟨gFw, fdFw, FFw, bFw, mFw⟩ := L.fFw
  obtain ⟨gSw, GSw, mSw, kSw⟩ := L.fSw
  obtain ⟨gCm, fdCm, GCm, kCm, bCm, mCm⟩ := L.fCm
  obtain ⟨gCl, CO, GC⟩ := L.cCl
  refine fn_nE lk hcd b scFm (fun vs H Q E h => ?_) fun A outer s H vs Q E hr h => ?_
  · obtain ⟨p, m, m', h, w, g, rfl, _⟩ := h
    rfl
  · obtain ⟨p, m, m', h, w, g, rfl, T0, hV, hF, hm, hm', ne, hT, kk⟩ := h
    refine ⟨_, pssn_cons (PS.up (ps_expr (pe_call GCm (hr.mono (by decide)) rfl mCm kCm bCm .nil pass0 (pa_cons (pv 0) (pa_cons (pv 1) pa_nil)))))
      (pssn_cons (PS.up (ps_expr (pe_call GCm (hr.mono (by decide)) rfl mCm kCm bCm .nil pass0 (pa_cons (pv 0) (pa_cons (pv 2) pa_nil)))))
      (pssn_cons (PS.up (ps_if (pt_cmpR op_eq (pv 1) (pv 2) (nomark _)) pss_never pss_nil))
      (pssn_one (psn_ret (pen_fw rfl FFw bFw mFw rfl GSw mSw kSw tb.tb rfl tb.tm tb.tu hr (show LamS1 (defScope sFewestToMeet) _ "reached" from lamS1_by (by decide +kernel)) (show ("reached" : Str) ∉ NFm by decide) rfl (fun _ _ _ _ _ _ => rfl)
        (fun A outer s H f c' hr' => pe_call GA (hr'.mono (by decide)) rfl mA kA bA .nil pass0 (pa_cons (pe_callO (pv 3) CO GC (hr'.mono (by decide)) passL (pa_cons (pv 1) pa_nil)) (pa_cons (pe_callO (pv 3) CO GC (hr'.mono (by decide)) passL (pa_cons (pv 2) pa_nil)) pa_nil))) (pv 0)))))), ?_⟩
    refine ⟨_, rfl, _, rfl, p, m, h, w, g, rfl, T0, hV, hm, fun H1 s1 => ?_⟩
    refine ⟨_, rfl, _, rfl, p, m', h, w, g, rfl, T0.same s1, hV, hm', fun H2 s2 => ?_⟩
    have s12 := s1.trans s2
    refine ⟨_, rfl, _, rfl, rfl, ?_⟩
    rw [show decide (sg m = sg m') = false from decide_eq_false fun z => ne (by have := S_inj (V.str.inj z); simpa using this)]
    refine ⟨_, rfl, iteF ?_⟩
    refine ⟨_, rfl, p, h, w, g, rfl, T0.same s12, hV, hF, hT.ext s12, fun H3 e3 t3 T3 => ⟨fun y => near w (y.2.flatten.idxOf m) (y.2.flatten.idxOf m'), fun H4 r y Q' hy s4 hR fin => ?_, fun H4 s4 => kk H4 (extN_same (same_extN s12 e3) s4) (t3.ext s4)⟩⟩
    obtain ⟨Vy, pmy⟩ := ways_VG hV hy
    obtain ⟨dr, ar, er, _⟩ := id hR
    refine ⟨_, rfl, r, rfl, _, rfl, ⟨dr, _, er⟩, call_ok hR Vy (pmy.mem_iff.mpr hm) fun H5 r2 s5 h5 e5 => ?_⟩
    have R5 := hR.same s5
    obtain ⟨dr5, ar5, er5, _⟩ := id R5
    refine ⟨_, rfl, r, rfl, _, rfl, ⟨dr5, _, er5⟩, call_ok R5 Vy (pmy.mem_iff.mpr hm') fun H6 r3 s6 h6 e6 => ?_⟩
    exact ⟨r2, r3, w, _, _, rfl, s6 _ _ e5, e6, fin H6 (s5.trans s6)⟩
def spFt (K : PySem.W.Frag) (D : Addr) (T : List (Addr × Str)) : Sp := fun vs H Q _ => ∃ (p q : Addr) (h w h' w' : Nat) (g g' : Grid), vs = [.ref p, .ref q] ∧ TrayAt K D H p g ∧ VG h w g ∧ Few h w g ∧ TrayAt K D H q g' ∧ VG h' w' g' ∧ Tabs T H ∧
  ∀ H', ExtN H H' → Tabs T H' → Q (wayV (ways h w g) fun y => decide (y.2 = g')) H'
abbrev NFt : List Str := ["tray", "goal"]
theorem scFt : FnScope NFt ["tray", "goal"] (defScope sFewestToTray) := ⟨rfl, rfl, rfl, by decide +kernel, rfl, by decide +kernel, by decide +kernel⟩
theorem ok_ft {f : Addr} {oc kw doc pm ct : Value} {od an : Option Addr} {osl : Array (Option Value)} (lk : K.lookup f = some ⟨oc, od, .func (PySem.W.fnOf "fewest_to_tray" "fewest_to_tray" (defArgs sFewestToTray) (defBody sFewestToTray) (defScope sFewestToTray) .none kw doc pm an (.ref cW) ct), osl⟩) (hcd : PySem.W.codeIn K (.ref cW) "fewest_to_tray" = true)
    (b : Binds K (PySem.W.fnOf "fewest_to_tray" "fewest_to_tray" (defArgs sFewestToTray) (defBody sFewestToTray) (defScope sFewestToTray) .none kw doc pm an (.ref cW) ct) ["tray", "goal"] []) (L : FwF P w_ K mg base n D CU CP) (tb : TabE base mg T "fewest_to_tray.<locals>.<lambda>" cW pW)
    (hE : PySem.W.findIn K (.ref D) "__eq__" = some (some (.ref fTe))) (iE : PySem.W.isFn K (.ref fTe) = true) (GTe : FnR P w_ K mg base CX0 1 fTe (spTe K D)) : FnRn n P w_ K mg base CX0 9 f (spFt K D T) := by
  obtain ⟨gFw, fdFw, FFw, bFw, mFw⟩ := L.fFw
  obtain ⟨gSw, GSw, mSw, kSw⟩ := L.fSw
  refine fn_nE lk hcd b scFt (fun vs H Q E h => ?_) fun A outer s H vs Q E hr h => ?_
  · obtain ⟨p, q, h, w, h', w', g, g', rfl, _⟩ := h
    rfl
  · obtain ⟨p, q, h, w, h', w', g, g', rfl, T0, hV, hF, Tq, Vq, hT, kk⟩ := h
    refine ⟨_, pssn_one (psn_ret (pen_fw rfl FFw bFw mFw rfl GSw mSw kSw tb.tb rfl tb.tm tb.tu hr (show LamS1 (defScope sFewestToTray) _ "reached" from lamS1_by (by decide +kernel)) (show ("reached" : Str) ∉ NFt by decide) rfl (fun _ _ _ _ _ _ => rfl)
        (fun A outer s H f c' hr' => pe_cmpR (op_cmpOwnK (K := K) (op := .Eq) rfl (fun _ _ => rfl) hE iE GTe (hr'.mono (by decide)) pass0) (pv 2) (pv 1) (nomark _)) (pv 0))), ?_⟩
    refine ⟨_, rfl, p, h, w, g, rfl, T0, hV, hF, hT, fun H3 e3 t3 T3 => ⟨fun y => decide (y.2 = g'), fun H4 r y Q' hy s4 hR fin => ?_, fun H4 s4 => kk H4 (extN_same e3 s4) (t3.ext s4)⟩⟩
    obtain ⟨Vy, _⟩ := ways_VG hV hy
    obtain ⟨dr, ar, er, _⟩ := id hR
    have T4 := (tray_extN Tq e3).same s4
    obtain ⟨dq, aq, eq, _⟩ := id T4
    exact ⟨_, rfl, _, rfl, r, dr, _, rfl, er, .inl ⟨q, dq, _, rfl, eq⟩, r, q, h, w, h', w', _, _, rfl, hR, T4, Vy, Vq, fin H4 (Same.refl H4)⟩
end
end TR
end
namespace TR
end TR
namespace TR
end TR
namespace TR
end TR
namespace TR
end TR
section
set_option maxHeartbeats 4000000
set_option linter.all false
namespace TM
theorem val_cons (x : Nat) (a : List Nat) : val (x :: a) = x * 128 ^ a.length + val a := by
  revert x
  refine snoc_rec (p := fun a => ∀ x, val (x :: a) = x * 128 ^ a.length + val a) (fun x => ?_) (fun u c ih x => ?_) a
  · show 0 * 128 + x = x * 1 + 0
    omega
  · have e := val_snoc (x :: u) c
    rw [List.cons_append] at e
    rw [e, ih x, val_snoc, List.length_append, Nat.add_mul, Nat.mul_assoc]
    show x * (128 ^ u.length * 128) + val u * 128 + c = x * 128 ^ (u.length + 1) + (val u * 128 + c)
    rw [Nat.pow_succ]
    omega
/-- of two words of one length the alphabet decides -/
theorem lex_val : ∀ (a b : List Nat), (∀ c ∈ a, T4 c) → (∀ c ∈ b, T4 c) → a.length = b.length → (a < b ↔ val a < val b)
  | [], [], _, _, _ => by simp [val]
  | [], _ :: _, _, _, e => nomatch e
  | _ :: _, [], _, _, e => nomatch e
  | x :: a, y :: b, ha, hb, e => by
    have e2 : a.length = b.length := by simpa using e
    have ih := lex_val a b (fun c h => ha c (List.mem_cons_of_mem _ h)) (fun c h => hb c (List.mem_cons_of_mem _ h)) e2
    have b1 := (val_bd a fun c h => ha c (List.mem_cons_of_mem _ h)).1
    have b2 := (val_bd b fun c h => hb c (List.mem_cons_of_mem _ h)).1
    rw [val_cons, val_cons, List.cons_lt_cons_iff, ih, e2]
    rw [e2] at b1
    generalize 128 ^ b.length = B at b1 b2
    constructor
    · rintro (h | ⟨rfl, h⟩)
      · have : (x + 1) * B ≤ y * B := Nat.mul_le_mul_right _ h
        rw [Nat.add_mul] at this
        omega
      · omega
    · intro h
      rcases Nat.lt_trichotomy x y with z | z | z
      · exact .inl z
      · subst z
        exact .inr ⟨rfl, by omega⟩
      · have : (y + 1) * B ≤ x * B := Nat.mul_le_mul_right _ z
        rw [Nat.add_mul] at this
        omega
section
variable {h w : Nat} {g : Grid}
/-- a tray's word in the order of the searches is the least that leads there -/
theorem ways_least (R : Rect h w g) (F : Few h w g) {u : List Nat} {x : Grid} (hm : (u, x) ∈ ways h w g) : (∀ c ∈ u, T4 c) ∧ tilts h w u g = x ∧ ∀ t, (∀ c ∈ t, T4 c) → tilts h w t g = x → val u ≤ val t := by
  obtain ⟨o1, o2⟩ := ways_ok.2.1 _ hm
  refine ⟨o1, o2.symm, fun t ht e => ?_⟩
  obtain ⟨y, hy, e1, e2⟩ := ways_all R F t ht
  have : y = (u, x) := by
    have nd := ways_ok (n := h) (m := w) (g := g) |>.2.2.1
    have hz : y.2 = x := e1.trans e
    obtain ⟨i, hi⟩ := List.getElem?_of_mem hy
    obtain ⟨j, hj⟩ := List.getElem?_of_mem hm
    have h1 : ((ways h w g).map (·.2))[i]? = some x := by rw [List.getElem?_map, hi]; exact congrArg some hz
    have h2 : ((ways h w g).map (·.2))[j]? = some x := by rw [List.getElem?_map, hj]; rfl
    have hl := (List.getElem?_eq_some_iff.mp h1).1
    have := (List.getElem?_inj hl nd).mp (h1.trans h2.symm)
    subst this
    exact Option.some.inj (hi.symm.trans hj)
  rw [this] at e2
  exact e2
theorem ways_uniq (R : Rect h w g) (F : Few h w g) {u v : List Nat} {x : Grid} (hu : (u, x) ∈ ways h w g) (hv : (v, x) ∈ ways h w g) : u = v := by
  obtain ⟨a1, a2, a3⟩ := ways_least R F hu
  obtain ⟨b1, b2, b3⟩ := ways_least R F hv
  exact val_inj u v a1 b1 (Nat.le_antisymm (a3 v b1 b2) (b3 u a1 a2))
theorem ways_to (R : Rect h w g) (F : Few h w g) {t : List Nat} (ht : ∀ c ∈ t, T4 c) : ∃ u, (u, tilts h w t g) ∈ ways h w g ∧ val u ≤ val t := by
  obtain ⟨y, hy, e1, e2⟩ := ways_all R F t ht
  exact ⟨y.1, by rw [← e1]; exact hy, e2⟩
theorem tilts_one (u : List Nat) (c : Nat) : tilts h w (u ++ [c]) g = tilt h w (tilts h w u g) c := by
  unfold tilts
  rw [List.foldl_append]
  rfl
theorem T4_app {u : List Nat} {c : Nat} (hu : ∀ x ∈ u, T4 x) (hc : T4 c) : ∀ x ∈ u ++ [c], T4 x := fun x hx => by
  rcases List.mem_append.mp hx with h | h
  · exact hu x h
  · rw [List.mem_singleton.mp h]
    exact hc
theorem ways_len_le {u v : List Nat} (hu : ∀ x ∈ u, T4 x) (hv : ∀ x ∈ v, T4 x) (e : val u ≤ val v) : u.length ≤ v.length := Nat.le_of_not_lt fun z => by
  have := val_shorter hv hu z
  omega
/-- the shortest word to a tray ends with a shortest word -/
theorem ways_pre (R : Rect h w g) (F : Few h w g) {u : List Nat} {c : Nat} {x : Grid} (hm : (u ++ [c], x) ∈ ways h w g) : T4 c ∧ ∃ y, (u, y) ∈ ways h w g ∧ tilt h w y c = x := by
  obtain ⟨a1, a2, a3⟩ := ways_least R F hm
  have hu : ∀ z ∈ u, T4 z := fun z hz => a1 z (List.mem_append_left _ hz)
  have hc : T4 c := a1 c (List.mem_append_right _ List.mem_cons_self)
  obtain ⟨v, hv, le⟩ := ways_to (g := g) R F hu
  obtain ⟨b1, b2, b3⟩ := ways_least R F hv
  have e : tilts h w (v ++ [c]) g = x := by rw [tilts_one, b2, ← tilts_one, a2]
  have z := a3 (v ++ [c]) (T4_app b1 hc) e
  rw [val_snoc, val_snoc] at z
  have : u = v := val_inj u v hu b1 (by omega)
  subst this
  exact ⟨hc, _, hv, by rw [← tilts_one]; exact a2⟩
abbrev Paths := List (Grid × List Nat)
def lkG (F : Paths) (x : Grid) : Option (List Nat) := (F.find? fun z => decide (z.1 = x)).map (·.2)
def putG (F : Paths) (x : Grid) (p : List Nat) : Paths := if (F.any fun z => decide (z.1 = x)) = true then F.map (fun z => if z.1 = x then (x, p) else z) else F ++ [(x, p)]
theorem lkG_some {F : Paths} (nd : (F.map (·.1)).Nodup) {x : Grid} {p : List Nat} : lkG F x = some p ↔ (x, p) ∈ F := by
  induction F with
  | nil => simp [lkG]
  | cons z F ih =>
    obtain ⟨y, q⟩ := z
    rw [List.map_cons, List.nodup_cons] at nd
    have ih := ih nd.2
    unfold lkG at ih ⊢
    rw [List.find?_cons]
    by_cases e : y = x
    · subst e
      simp only [decide_true, Option.map_some]
      constructor
      · intro e
        cases e
        exact List.mem_cons_self
      · intro hm
        rcases List.mem_cons.mp hm with e | hm
        · cases e
          rfl
        · exact absurd (List.mem_map.mpr ⟨_, hm, rfl⟩) nd.1
    · simp only [decide_eq_false e]
      rw [ih]
      constructor
      · exact fun hm => List.mem_cons_of_mem _ hm
      · intro hm
        rcases List.mem_cons.mp hm with z | hm
        · cases z
          exact absurd rfl e
        · exact hm
theorem lkG_none {F : Paths} {x : Grid} : lkG F x = none ↔ x ∉ F.map (·.1) := by
  unfold lkG
  rw [Option.map_eq_none_iff, List.find?_eq_none]
  constructor
  · intro hh hm
    obtain ⟨z, hz, rfl⟩ := List.mem_map.mp hm
    exact hh z hz (decide_eq_true rfl)
  · intro hh z hz e
    exact hh (List.mem_map.mpr ⟨z, hz, of_decide_eq_true e⟩)
theorem any_key {F : Paths} {x : Grid} : (F.any fun z => decide (z.1 = x)) = decide (x ∈ F.map (·.1)) := by
  rw [Bool.eq_iff_iff, List.any_eq_true, decide_eq_true_eq, List.mem_map]
  constructor
  · rintro ⟨z, hz, e⟩
    exact ⟨z, hz, of_decide_eq_true e⟩
  · rintro ⟨z, hz, e⟩
    exact ⟨z, hz, decide_eq_true e⟩
theorem putG_keys {F : Paths} {x : Grid} {p : List Nat} : (putG F x p).map (·.1) = if x ∈ F.map (·.1) then F.map (·.1) else F.map (·.1) ++ [x] := by
  unfold putG
  rw [any_key]
  by_cases e : x ∈ F.map (·.1)
  · rw [if_pos (decide_eq_true e), if_pos e, List.map_map]
    refine List.map_congr_left fun z _ => ?_
    show (if z.1 = x then (x, p) else z).1 = z.1
    split
    · rename_i q
      exact q.symm
    · rfl
  · rw [if_neg (by simpa using e), if_neg e, List.map_append]
    rfl
theorem putG_nd {F : Paths} (nd : (F.map (·.1)).Nodup) {x : Grid} {p : List Nat} : ((putG F x p).map (·.1)).Nodup := by
  rw [putG_keys]
  split
  · exact nd
  · rename_i e
    exact List.nodup_append.mpr ⟨nd, List.nodup_cons.mpr ⟨List.not_mem_nil, List.nodup_nil⟩, fun a ha b hb z => e (by rw [List.mem_singleton.mp hb] at z; rw [← z]; exact ha)⟩
theorem putG_mem {F : Paths} {x y : Grid} {p q : List Nat} : (y, q) ∈ putG F x p ↔ (y = x ∧ q = p) ∨ (y ≠ x ∧ (y, q) ∈ F) := by
  unfold putG
  rw [any_key]
  by_cases e : x ∈ F.map (·.1)
  · rw [if_pos (decide_eq_true e), List.mem_map]
    constructor
    · rintro ⟨z, hz, e2⟩
      by_cases q2 : z.1 = x
      · rw [if_pos q2] at e2
        cases e2
        exact .inl ⟨rfl, rfl⟩
      · rw [if_neg q2] at e2
        subst e2
        exact .inr ⟨q2, hz⟩
    · rintro (⟨rfl, rfl⟩ | ⟨h1, h2⟩)
      · obtain ⟨z, hz, e3⟩ := List.mem_map.mp e
        exact ⟨z, hz, if_pos e3⟩
      · exact ⟨_, h2, if_neg h1⟩
  · rw [if_neg (by simpa using e), List.mem_append, List.mem_singleton]
    constructor
    · rintro (hm | e2)
      · refine .inr ⟨fun z => e (by rw [← z]; exact List.mem_map.mpr ⟨_, hm, rfl⟩), hm⟩
      · cases e2
        exact .inl ⟨rfl, rfl⟩
    · rintro (⟨rfl, rfl⟩ | ⟨_, h2⟩)
      · exact .inr rfl
      · exact .inl h2
/-- what follows a level: found so far -/
def FI (h w : Nat) (Kn : Paths) (done : List Nat → Grid → Nat → Prop) (Fo : Paths) : Prop :=
  (Fo.map (·.1)).Nodup ∧ (∀ x p, (x, p) ∈ Fo → x ∉ Kn.map (·.1) ∧ ∃ u y c, done u y c ∧ tilt h w y c = x ∧ p = u ++ [c]) ∧
  ∀ u y c, done u y c → tilt h w y c ∉ Kn.map (·.1) → ∃ p, (tilt h w y c, p) ∈ Fo ∧ val p ≤ val (u ++ [c])
def stF (h w : Nat) (Kn Fo : Paths) (u : List Nat) (y : Grid) (c : Nat) : Paths := if tilt h w y c ∈ Kn.map (·.1) then Fo else match lkG Fo (tilt h w y c) with
  | none => putG Fo (tilt h w y c) (u ++ [c])
  | some q => if val (u ++ [c]) < val q then putG Fo (tilt h w y c) (u ++ [c]) else Fo
theorem FI.none {Kn : Paths} : FI h w Kn (fun _ _ _ => False) [] := ⟨List.nodup_nil, fun x p e => absurd e List.not_mem_nil, fun u y c e => e.elim⟩
theorem FI.weaken {Kn Fo : Paths} {d d' : List Nat → Grid → Nat → Prop} (I : FI h w Kn d Fo) (e : ∀ u y c, d u y c ↔ d' u y c) : FI h w Kn d' Fo := by
  obtain ⟨a, b, c⟩ := I
  exact ⟨a, fun x p hx => (b x p hx).imp id fun ⟨u, y, k, z⟩ => ⟨u, y, k, (e u y k).mp z.1, z.2⟩, fun u y k z => c u y k ((e u y k).mpr z)⟩
theorem FI.put {Kn Fo : Paths} {d : List Nat → Grid → Nat → Prop} {u : List Nat} {y : Grid} {c : Nat} (I : FI h w Kn d Fo) (nk : tilt h w y c ∉ Kn.map (·.1)) (low : ∀ q, (tilt h w y c, q) ∈ Fo → val (u ++ [c]) ≤ val q) :
    FI h w Kn (fun u' y' c' => d u' y' c' ∨ (u' = u ∧ y' = y ∧ c' = c)) (putG Fo (tilt h w y c) (u ++ [c])) := by
  obtain ⟨i1, i2, i3⟩ := I
  refine ⟨putG_nd i1, fun x p hx => ?_, fun u' y' c' hd hk => ?_⟩
  · rcases putG_mem.mp hx with ⟨rfl, rfl⟩ | ⟨_, hm⟩
    · exact ⟨nk, u, y, c, .inr ⟨rfl, rfl, rfl⟩, rfl, rfl⟩
    · obtain ⟨a, u', y', c', e1, e2⟩ := i2 x p hm
      exact ⟨a, u', y', c', .inl e1, e2⟩
  · rcases hd with hd | ⟨rfl, rfl, rfl⟩
    · obtain ⟨p, h1, h2⟩ := i3 u' y' c' hd hk
      by_cases q : tilt h w y' c' = tilt h w y c
      · rw [q] at h1 ⊢
        exact ⟨_, putG_mem.mpr (.inl ⟨rfl, rfl⟩), Nat.le_trans (low p h1) h2⟩
      · exact ⟨p, putG_mem.mpr (.inr ⟨q, h1⟩), h2⟩
    · exact ⟨_, putG_mem.mpr (.inl ⟨rfl, rfl⟩), Nat.le_refl _⟩
theorem FI.step {Kn Fo : Paths} {d : List Nat → Grid → Nat → Prop} {u : List Nat} {y : Grid} {c : Nat} (I : FI h w Kn d Fo) : FI h w Kn (fun u' y' c' => d u' y' c' ∨ (u' = u ∧ y' = y ∧ c' = c)) (stF h w Kn Fo u y c) := by
  unfold stF
  split
  · rename_i e
    obtain ⟨i1, i2, i3⟩ := I
    refine ⟨i1, fun x p hx => (i2 x p hx).imp id fun ⟨u, y, k, z⟩ => ⟨u, y, k, .inl z.1, z.2⟩, fun u' y' c' hd hk => ?_⟩
    rcases hd with hd | ⟨rfl, rfl, rfl⟩
    · exact i3 u' y' c' hd hk
    · exact absurd e hk
  · rename_i e
    split
    · rename_i e2
      exact I.put e fun q hq => absurd (List.mem_map.mpr ⟨_, hq, rfl⟩) (lkG_none.mp e2)
    · rename_i q e2
      have hq := (lkG_some I.1).mp e2
      split
      · rename_i lt
        refine I.put e fun q' hq' => ?_
        have := (lkG_some I.1).mpr hq'
        rw [e2] at this
        cases this
        omega
      · rename_i ge
        obtain ⟨i1, i2, i3⟩ := I
        refine ⟨i1, fun x p hx => (i2 x p hx).imp id fun ⟨u, y, k, z⟩ => ⟨u, y, k, .inl z.1, z.2⟩, fun u' y' c' hd hk => ?_⟩
        rcases hd with hd | ⟨rfl, rfl, rfl⟩
        · exact i3 u' y' c' hd hk
        · exact ⟨q, hq, by omega⟩
/-- known after j levels -/
def KnOk (h w : Nat) (g : Grid) (j : Nat) (Kn : Paths) : Prop := (Kn.map (·.1)).Nodup ∧ ∀ x u, (x, u) ∈ Kn ↔ (u, x) ∈ ways h w g ∧ u.length ≤ j
theorem KnOk.key {Kn : Paths} {j : Nat} (K : KnOk h w g j Kn) (R : Rect h w g) (F : Few h w g) {x : Grid} {u : List Nat} (hm : (u, x) ∈ ways h w g) : x ∈ Kn.map (·.1) ↔ u.length ≤ j := by
  constructor
  · intro hk
    obtain ⟨z, hz, rfl⟩ := List.mem_map.mp hk
    obtain ⟨a, b⟩ := (K.2 z.1 z.2).mp hz
    rw [ways_uniq R F hm a]
    exact b
  · exact fun hl => List.mem_map.mpr ⟨_, (K.2 x u).mpr ⟨hm, hl⟩, rfl⟩
theorem FI.final {Kn Fo : Paths} {j : Nat} (R : Rect h w g) (F : Few h w g) (K : KnOk h w g j Kn) (I : FI h w Kn (fun u y c => (u, y) ∈ ways h w g ∧ u.length = j ∧ T4 c) Fo) : ∀ x v, (x, v) ∈ Fo ↔ (v, x) ∈ ways h w g ∧ v.length = j + 1 := by
  obtain ⟨i1, i2, i3⟩ := I
  have fwd : ∀ x p, (x, p) ∈ Fo → (p, x) ∈ ways h w g ∧ p.length = j + 1 := fun x p hx => by
    obtain ⟨nk, u, y, c, ⟨hw, hl, hc⟩, e, rfl⟩ := i2 x p hx
    obtain ⟨a1, a2, a3⟩ := ways_least R F hw
    have e1 : tilts h w (u ++ [c]) g = x := by rw [tilts_one, a2, e]
    obtain ⟨v, hv, le⟩ := ways_to (g := g) R F (T4_app a1 hc)
    rw [e1] at hv
    obtain ⟨b1, b2, b3⟩ := ways_least R F hv
    have l1 := ways_len_le b1 (T4_app a1 hc) le
    have l2 : ¬ v.length ≤ j := fun z => nk ((K.key R F hv).mpr z)
    have el : (u ++ [c]).length = j + 1 := by simp [hl]
    rw [el] at l1
    obtain ⟨v', c', rfl⟩ : ∃ v' c', v = v' ++ [c'] := by
      rcases nil_snoc v with rfl | z
      · simp at l2
      · exact z
    obtain ⟨hc', y', hy', e'⟩ := ways_pre R F hv
    have lv : (v' ++ [c']).length = v'.length + 1 := by simp
    rw [lv] at l1 l2
    obtain ⟨p', hp', le'⟩ := i3 v' y' c' ⟨hy', by omega, hc'⟩ (by rw [e']; exact nk)
    rw [e'] at hp'
    have : p' = u ++ [c] := by
      have h1 := (lkG_some i1).mpr hp'
      have h2 := (lkG_some i1).mpr hx
      rw [h1] at h2
      exact Option.some.inj h2
    rw [this] at le'
    have : u ++ [c] = v' ++ [c'] := val_inj _ _ (T4_app a1 hc) b1 (Nat.le_antisymm le' le)
    rw [this]
    exact ⟨hv, by rw [lv]; omega⟩
  refine fun x v => ⟨fwd x v, fun ⟨hv, hl⟩ => ?_⟩
  obtain ⟨v', c', rfl⟩ : ∃ v' c', v = v' ++ [c'] := by
    rcases nil_snoc v with rfl | z
    · simp at hl
    · exact z
  obtain ⟨hc', y', hy', e'⟩ := ways_pre R F hv
  have lv : (v' ++ [c']).length = v'.length + 1 := by simp
  have nk : x ∉ Kn.map (·.1) := fun z => by
    have := (K.key R F hv).mp z
    omega
  obtain ⟨p', hp', _⟩ := i3 v' y' c' ⟨hy', by omega, hc'⟩ (by rw [e']; exact nk)
  rw [e'] at hp'
  have := ways_uniq R F (fwd x p' hp').1 hv
  rw [← this]
  exact hp'
theorem KnOk.next {Kn Fo : Paths} {j : Nat} (R : Rect h w g) (F : Few h w g) (K : KnOk h w g j Kn) (nd : (Fo.map (·.1)).Nodup) (fo : ∀ x v, (x, v) ∈ Fo ↔ (v, x) ∈ ways h w g ∧ v.length = j + 1) : KnOk h w g (j + 1) (Kn ++ Fo) := by
  refine ⟨?_, fun x u => ?_⟩
  · rw [List.map_append, List.nodup_append]
    refine ⟨K.1, nd, fun a ha b hb z => ?_⟩
    subst z
    obtain ⟨z, hz, rfl⟩ := List.mem_map.mp hb
    obtain ⟨hw, hl⟩ := (fo z.1 z.2).mp hz
    have := (K.key R F hw).mp ha
    omega
  · rw [List.mem_append, K.2, fo]
    constructor
    · rintro (⟨a, b⟩ | ⟨a, b⟩)
      · exact ⟨a, by omega⟩
      · exact ⟨a, by omega⟩
    · rintro ⟨a, b⟩
      rcases Nat.lt_or_ge j u.length with z | z
      · exact .inr ⟨a, by omega⟩
      · exact .inl ⟨a, z⟩
theorem KnOk.zero (R : Rect h w g) (F : Few h w g) : KnOk h w g 0 [(g, [])] := by
  have w0 : (([] : List Nat), g) ∈ ways h w g := List.mem_of_getElem? ways_ok.1
  refine ⟨by simp, fun x u => ?_⟩
  rw [List.mem_singleton]
  constructor
  · intro e
    cases e
    exact ⟨w0, Nat.le_refl _⟩
  · rintro ⟨a, b⟩
    have : u = [] := List.eq_nil_of_length_eq_zero (by omega)
    subst this
    have := (ways_least R F a).2.1
    have e : g = x := this
    rw [e]
/-- no word of a length: no longer one -/
theorem no_more (R : Rect h w g) (F : Few h w g) {j : Nat} (no : ∀ u x, (u, x) ∈ ways h w g → u.length ≠ j) : ∀ (n : Nat) u x, u.length ≤ n → (u, x) ∈ ways h w g → u.length ≤ j
  | 0, u, x, hl, _ => by omega
  | n + 1, u, x, hl, hm => by
    rcases nil_snoc u with rfl | ⟨v, c, rfl⟩
    · exact Nat.zero_le _
    · obtain ⟨_, y, hy, _⟩ := ways_pre R F hm
      have lv : (v ++ [c]).length = v.length + 1 := by simp
      have := no_more R F no n v y (by omega) hy
      have := no v y hy
      omega
theorem keys_few (F : Few h w g) {L : List Grid} (nd : L.Nodup) (hL : ∀ x ∈ L, ∃ u, (u, x) ∈ ways h w g) : L.length ≤ 4913 := by
  have := sub_len L ((ways h w g).map (·.2)) nd fun x hx => by
    obtain ⟨u, hu⟩ := hL x hx
    exact List.mem_map.mpr ⟨_, hu, rfl⟩
  rw [List.length_map] at this
  exact Nat.le_trans this (ways_len F)
end
end TM
end
section
set_option Elab.async false
set_option maxRecDepth 100000
set_option linter.all false
namespace TR
open PySem PySem.Spec PyProof.Rows L2 TM TK TB TP TH TU TW
def tx (x : Grid) : Str := S (TL.joinL [10] x)
theorem S_in {a b : List Nat} (e : S a = S b) : a = b := by
  have := congrArg (fun z : Str => z.cps.toList) e
  simpa [S_list] using this
theorem map_S_in : ∀ {x y : Grid}, x.map S = y.map S → x = y
  | [], [], _ => rfl
  | [], _ :: _, e => nomatch e
  | _ :: _, [], e => nomatch e
  | a :: x, b :: y, e => by
    rw [List.map_cons, List.map_cons] at e
    injection e with e1 e2
    rw [S_in e1, map_S_in e2]
theorem tx_in {n m n' m' : Nat} {x y : Grid} (hx : VG n m x) (hy : VG n' m' y) (e : tx x = tx y) : x = y := by
  have := congrArg (fun z => Txt.split z (S [10])) e
  simp only [tx] at this
  rw [split_back hx, split_back hy] at this
  exact map_S_in this
end TR
end
section
set_option Elab.async false
set_option maxRecDepth 100000
set_option linter.all false
namespace TK
open PySem PySem.W PySem.W.X PySem.Spec PyProof.Rows L2 TH
theorem via {α : Type} {f : Frag → α} {K K' : Frag} {hp : Heap} {v : α} (_X : K.In hp) (h : f K = v) (e : f K' = f K) : f K' = v := e.trans h
theorem lessT_none {K : Frag} {ts : List Addr} {a : Addr} (h : ts.contains a = true) : (lessT K ts).lookup a = none := by
  have h : a ∈ ts := by simpa using h
  unfold lessT
  induction K with
  | nil => rfl
  | cons x L ih =>
    by_cases z : x.1 ∈ ts
    · rw [List.filter_cons_of_neg (by simp [z])]
      exact ih
    · rw [List.filter_cons_of_pos (by simp [z])]
      have ne : ¬ a = x.1 := fun y => z (by rw [← y]; exact h)
      rw [show x = (x.1, x.2) from rfl, List.lookup_cons, show (a == x.1) = false from by simpa using ne]
      exact ih
theorem tabs_nil {h : Heap} {K' : Frag} : ∀ p ∈ ([] : List (Addr × Addr)), h.get? p.2 = some { cls := .none, data := .fields #[] } ∧ K'.lookup p.2 = none ∧ CodeHd h p.1 p.2 := fun p hp => nomatch hp
theorem tabs_cons {K : Frag} {h : Heap} {ts : List Addr} {n q : Str} {f cd P : Addr} {st : Stmt} {cs : List (Addr × Addr)} {oc kV doc pm ct : Value} {od an od2 : Option Addr} {osl sl2 : Array (Option Value)} {vs : Array Value} (X : K.In h)
    (a : nsIn K mainGlobals n = some (some (.ref f))) (l : K.lookup f = some ⟨oc, od, .func (fnOf n q (defArgs st) (defBody st) (defScope st) .none kV doc pm an (.ref cd) ct), osl⟩)
    (v : K.lookup cd = some ⟨.type "code", od2, .fields vs, sl2⟩) (pp : vs[11]? = some (.ref P)) (z : K.lookup P = some { cls := .none, data := .fields #[] }) (H : codeHdIn K cd P = true) (t : ts.contains P = true)
    (r : ∀ p ∈ cs, h.get? p.2 = some { cls := .none, data := .fields #[] } ∧ (lessT K ts).lookup p.2 = none ∧ CodeHd h p.1 p.2) :
    ∀ p ∈ (cd, P) :: cs, h.get? p.2 = some { cls := .none, data := .fields #[] } ∧ (lessT K ts).lookup p.2 = none ∧ CodeHd h p.1 p.2 := fun p hp => by
  rcases List.mem_cons.mp hp with rfl | hp
  · exact ⟨X _ _ z, lessT_none t, codeHd_of_K X H⟩
  · exact r p hp
end TK
end
section
set_option Elab.async false
set_option maxRecDepth 100000
set_option linter.all false
namespace TK
open PySem PySem.Spec PyProof.Rows L2 LamX TX TA
def ceF (a0 a1 a2 a3 a4 a5 : Addr) : Nat → Addr
  | 0 => a0
  | 1 => a1
  | 2 => a2
  | 3 => a3
  | 4 => a4
  | _ => a5
theorem six_two {p : Nat → Nat → Prop} (h0 : ∀ k, k < 6 → p 0 k) (h1 : ∀ k, k < 6 → p 1 k) (h2 : ∀ k, k < 6 → p 2 k) (h3 : ∀ k, k < 6 → p 3 k) (h4 : ∀ k, k < 6 → p 4 k) (h5 : ∀ k, k < 6 → p 5 k) : ∀ j k, j < 6 → k < 6 → p j k := fun j k hj hk => six_all (p := fun j => ∀ k, k < 6 → p j k) h0 h1 h2 h3 h4 h5 j hj k hk
theorem tabs_all {H : Hp} {cs : List (Addr × Addr)} {T : List (Addr × Str)} (qs : List Str) (h : ∀ p ∈ cs, H p.2 = some (.tbl #[])) (e : (cs.map (·.2)).zip qs = T) : Tabs T H := fun p hp => by
  subst e
  have h1 := (List.of_mem_zip (a := p.1) (b := p.2) hp).1
  obtain ⟨c, hc, e⟩ := List.mem_map.mp h1
  rw [← e]
  exact TabS.nil (h c hc)
end TK
end
namespace TM
end TM
section
set_option Elab.async false
set_option maxRecDepth 100000
set_option linter.all false
namespace TR
open PySem PySem.Spec PyProof.Rows L2 TM TK TB TP TH TU TG GenW LamX TW
section
variable {X : Cx}
def rNeE7 (K : PySem.W.Frag) : R2 := fun x y H Q => ∃ a b xs, x = .ref a ∧ y = .ref b ∧ SqL K H a xs ∧ SqL K H b [] ∧ Q (.bl (!xs.isEmpty)) H
theorem op_neE7 {K : PySem.W.Frag} (hK : X.K = K) (hu : X.A.units + 64 < cLine) : OpR X (compareOp .NotEq) (rNeE7 K) := by
  subst hK
  intro pins s σ H x y v u Q I rx ry h
  obtain ⟨a, b, xs, rfl, rfl, ha, hb, q⟩ := h
  cases xs with
  | nil => exact op_neD hu pins s σ H _ _ v u Q I rx ry ⟨.list [], .list [], .lst ha .nil, .lst hb .nil, rfl, rfl, q⟩
  | cons z zs =>
    obtain rfl : v = Value.ref a := rx
    obtain rfl : u = Value.ref b := ry
    obtain ⟨ia, ra, pa, _⟩ := I.list ha
    obtain ⟨ib, rb, pb, _⟩ := I.list hb
    have l1 := ra.length
    have l2 := rb.length
    refine PySem.SeqAt.RcNeAt.lists_lengths pa.isList pb.isList ?_ (by omega) _ _ _ _ ⟨.bl true, H, I, rfl, q⟩
    rw [List.size_toArray, List.size_toArray, ← l1, ← l2]
    simp
def rEqE7 (K : PySem.W.Frag) : R2 := fun x y H Q => ∃ a b xs, x = .ref a ∧ y = .ref b ∧ SqL K H a xs ∧ SqL K H b [] ∧ Q (.bl xs.isEmpty) H
theorem op_eqE7 {K : PySem.W.Frag} (hK : X.K = K) (hu : X.A.units + 64 < cLine) : OpR X (compareOp .Eq) (rEqE7 K) := by
  subst hK
  intro pins s σ H x y v u Q I rx ry h
  obtain ⟨a, b, xs, rfl, rfl, ha, hb, q⟩ := h
  cases xs with
  | nil => exact op_eqD hu pins s σ H _ _ v u Q I rx ry ⟨.list [], .list [], .lst ha .nil, .lst hb .nil, rfl, rfl, q⟩
  | cons z zs =>
    obtain rfl : v = Value.ref a := rx
    obtain rfl : u = Value.ref b := ry
    obtain ⟨ia, ra, pa, _⟩ := I.list ha
    obtain ⟨ib, rb, pb, _⟩ := I.list hb
    have l1 := ra.length
    have l2 := rb.length
    refine PySem.SeqAt.RcAt.lists_lengths pa.isList pb.isList ?_ (by omega) _ _ _ _ ⟨.bl false, H, I, rfl, q⟩
    rw [List.size_toArray, List.size_toArray, ← l1, ← l2]
    simp
end
theorem S_app7 (t u : List Nat) : S t ++ S u = S (t ++ u) := by
  show Str.mk (t.toArray ++ u.toArray) = _
  simp
theorem lt_z7 {l : List Nat} (h : ∀ c ∈ l, T4 c) (ne : l ≠ []) : l < (Str.ofString "z").cps.toList := by
  cases l with
  | nil => exact absurd rfl ne
  | cons x r =>
    have := (h x List.mem_cons_self).bd
    show x :: r < [122]
    rw [List.cons_lt_cons_iff]
    exact .inl (by omega)
theorem ways_word_len {h w : Nat} {g : Grid} (F : Few h w g) {u : List Nat} {x : Grid} (hm : (u, x) ∈ ways h w g) : u.length ≤ 4913 := by
  obtain ⟨i, hi⟩ := List.getElem?_of_mem hm
  have h1 := (List.getElem?_eq_some_iff.mp hi).1
  have h2 := ways_len F
  rw [ways_eq] at hi
  have := (bq_ok g 4913).len i _ hi
  show (u, x).1.length ≤ _
  omega
/-- a dict from texts of trays to words -/
def kvP (F : Paths) : List (L2.Key × V) := F.map fun z => (Sum.inr (tx z.1), V.str (S z.2))
theorem kvP_val {h w h' w' : Nat} {x : Grid} (hx : VG h' w' x) : ∀ F : Paths, (∀ z ∈ F, VG h w z.1) → valV (kvP F) (Sum.inr (tx x) : L2.Key) = (lkG F x).map fun u => V.str (S u)
  | [], _ => rfl
  | z :: F, hF => by
    have ih := kvP_val hx F fun y hy => hF y (List.mem_cons_of_mem _ hy)
    unfold kvP lkG at ih ⊢
    rw [List.map_cons, List.find?_cons]
    by_cases q : z.1 = x
    · rw [valV_pos (by rw [q])]
      simp [q]
    · rw [valV_neg (fun e => q (tx_in (hF z List.mem_cons_self) hx (by injection e))), ih]
      simp [q]
theorem kvP_put {h w h' w' : Nat} {x : Grid} {p : List Nat} (hx : VG h' w' x) {F : Paths} (hF : ∀ z ∈ F, VG h w z.1) : putK (kvP F) (Sum.inr (tx x) : L2.Key) (V.str (S p)) = kvP (putG F x p) := by
  have ek : ∀ z ∈ F, decide ((Sum.inr (tx z.1) : L2.Key) = Sum.inr (tx x)) = decide (z.1 = x) := fun z hz => by
    rw [Bool.eq_iff_iff, decide_eq_true_eq, decide_eq_true_eq]
    exact ⟨fun e => tx_in (hF z hz) hx (by injection e), fun e => by rw [e]⟩
  have ea : ((kvP F).any fun kv => decide (kv.1 = (Sum.inr (tx x) : L2.Key))) = F.any fun z => decide (z.1 = x) := by
    unfold kvP
    rw [List.any_map]
    rw [Bool.eq_iff_iff, List.any_eq_true, List.any_eq_true]
    constructor
    · rintro ⟨z, hz, e⟩
      exact ⟨z, hz, by rw [← ek z hz]; exact e⟩
    · rintro ⟨z, hz, e⟩
      exact ⟨z, hz, by rw [← ek z hz] at e; exact e⟩
  unfold putK putG
  rw [ea]
  split
  · unfold kvP
    rw [List.map_map, List.map_map]
    refine List.map_congr_left fun z hz => ?_
    have e := ek z hz
    show (if (Sum.inr (tx z.1) : L2.Key) = Sum.inr (tx x) then _ else _) = _
    by_cases q : z.1 = x
    · have q2 : (Sum.inr (tx z.1) : L2.Key) = Sum.inr (tx x) := by rw [q]
      rw [if_pos q2]
      show _ = (fun z : Grid × List Nat => ((Sum.inr (tx z.1) : L2.Key), V.str (S z.2))) (if z.1 = x then (x, p) else z)
      rw [if_pos q]
      show ((Sum.inr (tx z.1) : L2.Key), V.str (S p)) = (Sum.inr (tx x), V.str (S p))
      rw [q]
    · have q2 : ¬ (Sum.inr (tx z.1) : L2.Key) = Sum.inr (tx x) := fun e2 => q (tx_in (hF z hz) hx (by injection e2))
      rw [if_neg q2]
      show _ = (fun z : Grid × List Nat => ((Sum.inr (tx z.1) : L2.Key), V.str (S z.2))) (if z.1 = x then (x, p) else z)
      rw [if_neg q]
  · unfold kvP
    rw [List.map_append]
    rfl
section
variable {P : Program} {w_ : World} {K : PySem.W.Frag} {mg : Str → Option Value} {base : Heap} {n : Nat}
abbrev txs7 (L : List Grid) : List V := L.map fun x => V.str (tx x)
abbrev NLv7 : List Str := ["_law_rows_here", "_law_start", "_law_known", "_law_level", "_law_following", "_law_text", "_law_tilt", "_law_later", "_law_path"]
theorem scLv7 : FnScope NLv7 ["_law_rows_here"] (defScope sLawLevels) := ⟨rfl, rfl, rfl, by decide +kernel, rfl, by decide +kernel, by decide +kernel⟩
def spLv7 (K : PySem.W.Frag) : Sp := fun vs H Q _ => ∃ (l : Addr) (h w : Nat) (g : Grid), vs = [.ref l] ∧ VG h w g ∧ Few h w g ∧ H l = some (.lst (rowV g)) ∧
  ∀ (H' : Hp) (q kd : Addr) (Kn : Paths) (b : Bool), Same H H' → H kd = none → H' q = some (.tup [.ref kd, .bl b]) → H' kd = some (.dK (kvP Kn)) → (Kn.map (·.1)).Nodup → (∀ x u, (x, u) ∈ Kn → (u, x) ∈ ways h w g) → (b = true → ∀ u x, (u, x) ∈ ways h w g → (x, u) ∈ Kn) → Q (.ref q) H'
/-- after j levels -/
structure LI7 (h w : Nat) (g : Grid) (H0 H : Hp) (kd lv : Addr) (j : Nat) (Kn : Paths) (Lv : List Grid) : Prop where
  same : Same H0 H
  k0 : H0 kd = none
  kn : H kd = some (.dK (kvP Kn))
  lvl : H lv = some (.lst (txs7 Lv))
  ok : KnOk h w g j Kn
  nd : Lv.Nodup
  mem : ∀ x, x ∈ Lv ↔ ∃ u, (u, x) ∈ ways h w g ∧ u.length = j
def mu7 (Kn : Paths) (Lv : List Grid) : Nat := (400 - Kn.length) * 2 + if Lv.isEmpty = true then 0 else 1
set_option maxHeartbeats 4000000 in
theorem ok_lv7 {f fT : Addr} {fd fdT : FuncData} (F : Fun K "_law_levels" "_law_levels" sLawLevels f fd) (mlen : mg "len" = none) (mlst : mg "list" = none)
    (GT : FnOk P w_ K mg base CX0 1 fT fdT ["_law_rows_here", "_law_tilt"] (TU.spTl K)) (kT : PySem.W.keepIn K (.ref fT) = true) (bT : Binds K fdT ["_law_rows_here", "_law_tilt"] []) (mT : mg "_law_tilted" = some (.ref fT)) :
    FnOk P w_ K mg base CX0 2 f fd ["_law_rows_here"] (spLv7 K) := by
  refine F.ok scLv7 (fun vs H Q E h => ?_) (fun cdv A outer s H vs Q E hr h => ?_)
  · obtain ⟨l, h, w, g, rfl, _⟩ := h
    rfl
  · obtain ⟨l, h, w, g, rfl, hV, hF, hl, k⟩ := h
    have nd := scLv7.nd
    refine ⟨_, C8.pss_cut (ps_set (i := 1) nd rfl (.inl rfl) (pe_join pe_str (pv 0)))
      (C8.pss_cut (ps_par (i := 2) (j := 3) rfl nd rfl rfl (by decide) rfl rfl (pa_cons (pe_disp (pps_cons (pv 1) pe_str pps_nil) rfl rfl (by simp) (by decide)) (pa_cons (pe_lst (pa_cons (pv 1) pa_nil)) pa_nil)) (by rfl))
      (C8.pss_cut (ps_while PassesOwn.never (PW.pt (pw_and (pt_cmpR (op_neE7 (K := K) rfl hr.units) (pv 3) (pe_lst pa_nil) (nomark _)) (pw_and1 (pt_cmpR op_lt (pe_callB call_lenD (by rfl) mlen PySem.boot_len (pa_cons (pv 2) pa_nil)) pe_int (nomark _)))))
        (C8.pss_cut (ps_set (i := 4) nd rfl (.inl rfl) pe_dnewK)
        (C8.pss_cut (ps_for PassesOwn.never rfl (pi_list (pv 3)) (pg_name (i := 5) nd rfl (.inl rfl))
          (pss_one (ps_for PassesOwn.never rfl (pi_str pe_str) (pg_name (i := 6) nd rfl (.inl rfl))
            (C8.pss_cut (ps_set (i := 7) nd rfl (.inl rfl) (pe_join pe_str (pe_call GT hr rfl mT kT bT .nil pass0 (pa_cons (pe_split (pv 5) pe_str) (pa_cons (pv 6) pa_nil)))))
            (C8.pss_cut (ps_set (i := 8) nd rfl (.inl rfl) (pe_op op_add_str (pe_dget (hu_of hr) (pv 2) (pv 5) (fun _ _ => rfl)) (pv 6)))
            (pss_one (ps_if (PW.pt (pw_and (pt_cmp (pc_dnotin (hu_of hr) (pv 7) (pv 2))) (pw_and1 (pt_cmpR op_lt_str (pv 8) (pe_dget2 (hu_of hr) (pv 4) (pv 7) pe_str ⟨rfl, rfl, rfl, rfl⟩) (nomark _)))))
              (pss_one (ps_dput (hu_of hr) (pv 4) (pv 7) (pv 8) (by rfl))) pss_nil)))))))
        (C8.pss_cut (ps_lock (ps_for PassesOwn.never rfl (pi_keys (pv 4)) (pg_name (i := 7) nd rfl (.inl rfl))
          (pss_one (ps_dput (hu_of hr) (pv 2) (pv 7) (pe_dget (hu_of hr) (pv 4) (pv 7) (fun _ _ => rfl)) (by rfl)))))
        (pss_one (ps_set (i := 3) nd rfl (.inl rfl) (pe_callTy (call_listD rfl) (by rfl) mlst (by decide +kernel) (pa_cons (pv 4) pa_nil))))))))
      (pss_one (ps_ret (pe_tup (pa_cons (pv 2) (pa_cons (pe_cmpR (op_eqE7 (K := K) rfl hr.units) (pv 3) (pe_lst pa_nil) (nomark _)) pa_nil))))))), ?_⟩
    have R := hV.rc
    have hjn : ∀ {x : Grid}, VG h w x → (S (TL.joinL [10] x)).length + 2 ≤ sizeLine := fun {x} G => by
      have h1 := joinL_len [10] 8 x fun r hr => G.row hr
      have h2 := G.len
      rw [S_len]
      show _ ≤ 16777216
      have : x.length * (8 + [10].length) = x.length * 9 := rfl
      omega
    have wVG : ∀ {u : List Nat} {x : Grid}, (u, x) ∈ ways h w g → VG h w x := fun {u x} hm => by
      have e : x = tilts h w u g := (ways_ok.2.1 _ hm).2
      rw [e]
      exact VG.tilts u hV
    -- the start
    refine ⟨fun σ H1 => σ = [some (.ref l), some (.str (tx g)), none, none, none, none, none, none, none] ∧ H1 = H, ?_, ?_⟩
    · refine ⟨⟨_, rfl⟩, _, rfl, _, l, g.map S, rfl, rfl, .inl ?_, ?_, ?_, rfl⟩
      · rw [List.map_map]
        exact SqL.of hl
      · have h1 := row_sum 8 g fun r hr => hV.row hr
        have := hV.len
        rw [List.length_map]
        show _ + g.length * 1 ≤ _
        omega
      · rw [join_S]
        rfl
    rintro σ H1 ⟨rfl, e⟩
    rw [e]
    clear e H1
    -- nothing but it is known
    refine ⟨fun σ H1 => ∃ kd lv, σ = [some (.ref l), some (.str (tx g)), some (.ref kd), some (.ref lv), none, none, none, none, none] ∧ LI7 h w g H H1 kd lv 0 [(g, [])] [g], ?_, ?_⟩
    · intro kd hkd
      have w0 : (([] : List Nat), g) ∈ ways h w g := List.mem_of_getElem? ways_ok.1
      refine ⟨_, rfl, upd_same, [((Sum.inr (tx g) : L2.Key), V.str "")], rfl, by show 1 ≤ 15; decide, ?_⟩
      have s1 := same_new (o := .dK []) hkd
      have e1 : upd (upd H kd (.dK [])) kd (.dK (mergeK [] [((Sum.inr (tx g) : L2.Key), V.str "")])) kd = some (.dK (kvP [(g, [])])) := upd_same
      have s2 : Same H (upd (upd H kd (.dK [])) kd (.dK (mergeK [] [((Sum.inr (tx g) : L2.Key), V.str "")]))) := fun b o e => by rw [upd_ne (ne_of_none e hkd)]; exact s1 _ _ e
      generalize upd (upd H kd (.dK [])) kd (.dK (mergeK [] [((Sum.inr (tx g) : L2.Key), V.str "")])) = Ha at e1 s2
      refine ⟨_, rfl, by show 1 ≤ sizeLine; decide, fun lv hlv => ?_⟩
      have s3 := same_new (o := .lst [V.str (tx g)]) hlv
      refine ⟨_, _, rfl, kd, lv, rfl, s2.trans s3, hkd, s3 _ _ e1, upd_same, KnOk.zero R hF, List.nodup_cons.mpr ⟨List.not_mem_nil, List.nodup_nil⟩, fun x => ?_⟩
      rw [List.mem_singleton]
      constructor
      · rintro rfl
        exact ⟨[], w0, rfl⟩
      · rintro ⟨u, hu, e⟩
        have : u = [] := List.eq_nil_of_length_eq_zero e
        subst this
        exact ((ways_least R hF hu).2.1).symm
    rintro σ H1 ⟨kd, lv0, rfl, I1⟩
    -- the levels
    refine ⟨fun σ H2 => ∃ lv v4 v5 v6 v7 v8 j Kn Lv, σ = [some (.ref l), some (.str (tx g)), some (.ref kd), some (.ref lv), v4, v5, v6, v7, v8] ∧ LI7 h w g H H2 kd lv j Kn Lv, ?_, ?_⟩
    · refine ⟨fun m σ H2 => ∃ lv v4 v5 v6 v7 v8 j Kn Lv, σ = [some (.ref l), some (.str (tx g)), some (.ref kd), some (.ref lv), v4, v5, v6, v7, v8] ∧ LI7 h w g H H2 kd lv j Kn Lv ∧ m = mu7 Kn Lv, ⟨_, lv0, _, _, _, _, _, _, _, _, rfl, I1, rfl⟩, ?_⟩
      rintro m σ H2 ⟨lv, v4, v5, v6, v7, v8, j, Kn, Lv, rfl, I2, rfl⟩
      have ex : ∀ {H3 : Hp}, Same H2 H3 → ∃ lv' v4' v5' v6' v7' v8' j Kn Lv, ([some (.ref l), some (.str (tx g)), some (.ref kd), some (.ref lv), v4, v5, v6, v7, v8] : L2.St) = [some (.ref l), some (.str (tx g)), some (.ref kd), some (.ref lv'), v4', v5', v6', v7', v8'] ∧ LI7 h w g H H3 kd lv' j Kn Lv := fun s3 =>
        ⟨lv, v4, v5, v6, v7, v8, j, Kn, Lv, rfl, I2.same.trans s3, I2.k0, s3 _ _ I2.kn, s3 _ _ I2.lvl, I2.ok, I2.nd, I2.mem⟩
      refine ⟨_, rfl, by show 0 ≤ sizeLine; decide, fun z hz => ?_⟩
      have sz := same_new (o := .lst []) hz
      refine ⟨lv, z, _, rfl, rfl, SqL.of (sz _ _ I2.lvl), SqL.of upd_same, _, rfl, ?_⟩
      by_cases hL : Lv = []
      · rw [show (!(txs7 Lv).isEmpty) = false by rw [hL]; rfl]
        refine iteF (iteF ?_)
        exact ex sz
      rw [show (!(txs7 Lv).isEmpty) = true by cases Lv with | nil => exact absurd rfl hL | cons _ _ => rfl]
      have kn2 := sz _ _ I2.kn
      have lv2 := sz _ _ I2.lvl
      have sH := I2.same.trans sz
      generalize upd H2 z (.lst []) = H3 at sz kn2 lv2 sH
      refine iteT ⟨_, rfl, kd, kvP Kn, rfl, kn2, _, _, rfl, rfl, _, rfl, ?_⟩
      have kl : (kvP Kn).length = Kn.length := by unfold kvP; rw [List.length_map]
      rw [kl]
      by_cases hK : Kn.length < 400
      case neg =>
        rw [decide_eq_false (p := ((Kn.length : Nat) : Int) < 400) (by omega)]
        refine iteF ?_
        exact ex sz
      rw [decide_eq_true (p := ((Kn.length : Nat) : Int) < 400) (by omega)]
      refine iteT ⟨fun σ' H' => ∃ lv v4 v5 v6 v7 v8 j' Kn' Lv', σ' = [some (.ref l), some (.str (tx g)), some (.ref kd), some (.ref lv), v4, v5, v6, v7, v8] ∧ LI7 h w g H H' kd lv j' Kn' Lv' ∧ mu7 Kn' Lv' < mu7 Kn Lv, fun σ' H' ⟨a0, a1, a2, a3, a4, a5, a6, a7, a8, e1, e2, e3⟩ => ⟨_, e3, a0, a1, a2, a3, a4, a5, a6, a7, a8, e1, e2, rfl⟩, ?_⟩
      have kv : ∀ {x : Grid} {u : List Nat}, (x, u) ∈ Kn → VG h w x := fun hx => wVG ((I2.ok.2 _ _).mp hx).1
      have kvg : ∀ z ∈ Kn, VG h w z.1 := fun z hz => kv (u := z.2) hz
      have l4913 : Lv.length ≤ 4913 := keys_few hF I2.nd fun x hx => ((I2.mem x).mp hx).imp fun u hu => hu.1
      -- nothing follows yet
      refine ⟨fun σ H4 => ∃ fd, σ = [some (.ref l), some (.str (tx g)), some (.ref kd), some (.ref lv), some (.ref fd), v5, v6, v7, v8] ∧ H3 fd = none ∧ Same H3 H4 ∧ H4 fd = some (.dK (kvP [])), ?_, ?_⟩
      · exact fun fd hfd => ⟨fd, rfl, hfd, same_new hfd, upd_same⟩
      rintro σ H4 ⟨fd, rfl, nfd, s4, fd4⟩
      -- what follows
      refine ⟨fun σ H5 => ∃ v5 v6 v7 v8 Fo, σ = [some (.ref l), some (.str (tx g)), some (.ref kd), some (.ref lv), some (.ref fd), v5, v6, v7, v8] ∧ Same H3 H5 ∧ H5 fd = some (.dK (kvP Fo)) ∧ (Fo.map (·.1)).Nodup ∧ ∀ x v, (x, v) ∈ Fo ↔ (v, x) ∈ ways h w g ∧ v.length = j + 1, ?_, ?_⟩
      · refine ⟨_, rfl, lv, rfl, ⟨_, SqL.of (s4 _ _ lv2)⟩, for_list (K := K) (a := lv) (xs := txs7 Lv) (fun i σ H5 => ∃ v5 v6 v7 v8 Fo, σ = [some (.ref l), some (.str (tx g)), some (.ref kd), some (.ref lv), some (.ref fd), v5, v6, v7, v8] ∧ Same H3 H5 ∧ H5 fd = some (.dK (kvP Fo)) ∧ FI h w Kn (fun u y c => (u, y) ∈ ways h w g ∧ y ∈ Lv.take i ∧ T4 c) Fo)
          ⟨_, _, _, _, [], rfl, s4, fd4, FI.none.weaken fun u y c => ⟨fun z => z.elim, fun z => absurd z.2.1 (by rw [List.take_zero]; exact List.not_mem_nil)⟩⟩ (fun i σ H5 _ ⟨_, _, _, _, _, _, s5, _⟩ => SqL.of (s5 _ _ lv2)) ?_ ?_⟩
        · rintro i x σ H5 hx ⟨v5', v6', v7', v8', Fo, rfl, s5, fd5, I5⟩
          obtain ⟨y, hy, rfl⟩ := at_map hx
          have ym := List.mem_of_getElem? hy
          obtain ⟨u, hu, hul⟩ := (I2.mem y).mp ym
          have vy := wVG hu
          have ku : (y, u) ∈ Kn := (I2.ok.2 _ _).mpr ⟨hu, by omega⟩
          refine ⟨S [100, 108, 114, 117], rfl, for_it (walk_str (z := S [100, 108, 114, 117])) (fun i2 σ H6 => ∃ v6 v7 v8 Fo, σ = [some (.ref l), some (.str (tx g)), some (.ref kd), some (.ref lv), some (.ref fd), some (.str (tx y)), v6, v7, v8] ∧ Same H3 H6 ∧ H6 fd = some (.dK (kvP Fo)) ∧ FI h w Kn (fun u' y' c => ((u', y') ∈ ways h w g ∧ y' ∈ Lv.take i ∧ T4 c) ∨ (u' = u ∧ y' = y ∧ c ∈ [100, 108, 114, 117].take i2)) Fo)
            ⟨_, _, _, Fo, rfl, s5, fd5, I5.weaken fun u' y' c => ⟨.inl, fun z => z.elim id fun z => absurd z.2.2 (by rw [List.take_zero]; exact List.not_mem_nil)⟩⟩ (fun _ _ _ _ _ => True.intro) ?_ ?_⟩
          · rintro i2 t σ H6' H6 hi2 ⟨v6, v7, v8, Fo, rfl, s6, fd6, I6⟩ ⟨rfl, c, hc, rfl⟩
            rw [S_at] at hc
            have hcm := List.mem_of_getElem? hc
            have hT : isT c = true := by
              simp only [List.mem_cons, List.not_mem_nil, or_false] at hcm
              rcases hcm with rfl | rfl | rfl | rfl <;> rfl
            have h4 : T4 c := by
              simp only [List.mem_cons, List.not_mem_nil, or_false] at hcm
              unfold T4
              omega
            have vt : VG h w (tilt h w y c) := VG.tilts [c] vy
            have ul120 : u.length ≤ 16777200 := by have := ways_word_len hF hu; omega
            have foW : ∀ x p, (x, p) ∈ Fo → (∃ v, (v, x) ∈ ways h w g) ∧ (∀ d ∈ p, T4 d) ∧ p.length = j + 1 := fun x p hx => by
              obtain ⟨_, u', y', c', hd, e1, rfl⟩ := I6.2.1 x p hx
              have hw' : (u', y') ∈ ways h w g ∧ u'.length = j ∧ T4 c' := by
                rcases hd with ⟨a1, a2, a3⟩ | ⟨rfl, rfl, a3⟩
                · obtain ⟨u2, b1, b2⟩ := (I2.mem y').mp (List.mem_of_mem_take a2)
                  rw [ways_uniq R hF a1 b1]
                  exact ⟨b1, b2, a3⟩
                · have := List.mem_of_mem_take a3
                  simp only [List.mem_cons, List.not_mem_nil, or_false] at this
                  exact ⟨hu, hul, by unfold T4; omega⟩
              obtain ⟨a1, a2, a3⟩ := hw'
              obtain ⟨b1, b2, _⟩ := ways_least R hF a1
              obtain ⟨v, hv, _⟩ := ways_to (g := g) R hF (T4_app b1 a3)
              rw [tilts_one, b2, e1] at hv
              exact ⟨⟨v, hv⟩, T4_app b1 a3, by rw [List.length_append, a2]; rfl⟩
            have foV : ∀ z ∈ Fo, VG h w z.1 := fun z hz => (foW z.1 z.2 hz).1.elim fun v hv => wVG hv
            have foL : Fo.length ≤ 4913 := by
              have := keys_few hF I6.1 fun x hx => by
                obtain ⟨z, hz, rfl⟩ := List.mem_map.mp hx
                exact (foW z.1 z.2 hz).1
              rw [List.length_map] at this
              exact this
            -- the tray behind it
            refine ⟨fun σ H7 => σ = [some (.ref l), some (.str (tx g)), some (.ref kd), some (.ref lv), some (.ref fd), some (.str (tx y)), some (sg c), some (.str (tx (tilt h w y c))), v8] ∧ Same H6 H7, ?_, ?_⟩
            · have e4 : (Txt.split (tx y) (Str.ofString "\n")).map V.str = rowV y := by
                unfold tx
                have := split_back vy
                rw [show Str.ofString "\n" = S [10] from rfl, this, List.map_map]
                rfl
              refine ⟨⟨_, rfl⟩, _, rfl, ⟨_, rfl⟩, _, _, rfl, rfl, rfl, hjn vy, fun b hb => ?_⟩
              refine ⟨_, rfl, b, c, h, w, y, rfl, SqL.of (by rw [upd_same]; exact congrArg (fun z => some (HO.lst z)) e4), vy.rc, vy.n1, vy.n8, vy.m1, vy.m8, hT, fun H9 d s9 fd9 hd9 => ?_⟩
              refine ⟨_, d, (tilt h w y c).map S, rfl, rfl, .inl ?_, ?_, ?_, (same_new hb).trans s9⟩
              · rw [List.map_map]
                exact SqL.of hd9
              · have h1 := row_sum 8 (tilt h w y c) fun r hr => vt.row hr
                have := vt.len
                rw [List.length_map]
                show _ + (tilt h w y c).length * 1 ≤ _
                omega
              · show _ = _
                rw [show (Str.ofString "\n") = S [10] from rfl, join_S]
                rfl
            rintro σ H7 ⟨rfl, s7⟩
            -- the word
            refine ⟨fun σ H8 => σ = [some (.ref l), some (.str (tx g)), some (.ref kd), some (.ref lv), some (.ref fd), some (.str (tx y)), some (sg c), some (.str (tx (tilt h w y c))), some (.str (S (u ++ [c])))] ∧ Same H6 H8, ?_, ?_⟩
            · have hg : DGet H7 kd (V.str (tx y)) (some (V.str (S u))) := by
                have := DGet.k (k := (Sum.inr (tx y) : L2.Key)) (s7 _ _ (s6 _ _ kn2))
                rw [kvP_val vy Kn kvg, (lkG_some I2.ok.1).mpr ku] at this
                exact this
              refine ⟨_, rfl, _, rfl, kd, _, rfl, hg, _, rfl, S u, S [c], rfl, rfl, ?_, ?_, s7⟩
              · rw [S_len, S_len]
                have := ul120
                show _ + 1 ≤ 16777216
                omega
              · rw [show S u ++ S [c] = S (u ++ [c]) from S_app7 u [c]]
                rfl
            rintro σ H8 ⟨rfl, s8⟩
            have s38 := s6.trans s8
            have fd8 := s8 _ _ fd6
            have hk8 : DGet H8 kd (V.str (tx (tilt h w y c))) ((lkG Kn (tilt h w y c)).map fun u => V.str (S u)) := by
              have := DGet.k (k := (Sum.inr (tx (tilt h w y c)) : L2.Key)) (s38 _ _ kn2)
              rw [kvP_val vt Kn kvg] at this
              exact this
            have hf8 : DGet H8 fd (V.str (tx (tilt h w y c))) ((lkG Fo (tilt h w y c)).map fun u => V.str (S u)) := by
              have := DGet.k (k := (Sum.inr (tx (tilt h w y c)) : L2.Key)) fd8
              rw [kvP_val vt Fo foV] at this
              exact this
            have I8 := I6.step (u := u) (y := y) (c := c)
            have dn : ∀ u' y' c', ((((u', y') ∈ ways h w g ∧ y' ∈ Lv.take i ∧ T4 c') ∨ (u' = u ∧ y' = y ∧ c' ∈ [100, 108, 114, 117].take i2)) ∨ (u' = u ∧ y' = y ∧ c' = c)) ↔ (((u', y') ∈ ways h w g ∧ y' ∈ Lv.take i ∧ T4 c') ∨ (u' = u ∧ y' = y ∧ c' ∈ [100, 108, 114, 117].take (i2 + 1))) := fun u' y' c' => by
              rw [List.take_succ, hc]
              constructor
              · rintro ((h | ⟨h1, h2, h3⟩) | ⟨h1, h2, h3⟩)
                · exact .inl h
                · exact .inr ⟨h1, h2, List.mem_append_left _ h3⟩
                · exact .inr ⟨h1, h2, List.mem_append_right _ (by rw [h3]; exact List.mem_cons_self)⟩
              · rintro (h | ⟨h1, h2, h3⟩)
                · exact .inl (.inl h)
                · rcases List.mem_append.mp h3 with h3 | h3
                  · exact .inl (.inr ⟨h1, h2, h3⟩)
                  · exact .inr ⟨h1, h2, List.mem_singleton.mp h3⟩
            have I9 := I8.weaken dn
            have fin : ∀ (H9 : Hp), Same H3 H9 → H9 fd = some (.dK (kvP (stF h w Kn Fo u y c))) → ∃ v6 v7 v8 Fo, ([some (.ref l), some (.str (tx g)), some (.ref kd), some (.ref lv), some (.ref fd), some (.str (tx y)), some (sg c), some (.str (tx (tilt h w y c))), some (.str (S (u ++ [c])))] : L2.St) = [some (.ref l), some (.str (tx g)), some (.ref kd), some (.ref lv), some (.ref fd), some (.str (tx y)), v6, v7, v8] ∧ Same H3 H9 ∧ H9 fd = some (.dK (kvP Fo)) ∧
                FI h w Kn (fun u' y' c' => ((u', y') ∈ ways h w g ∧ y' ∈ Lv.take i ∧ T4 c') ∨ (u' = u ∧ y' = y ∧ c' ∈ [100, 108, 114, 117].take (i2 + 1))) Fo := fun H9 a b => ⟨_, _, _, _, rfl, a, b, I9⟩
            have sput : ∀ o, Same H3 (upd H8 fd o) := fun o b o' eb => by rw [upd_ne (fun z => by rw [z, nfd] at eb; cases eb)]; exact s38 _ _ eb
            have fsz : (kvP Fo).length < sizeLine := by
              unfold kvP
              rw [List.length_map]
              show _ < 16777216
              omega
            refine ⟨_, rfl, _, rfl, kd, _, rfl, hk8, ?_⟩
            cases ek : lkG Kn (tilt h w y c) with
            | some q =>
              rw [show (!(Option.map (fun u => V.str (S u)) (some q)).isSome) = false from rfl]
              refine ⟨_, rfl, iteF ?_⟩
              refine fin _ s38 ?_
              unfold stF
              rw [if_pos (List.mem_map.mpr ⟨_, (lkG_some I2.ok.1).mp ek, rfl⟩)]
              exact fd8
            | none =>
              have nk := lkG_none.mp ek
              rw [show (!(Option.map (fun u => V.str (S u)) (none : Option (List Nat))).isSome) = true from rfl]
              refine ⟨_, rfl, iteT ?_⟩
              refine ⟨_, rfl, _, rfl, fd, rfl, .inl ⟨_, .inl fd8⟩, _, rfl, _, hf8, ?_⟩
              cases ef : lkG Fo (tilt h w y c) with
              | none =>
                have lz : (S (u ++ [c])).cps.toList < (Str.ofString "z").cps.toList := by
                  rw [S_list]
                  exact lt_z7 (T4_app (ways_least R hF hu).1 h4) (by simp)
                refine ⟨_, _, rfl, rfl, _, rfl, ?_⟩
                rw [decide_eq_true lz]
                refine iteT ⟨_, rfl, _, rfl, _, rfl, fd, _, rfl, DPut.k (k := (Sum.inr (tx (tilt h w y c)) : L2.Key)) fd8 fsz, ?_⟩
                rw [kvP_put vt foV]
                refine fin _ (sput _) ?_
                rw [upd_same]
                unfold stF
                rw [if_neg nk, ef]
              | some q =>
                obtain ⟨_, q4, ql⟩ := foW _ q ((lkG_some I6.1).mp ef)
                have lx : (S (u ++ [c])).cps.toList < (S q).cps.toList ↔ val (u ++ [c]) < val q := by
                  rw [S_list, S_list]
                  exact lex_val _ _ (T4_app (ways_least R hF hu).1 h4) q4 (by rw [List.length_append, hul, ql]; rfl)
                refine ⟨_, _, rfl, rfl, _, rfl, ?_⟩
                by_cases lt : val (u ++ [c]) < val q
                · rw [decide_eq_true (lx.mpr lt)]
                  refine iteT ⟨_, rfl, _, rfl, _, rfl, fd, _, rfl, DPut.k (k := (Sum.inr (tx (tilt h w y c)) : L2.Key)) fd8 fsz, ?_⟩
                  rw [kvP_put vt foV]
                  refine fin _ (sput _) ?_
                  rw [upd_same]
                  unfold stF
                  rw [if_neg nk, ef]
                  show _ = some (HO.dK (kvP (if val (u ++ [c]) < val q then _ else _)))
                  rw [if_pos lt]
                · rw [decide_eq_false (fun z => lt (lx.mp z))]
                  refine iteF (fin _ s38 ?_)
                  unfold stF
                  rw [if_neg nk, ef]
                  show _ = some (HO.dK (kvP (if val (u ++ [c]) < val q then _ else _)))
                  rw [if_neg lt]
                  exact fd8
          · rintro σ H6 ⟨v6, v7, v8, Fo, rfl, s6, fd6, I6⟩
            refine ⟨_, v6, v7, v8, Fo, rfl, s6, fd6, I6.weaken fun u' y' c' => ?_⟩
            rw [show [100, 108, 114, 117].take (S [100, 108, 114, 117]).cps.size = [100, 108, 114, 117] from rfl, List.take_succ, hy]
            constructor
            · rintro (⟨h1, h2, h3⟩ | ⟨rfl, rfl, h3⟩)
              · exact ⟨h1, List.mem_append_left _ h2, h3⟩
              · simp only [List.mem_cons, List.not_mem_nil, or_false] at h3
                exact ⟨hu, List.mem_append_right _ List.mem_cons_self, by unfold T4; omega⟩
            · rintro ⟨h1, h2, h3⟩
              rcases List.mem_append.mp h2 with h2 | h2
              · exact .inl ⟨h1, h2, h3⟩
              · have ey : y' = y := List.mem_singleton.mp h2
                subst ey
                refine .inr ⟨ways_uniq R hF h1 hu, rfl, ?_⟩
                simp only [List.mem_cons, List.not_mem_nil, or_false]
                unfold T4 at h3
                omega
        · rintro σ H5 ⟨v5, v6, v7, v8, Fo, rfl, s5, fd5, I5⟩
          refine ⟨v5, v6, v7, v8, Fo, rfl, s5, fd5, I5.1, (I5.weaken fun u y c => ?_).final R hF I2.ok⟩
          rw [show (txs7 Lv).length = Lv.length from List.length_map .., List.take_length]
          constructor
          · rintro ⟨h1, h2, h3⟩
            obtain ⟨u', a1, a2⟩ := (I2.mem y).mp h2
            rw [ways_uniq R hF h1 a1]
            exact ⟨a1, a2, h3⟩
          · rintro ⟨h1, h2, h3⟩
            exact ⟨h1, (I2.mem y).mpr ⟨u, h1, h2⟩, h3⟩
      rintro σ H5 ⟨v5', v6', v7', v8', Fo, rfl, s5, fd5, nd5, fo5⟩
      have foV : ∀ z ∈ Fo, VG h w z.1 := fun z hz => wVG ((fo5 z.1 z.2).mp hz).1
      have foL : Fo.length ≤ 4913 := by
        have := keys_few hF nd5 fun x hx => by
          obtain ⟨z, hz, rfl⟩ := List.mem_map.mp hx
          exact ⟨_, ((fo5 z.1 z.2).mp hz).1⟩
        rw [List.length_map] at this
        exact this
      have KN := I2.ok.next R hF nd5 fo5
      have nkd : kd ≠ fd := fun z => by rw [z, nfd] at kn2; cases kn2
      -- all that follows is known
      refine ⟨fun σ H6 => ∃ v7, σ = [some (.ref l), some (.str (tx g)), some (.ref kd), some (.ref lv), some (.ref fd), v5', v6', v7, v8'] ∧ Same H H6 ∧ H6 fd = some (.dK (kvP Fo)) ∧ H6 kd = some (.dK (kvP (Kn ++ Fo))), ?_, ?_⟩
      · refine ⟨fd, _, fd5, True.intro, fun od => ⟨_, rfl, fd, od, rfl, .inl ⟨_, upd_same, for_it walk_keys (fun i σ H6 => ∃ v7, σ = [some (.ref l), some (.str (tx g)), some (.ref kd), some (.ref lv), some (.ref fd), v5', v6', v7, v8'] ∧ Same H H6 ∧ H6 fd = some (.frz od (.dK (kvP Fo))) ∧ H6 kd = some (.dK (kvP (Kn ++ Fo.take i))))
          ⟨_, rfl, ?_, upd_same, ?_⟩ ?_ ?_ ?_⟩⟩⟩
        · exact fun b o e => by rw [upd_ne (fun z => by have := sH.free nfd; rw [z, this] at e; cases e)]; exact s5 _ _ (sH _ _ e)
        · rw [upd_ne nkd, List.take_zero, List.append_nil]
          exact s5 _ _ kn2
        · exact fun i σ H6 _ ⟨v7, _, _, e, _⟩ => e
        · rintro i x σ H6 H7 hi ⟨v7, rfl, s6, fd6, kd6⟩ ⟨rfl, kk, vv, hk, rfl⟩
          unfold kvP at hk
          rw [List.getElem?_map] at hk
          obtain ⟨z, hz, ez⟩ := Option.map_eq_some_iff.mp hk
          cases ez
          have hil := (List.getElem?_eq_some_iff.mp hz).1
          have split : Fo = Fo.take i ++ z :: Fo.drop (i + 1) := by
            have e1 := List.take_append_drop i Fo
            have e2 : Fo.drop i = z :: Fo.drop (i + 1) := by
              rw [List.drop_eq_getElem_cons hil]
              congr 1
              exact (List.getElem?_eq_some_iff.mp hz).2
            rw [e2] at e1
            exact e1.symm
          have nk : z.1 ∉ (Kn ++ Fo.take i).map (·.1) := fun hm => by
            have nd := KN.1
            rw [split, ← List.append_assoc, List.map_append, List.nodup_append] at nd
            exact nd.2.2 _ hm z.1 (by rw [List.map_cons]; exact List.mem_cons_self) rfl
          have vgKT : ∀ y ∈ Kn ++ Fo.take i, VG h w y.1 := fun y hy => by
            rcases List.mem_append.mp hy with hy | hy
            · exact kvg y hy
            · exact foV y (List.mem_of_mem_take hy)
          have vz := foV z (List.mem_of_getElem? hz)
          have ep : putG (Kn ++ Fo.take i) z.1 z.2 = Kn ++ Fo.take (i + 1) := by
            unfold putG
            rw [any_key, if_neg (by rw [decide_eq_false nk]; exact Bool.false_ne_true), List.take_succ, hz, List.append_assoc]
            rfl
          have eg : some (V.str (S z.2)) = valV (kvP Fo) (Sum.inr (tx z.1) : L2.Key) := by
            rw [kvP_val vz Fo foV, (lkG_some nd5).mpr (List.mem_of_getElem? hz)]
            rfl
          have hsz : (kvP (Kn ++ Fo.take i)).length < sizeLine := by
            unfold kvP
            rw [List.length_map, List.length_append, List.length_take]
            show _ < 16777216
            omega
          refine ⟨_, rfl, _, rfl, fd, _, rfl, .inl ⟨kvP Fo, (Sum.inr (tx z.1) : L2.Key), .inr ⟨od, fd6⟩, rfl, eg⟩, _, rfl, _, rfl, kd, _, rfl, DPut.k (k := (Sum.inr (tx z.1) : L2.Key)) kd6 hsz, ?_⟩
          rw [kvP_put vz vgKT, ep]
          refine ⟨_, rfl, fun b o e => ?_, ?_, upd_same⟩
          · rw [upd_ne (fun q => by rw [q, I2.k0] at e; cases e)]
            exact s6 _ _ e
          · rw [upd_ne nkd.symm]
            exact fd6
        · rintro σ H6 ⟨v7, rfl, s6, fd6, kd6⟩
          rw [show (kvP Fo).length = Fo.length from List.length_map .., List.take_length] at kd6
          refine ⟨fd6, v7, rfl, fun b o e => ?_, upd_same, by rw [upd_ne nkd]; exact kd6⟩
          rw [upd_ne (fun q => by have := sH.free nfd; rw [q, this] at e; cases e)]
          exact s6 _ _ e
      rintro σ H6 ⟨v7, rfl, s6, fd6, kd6⟩
      refine ⟨_, rfl, fd, _, rfl, .inl fd6, fun p hp => ?_⟩
      have s7 := same_new (o := .lst ((kvP Fo).map fun kv => L2.kV kv.1)) hp
      have ek : (kvP Fo).map (fun kv => L2.kV kv.1) = txs7 (Fo.map (·.1)) := by
        unfold kvP txs7
        rw [List.map_map, List.map_map]
        rfl
      refine ⟨p, _, _, _, _, _, j + 1, Kn ++ Fo, Fo.map (·.1), rfl, ⟨s6.trans s7, I2.k0, s7 _ _ kd6, by rw [upd_same, ek], KN, nd5, fun x => ?_⟩, ?_⟩
      · rw [List.mem_map]
        constructor
        · rintro ⟨z, hz, rfl⟩
          exact ⟨z.2, (fo5 z.1 z.2).mp hz⟩
        · rintro ⟨u, hu⟩
          exact ⟨(x, u), (fo5 x u).mpr hu, rfl⟩
      · unfold mu7
        have e1 : (if Lv.isEmpty = true then 0 else 1) = 1 := by
          cases Lv with
          | nil => exact absurd rfl hL
          | cons _ _ => rfl
        rw [List.length_append, e1]
        cases Fo with
        | nil =>
          show (400 - (Kn.length + 0)) * 2 + 0 < _
          omega
        | cons z Fo =>
          show (400 - (Kn.length + (Fo.length + 1))) * 2 + 1 < _
          omega
    rintro σ H2 ⟨lv, v4, v5, v6, v7, v8, j, Kn, Lv, rfl, I2⟩
    refine ⟨_, rfl, _, rfl, by show 0 ≤ sizeLine; decide, fun z hz => ?_⟩
    have sz := same_new (o := .lst []) hz
    refine ⟨lv, z, _, rfl, rfl, SqL.of (sz _ _ I2.lvl), SqL.of upd_same, by show 2 ≤ sizeLine; decide, fun q hq => ?_⟩
    have sq := same_new (o := .tup [V.ref kd, V.bl (txs7 Lv).isEmpty]) hq
    refine k _ q kd Kn (txs7 Lv).isEmpty ((I2.same.trans sz).trans sq) I2.k0 upd_same (sq _ _ (sz _ _ I2.kn)) I2.ok.1 (fun x u hx => ((I2.ok.2 x u).mp hx).1) fun eb u x hm => ?_
    have eL : Lv = [] := by
      cases Lv with
      | nil => rfl
      | cons _ _ => cases eb
    refine (I2.ok.2 x u).mpr ⟨hm, no_more R hF (fun u x hu e => ?_) u.length u x (Nat.le_refl _) hm⟩
    have := (I2.mem x).mpr ⟨u, hu, e⟩
    rw [eL] at this
    cases this
end
end TR
end
section
set_option Elab.async false
set_option maxRecDepth 100000
set_option linter.all false
namespace TR
open PySem PySem.Spec PyProof.Rows L2 TM TK TB TP TH TU TG GenW LamX TW
theorem dpall_at7 {K : PySem.W.Frag} {H : Hp} : ∀ {xs : List V} {ds : List PyData}, xs.length = ds.length → (∀ (i : Nat) (x : V) (d : PyData), xs[i]? = some x → ds[i]? = some d → Dp K H x d) → DpAll K H xs ds
  | [], [], _, _ => .nil
  | x :: xs, d :: ds, hl, f => .cons (f 0 x d rfl rfl) (dpall_at7 (by simpa using hl) fun i => f (i + 1))
  | [], _ :: _, hl, _ => nomatch hl
  | _ :: _, [], hl, _ => nomatch hl
theorem md_get7 {H : Hp} {e : Addr} {w : Nat} {pos : Nat → Nat} {M : List Nat} {qa : Nat → Addr} (h : MdAt H e w pos M qa) {m : Nat} (hm : m ∈ M) : DGet H e (sg m) (some (.ref (qa m))) := by
  have := DGet.k (k := (Sum.inr (S [m]) : L2.Key)) h.1
  rw [show valV (mkv M qa) (Sum.inr (S [m]) : L2.Key) = some (.ref (qa m)) from valV_at (f := fun m => (Sum.inr (S [m]) : L2.Key)) (v := fun m => V.ref (qa m)) hm fun a _ z => key_inj z] at this
  exact this
def bstD (u : List Nat) : PyData := .tuple [.int (u.length : Nat), .str (S u)]
theorem bst_lt (u v : List Nat) : PySem.W.dataLt (bstD u) (bstD v) = decide (u.length < v.length ∨ (u.length = v.length ∧ u < v)) := by
  unfold bstD
  rw [PySem.W.dataLt_pair (by simp [PySem.W.alike]) (by simp [PySem.W.alike]), PySem.W.dataLt_int, PySem.W.dataLt_str]
  simp only [PyData.eqv, beq_iff_eq, S_list]
  by_cases e : u.length = v.length
  · have e2 : ((u.length : Nat) : Int) = (v.length : Nat) := by omega
    rw [if_pos e2]
    by_cases q : u = v
    · subst q
      have : ¬ u < u := List.lt_irrefl u
      simp [this]
    · have q2 : ¬ S u = S v := fun z => q (S_in z)
      rw [if_neg q2]
      simp [e]
  · have e2 : ¬ ((u.length : Nat) : Int) = (v.length : Nat) := by omega
    rw [if_neg e2]
    rw [Bool.eq_iff_iff, decide_eq_true_eq, decide_eq_true_eq]
    omega
/-- the first of the sorted ones is the least -/
theorem bst_least {u v : List Nat} (hu : ∀ c ∈ u, T4 c) (hv : ∀ c ∈ v, T4 c) (h : PySem.W.dataLt (bstD v) (bstD u) = false) : val u ≤ val v := by
  rw [bst_lt] at h
  have h := of_decide_eq_false h
  refine Nat.le_of_not_lt fun z => h ?_
  have l1 := ways_len_le hv hu (Nat.le_of_lt z)
  rcases Nat.lt_or_ge v.length u.length with q | q
  · exact .inl q
  · exact .inr ⟨by omega, (lex_val v u hv hu (by omega)).mpr z⟩
section
variable {P : Program} {w_ : World} {K : PySem.W.Frag} {mg : Str → Option Value} {base : Heap} {n : Nat}
abbrev NBs7 : List Str := ["_law_paths", "_law_path"]
theorem scBs7 : FnScope NBs7 ["_law_paths"] (defScope sLawBest) := ⟨rfl, rfl, rfl, by decide +kernel, rfl, by decide +kernel, by decide +kernel⟩
abbrev wordsV (us : List (List Nat)) : List V := us.map fun u => V.str (S u)
def spBs7 (K : PySem.W.Frag) : Sp := fun vs H Q _ => ∃ (a : Addr) (us : List (List Nat)), vs = [.ref a] ∧ SqL K H a (wordsV us) ∧ (∀ u ∈ us, (∀ c ∈ u, T4 c) ∧ u.length ≤ 5000) ∧ us.length ≤ 5000 ∧
  (∀ H', Same H H' → us = [] → Q .non H') ∧ ∀ H' u, Same H H' → u ∈ us → (∀ v ∈ us, val u ≤ val v) → Q (.str (S u)) H'
theorem ok_bs7 {f : Addr} {fd : FuncData} (F : Fun K "_law_best" "_law_best" sLawBest f fd) (mlen : mg "len" = none) (msrt : mg "sorted" = none) : FnOk P w_ K mg base CX0 1 f fd ["_law_paths"] (spBs7 K) := by
  refine F.ok scBs7 (fun vs H Q E h => ?_) (fun cdv A outer s H vs Q E hr h => ?_)
  · obtain ⟨a, us, rfl, _⟩ := h
    rfl
  · obtain ⟨a, us, rfl, ha, hu, hl, k0, k1⟩ := h
    have nd := scBs7.nd
    refine ⟨_, pss_one (ps_ret (pe_ifExp (pt_cmpR (op_neE7 (K := K) rfl hr.units) (pv 0) (pe_lst pa_nil) (nomark _))
      (pe_ix ix_tup (pe_ix ix_list (pe_callB (cr_sortedDt hr.units) (by rfl) msrt (by decide +kernel) (pa_cons (pe_lc (own := [("_law_path", 1)]) (g := gName 1) (tt := tYes) rfl nd (pi_list (pv 0)) (blkOk_by (N := NBs7) (sc := defScope sLawBest) (by decide +kernel)) (fun _ _ _ _ _ => pg_name (i := 1) nd rfl (.inl rfl)) (fun _ _ _ _ _ => pts_nil)
        (fun _ _ _ _ _ => pe_tup (pa_cons (pe_callB call_len_str (by rfl) mlen PySem.boot_len (pa_cons (pv 1) pa_nil)) (pa_cons (pv 1) pa_nil)))) pa_nil)) pe_int (fun _ _ => rfl)) pe_int (fun _ _ => rfl)) pe_non)), ?_⟩
    refine ⟨_, rfl, by show 0 ≤ sizeLine; decide, fun z hz => ?_⟩
    have sz := same_new (o := .lst []) hz
    refine ⟨a, z, _, rfl, rfl, sz.seq ha, SqL.of upd_same, _, rfl, ?_⟩
    by_cases hn : us = []
    · rw [show (!(wordsV us).isEmpty) = false by rw [hn]; rfl]
      exact iteF (k0 _ sz hn)
    rw [show (!(wordsV us).isEmpty) = true by cases us with | nil => exact absurd rfl hn | cons _ _ => rfl]
    have ha1 := sz.seq ha
    generalize upd H z (.lst []) = H1 at sz ha1
    refine iteT ⟨_, rfl, a, rfl, ⟨_, ha1⟩, fun D hD => lc_list (K := K) (a := a) (xs := wordsV us) (fun i H2 => Same H1 H2 ∧ ∃ qs : List Addr, H2 D = some (.lst (qs.map V.ref)) ∧ qs.length = i ∧ ∀ (k : Nat) (q : Addr) (u : List Nat), qs[k]? = some q → us[k]? = some u → q ≠ D ∧ H2 q = some (.tup [.int (u.length : Nat), .str (S u)]))
      ⟨same_new hD, [], upd_same, rfl, fun k q u e => by simp at e⟩ (fun i H2 _ ⟨sm, _⟩ => sm.seq ha1) ?_ ?_⟩
    · rintro i x H2 hx ⟨sm, qs, hq, lq, hqs⟩
      obtain ⟨u, hu', rfl⟩ := at_map hx
      have hil := (List.getElem?_eq_some_iff.mp hu').1
      refine ⟨rfl, _, rfl, S u, rfl, ?_, _, rfl, by show 2 ≤ sizeLine; decide, fun q hq2 => ?_⟩
      · rw [S_len]
        have := (hu u (List.mem_of_getElem? hu')).2
        show _ ≤ 16777216
        omega
      rw [S_len]
      have s2 := same_new (o := .tup [V.int (u.length : Nat), .str (S u)]) hq2
      have qD : q ≠ D := fun e => by rw [e, hq] at hq2; cases hq2
      refine ⟨_, s2 _ _ hq, ?_, fun b o e => ?_, qs ++ [q], ?_, by rw [List.length_append, lq]; rfl, fun k q' u' e1 e2 => ?_⟩
      · rw [List.length_map, lq]
        show i < 16777216
        omega
      · rw [upd_ne (fun e2 => by rw [e2, hD] at e; cases e)]
        exact s2 _ _ (sm _ _ e)
      · rw [upd_same, List.map_append]
        rfl
      · rcases Nat.lt_or_ge k qs.length with y | y
        · rw [List.getElem?_append_left y] at e1
          obtain ⟨h1, h2⟩ := hqs k q' u' e1 e2
          exact ⟨h1, by rw [upd_ne h1]; exact s2 _ _ h2⟩
        · rw [List.getElem?_append_right y] at e1
          have k0 : k - qs.length = 0 := by
            have := (List.getElem?_eq_some_iff.mp e1).1
            simp at this
            omega
          rw [k0] at e1
          cases e1
          have : k = i := by omega
          subst this
          rw [hu'] at e2
          cases e2
          exact ⟨qD, by rw [upd_ne qD]; exact upd_same⟩
    · rintro H2 ⟨sm, qs, hq, lq, hqs⟩
      rw [show (wordsV us).length = us.length from List.length_map ..] at lq
      have dall : DpAll K H2 (qs.map V.ref) (us.map bstD) := dpall_at7 (by simp [lq]) fun i x d e1 e2 => by
        obtain ⟨q, hq', rfl⟩ := at_map e1
        obtain ⟨u, hu', rfl⟩ := at_map e2
        exact .tup (SqT.of (hqs i q u hq' hu').2) (.cons (.int _) (.cons (.str _) .nil))
      refine ⟨D, qs.map V.ref, us.map bstD, rfl, SqL.of hq, dall, ?_, ?_, ?_, fun zs p hzs hp => ?_⟩
      · intro d hd d' hd'
        obtain ⟨u, _, rfl⟩ := List.mem_map.mp hd
        obtain ⟨v, _, rfl⟩ := List.mem_map.mp hd'
        simp [bstD, PySem.W.alike, PySem.W.alikeAll]
      · refine .inl fun d hd => ?_
        obtain ⟨u, _, rfl⟩ := List.mem_map.mp hd
        exact ⟨_, _, rfl⟩
      · intro d hd
        obtain ⟨u, _, rfl⟩ := List.mem_map.mp hd
        simp [bstD, PyData.depth, PyData.depthAll]
      have pws := PySem.W.sort_pairwise (PySem.W.sortLe_total (listOrd itemOrd) false fun b : V × PyData => PySem.W.keyToks b.2) ((qs.map V.ref).zip (us.map bstD))
      have perm := List.mergeSort_perm ((qs.map V.ref).zip (us.map bstD)) (PySem.W.dataLe false (·.2))
      have hlen : ((qs.map V.ref).zip (us.map bstD)).length = us.length := by simp [lq]
      change (((qs.map V.ref).zip (us.map bstD)).mergeSort (PySem.W.dataLe false (·.2))).Pairwise _ at pws
      generalize ((qs.map V.ref).zip (us.map bstD)).mergeSort (PySem.W.dataLe false (·.2)) = L at hzs pws perm
      cases L with
      | nil =>
        have := perm.length_eq
        rw [hlen] at this
        exact absurd (List.eq_nil_of_length_eq_zero this.symm) hn
      | cons z0 L' =>
        cases hzs with
        | cons hx ht =>
          rename_i x0 zs'
          have m0 := perm.mem_iff.mp List.mem_cons_self
          have md : z0.2 ∈ us.map bstD := (List.of_mem_zip (show (z0.1, z0.2) ∈ _ from m0)).2
          obtain ⟨u0, hu0, eu⟩ := List.mem_map.mp md
          replace hx : Dp K H2 x0 z0.2 := hx
          rw [← eu] at hx
          have least : ∀ v ∈ us, val u0 ≤ val v := fun v hv => by
            obtain ⟨i, hi⟩ := List.getElem?_of_mem hv
            have hil := (List.getElem?_eq_some_iff.mp hi).1
            obtain ⟨q, hq'⟩ : ∃ q, qs[i]? = some q := ⟨_, List.getElem?_eq_getElem (by omega)⟩
            have mz : (V.ref q, bstD v) ∈ (qs.map V.ref).zip (us.map bstD) := List.mem_of_getElem? (i := i) (by rw [List.getElem?_zip_eq_some]; exact ⟨by rw [List.getElem?_map, hq']; rfl, by rw [List.getElem?_map, hi]; rfl⟩)
            rcases List.mem_cons.mp (perm.mem_iff.mpr mz) with e | e
            · have : bstD v = bstD u0 := by rw [eu, ← e]
              have : v = u0 := by
                unfold bstD at this
                injection this with this
                injection this with _ this
                injection this with this _
                injection this with this
                exact S_in this
              rw [this]
              exact Nat.le_refl _
            · have h1 := (List.pairwise_cons.mp pws).1 _ e
              have h2 : (!PySem.W.dataLt (bstD v) z0.2) = true := h1
              rw [← eu] at h2
              exact bst_least (hu u0 hu0).1 (hu v hv).1 (by simpa using h2)
          unfold bstD at hx
          cases hx with
          | tup hs hall =>
            cases hall with
            | cons a1 hall =>
              cases a1
              cases hall with
              | cons a2 hall =>
                cases a2
                cases hall
                rename_i q
                have s3 := same_new (o := .lst (V.ref q :: zs')) hp
                refine ⟨p, _, _, _, rfl, rfl, SqL.of upd_same, (show atI (V.ref q :: zs') ((0 : Nat) : Int) = some (V.ref q) from atI_nat rfl), q, _, _, _, rfl, rfl, s3.tup hs, (show atI [V.int (u0.length : Nat), V.str (S u0)] ((1 : Nat) : Int) = some (V.str (S u0)) from atI_nat rfl), ?_⟩
                exact k1 _ u0 ((sz.trans sm).trans s3) hu0 least
abbrev NBe7 : List Str := ["_law_text", "_law_one", "_law_other", "_law_places_here", "_law_r", "_law_c", "_law_low", "_law_right"]
theorem scBe7 : FnScope NBe7 ["_law_text", "_law_one", "_law_other"] (defScope sLawAreBeside) := ⟨rfl, rfl, rfl, by decide +kernel, rfl, by decide +kernel, by decide +kernel⟩
def spBe7 (K : PySem.W.Frag) : Sp := fun vs H Q _ => ∃ (m m' h w : Nat) (x : Grid), vs = [.str (tx x), sg m, sg m'] ∧ VG h w x ∧ m ∈ mb x.flatten ∧ m' ∈ mb x.flatten ∧ ∀ H', Same H H' → Q (.bl (near w (x.flatten.idxOf m) (x.flatten.idxOf m'))) H'
theorem ok_be7 {f fP : Addr} {fd fdP : FuncData} (F : Fun K "_law_are_beside" "_law_are_beside" sLawAreBeside f fd) (habs : mg "abs" = none)
    (GP : FnOk P w_ K mg base CX0 1 fP fdP ["_law_rows_here"] (spPs K)) (kP : PySem.W.keepIn K (.ref fP) = true) (bP : Binds K fdP ["_law_rows_here"] []) (mP : mg "_law_places" = some (.ref fP)) : FnOk P w_ K mg base CX0 2 f fd ["_law_text", "_law_one", "_law_other"] (spBe7 K) := by
  refine F.ok scBe7 (fun vs H Q E h => ?_) (fun cdv A outer s H vs Q E hr h => ?_)
  · obtain ⟨m, m', h, w, x, rfl, _⟩ := h
    rfl
  · obtain ⟨m, m', h, w, x, rfl, hV, hm, hm', k⟩ := h
    have nd := scBe7.nd
    refine ⟨_, C8.pss_cut (ps_set (i := 3) nd rfl (.inl rfl) (pe_call GP hr rfl mP kP bP .nil pass0 (pa_cons (pe_split (pv 0) pe_str) pa_nil)))
      (C8.pss_cut (ps_asg (pe_tup (pa_cons (pe_dget (hu_of hr) (pv 3) (pv 1) (fun _ _ => rfl)) (pa_cons (pe_dget (hu_of hr) (pv 3) (pv 2) (fun _ _ => rfl)) pa_nil)))
          (pg_tup rfl (pgs_cons (pg_tup rfl (pgs_cons (pg_name (i := 4) nd rfl (.inl rfl)) (pgs_cons (pg_name (i := 5) nd rfl (.inl rfl)) pgs_nil))) (pgs_cons (pg_tup rfl (pgs_cons (pg_name (i := 6) nd rfl (.inl rfl)) (pgs_cons (pg_name (i := 7) nd rfl (.inl rfl)) pgs_nil))) pgs_nil))))
      (pss_one (ps_ret (pe_cmpR op_eq (pe_op op_add (pe_callB call_abs (by rfl) habs (by decide +kernel) (pa_cons (pe_op op_sub (pv 4) (pv 6)) pa_nil)) (pe_callB call_abs (by rfl) habs (by decide +kernel) (pa_cons (pe_op op_sub (pv 5) (pv 7)) pa_nil))) pe_int (nomark _))))), ?_⟩
    have hjn : (S (TL.joinL [10] x)).length + 2 ≤ sizeLine := by
      have h1 := joinL_len [10] 8 x fun r hr => hV.row hr
      have h2 := hV.len
      rw [S_len]
      show _ ≤ 16777216
      have : x.length * (8 + [10].length) = x.length * 9 := rfl
      omega
    have e4 : (Txt.split (tx x) (Str.ofString "\n")).map V.str = rowV x := by
      unfold tx
      have := split_back hV
      rw [show Str.ofString "\n" = S [10] from rfl, this, List.map_map]
      rfl
    refine ⟨fun σ H1 => ∃ e qa, σ = [some (.str (tx x)), some (sg m), some (sg m'), some (.ref e), none, none, none, none] ∧ Same H H1 ∧ MdAt H1 e w (fun m => x.flatten.idxOf m) (mb x.flatten) qa, ?_, ?_⟩
    · refine ⟨_, rfl, ⟨_, rfl⟩, _, _, rfl, rfl, rfl, hjn, fun b hb => ?_⟩
      have sb := same_new (o := .lst ((Txt.split (tx x) (Str.ofString "\n")).map V.str)) hb
      exact ⟨b, h, w, x, rfl, hV, by rw [e4]; exact upd_same, fun H6 e qa s6 he M => ⟨e, qa, rfl, sb.trans s6, M⟩⟩
    rintro σ H1 ⟨e, qa, rfl, s1, M⟩
    refine ⟨fun σ H2 => σ = [some (.str (tx x)), some (sg m), some (sg m'), some (.ref e), some (.int (((x.flatten.idxOf m : Nat) : Int) / w)), some (.int (((x.flatten.idxOf m : Nat) : Int) % w)), some (.int (((x.flatten.idxOf m' : Nat) : Int) / w)), some (.int (((x.flatten.idxOf m' : Nat) : Int) % w))] ∧ Same H H2, ?_, ?_⟩
    · refine ⟨_, rfl, _, rfl, e, _, rfl, md_get7 M hm, _, rfl, _, rfl, e, _, rfl, md_get7 M hm', by show 2 ≤ sizeLine; decide, fun tp htp => ?_⟩
      have st := same_new (o := .tup [V.ref (qa m), V.ref (qa m')]) htp
      have t1 := st _ _ (M.2 m hm)
      have t2 := st _ _ (M.2 m' hm')
      exact ⟨tp, _, rfl, SqT.of upd_same, rfl, _, _, rfl, qa m, _, rfl, SqT.of t1, rfl, _, _, rfl, _, _, rfl, rfl, _, _, rfl, qa m', _, rfl, SqT.of t2, rfl, _, _, rfl, _, _, rfl, rfl, rfl, rfl, s1.trans st⟩
    rintro σ H2 ⟨rfl, s2⟩
    have e : (decide (V.int (absI (((x.flatten.idxOf m : Nat) : Int) / w - ((x.flatten.idxOf m' : Nat) : Int) / w) + absI (((x.flatten.idxOf m : Nat) : Int) % w - ((x.flatten.idxOf m' : Nat) : Int) % w)) = V.int 1)) = near w (x.flatten.idxOf m) (x.flatten.idxOf m') := by
      unfold near
      by_cases z : absI (((x.flatten.idxOf m : Nat) : Int) / w - ((x.flatten.idxOf m' : Nat) : Int) / w) + absI (((x.flatten.idxOf m : Nat) : Int) % w - ((x.flatten.idxOf m' : Nat) : Int) % w) = 1
      · rw [decide_eq_true z, z]
        rfl
      · rw [decide_eq_false z, decide_eq_false fun y => z (V.int.inj y)]
    refine ⟨_, rfl, _, rfl, _, _, rfl, rfl, _, rfl, _, rfl, _, rfl, _, _, rfl, rfl, _, rfl, _, _, rfl, rfl, rfl, ?_⟩
    have k2 : Q (.bl (decide (V.int (absI (((x.flatten.idxOf m : Nat) : Int) / w - ((x.flatten.idxOf m' : Nat) : Int) / w) + absI (((x.flatten.idxOf m : Nat) : Int) % w - ((x.flatten.idxOf m' : Nat) : Int) % w)) = V.int 1))) H2 := by
      rw [e]
      exact k _ s2
    exact k2
end
end TR
end
section
set_option Elab.async false
set_option maxRecDepth 100000
set_option linter.all false
namespace TH
open PySem PySem.Spec PyProof.Rows L2 TR
section
variable {X : Cx} {n : Nat} {pins : List (Addr × Obj)} {σ : L2.St}
def PTsn (n : Nat) (X : Cx) (ifs : List Expr) (t : TT) : Prop := ∀ (pins : List (Addr × Obj)) (s : Shared) (σ : L2.St) (H : Hp) (Q : Bool → Hp → Prop), n ≤ s.toks → Inv X pins σ H s → t σ H Q →
  wpAny (model X.prog X.w) X.A (forIn ifs true fun c r => if r = true then do let ok ← isTrue c X.env (eval c X.env); pure (ForInStep.yield ok) else pure (ForInStep.yield r)) (TP X pins σ Q) X.xe s
theorem ptsn_one {c : Expr} {t : TT} (h : PTn n X c t) : PTsn n X [c] t := fun pins s σ H Q hn I hw => wpAny_tests_one (h pins s σ H Q hn I hw)
theorem _root_.L2.PI.up {tg iter : Expr} {wi : TI} (h : PI X tg iter wi) : PIn n X tg iter wi := fun pins s σ H R _ I q => h.run pins s σ H R I q
/-- what a comprehension reads of its loop -/
abbrev LcF (g : TG) (tt : TT) (te : TE) (vs : List Nat) (σ : L2.St) (J : It) (D : Addr) (W : Nat → Nat → Hp → Prop) (Qd : Hp → Prop) : Prop := ∀ i m H, W i m H →
  (J.stop i H ∧ Qd H) ∨ (J.go i H ∧ ∃ Nx : Hp → Prop, (∀ H', Nx H' → ∃ m', m' < m ∧ W (i + 1) m' H') ∧ ∀ x H', J.yld i H x H' → g x (wipe σ vs) H' fun σ2 H2 => wipe σ2 vs = wipe σ vs ∧ tt σ2 H2 fun b H3 =>
    if b = true then te σ2 H3 fun y H4 => ∃ acc, H4 D = some (.lst acc) ∧ acc.length < sizeLine ∧ Nx (upd H4 D (.lst (acc ++ [y]))) else Nx H3)
theorem lcf_loop {B : Cx} {elt tg iter : Expr} {ifs : List Expr} {scope : Scope} {pos : Pos} {g : TG} {tt : TT} {te : TE} {vs : List Nat} {J : It} {fp : List Addr} {it D : Addr} {tn : Nat → Heap → Prop} {W : Nat → Nat → Hp → Prop} {Qd : Hp → Prop} {R : Result → Shared → Prop} {H : Hp} {s : Shared} {m0 : Nat}
    (hx : ∀ b ∈ fp, b ∈ B.ex) (hpn : B.pn = []) (hxe : B.xe = fun _ _ => False) (hc : B.calm = true) (T : Turn B.prog B.w B.K tg J fp it tn) (pg : PG B tg g) (pt : PTsn n B ifs tt) (pe : PEn n B elt te) (turn : LcF g tt te vs σ J D W Qd)
    (fin : ∀ H' s', Inv B [] (wipe σ vs) H' s' → Qd H' → R (.ok .next) s') (hn : n ≤ s.toks) (I : Inv B [] (wipe σ vs) H s) (st : tn 0 s.heap) (hf : ∀ b ∈ fp, H b = none) (w0 : W 0 m0 H) :
    codeAny (model B.prog B.w) B.A (.compLoop (.ListComp elt [⟨tg, iter, ifs, 0⟩] scope pos) 0 (.ref it) (.ref D) B.env) R s := by
  refine compLoop_any (fun m t => n ≤ t.toks ∧ ∃ i H', Inv B [] (wipe σ vs) H' t ∧ tn i t.heap ∧ (∀ b ∈ fp, H' b = none) ∧ W i m H') ?_ m0 ⟨hn, 0, H, I, st, hf, w0⟩
  rintro m t ⟨hm, i, H1, I1, st1, f1, w1⟩
  rcases turn i m H1 w1 with ⟨stop, qd⟩ | ⟨go, Nx, hNx, step⟩
  · refine thnFN hm (T.done B rfl rfl rfl hc i [] t _ H1 (fun _ _ => False) I1 (blk_fp hx hpn I1 f1) st1 stop) fun r t2 _ ⟨e, I2⟩ => ?_
    rw [e]
    exact fin H1 t2 I2 qd
  · refine thnFN hm (T.item B rfl rfl rfl hc i [] t _ H1 (fun _ _ => False) I1 (blk_fp hx hpn I1 f1) st1 go) fun r t2 hm2 ⟨u, e, more⟩ => ?_
    rw [e]
    refine thnFN hm2 more fun _ t3 hm3 ⟨x, H3, I3, rx, y3, st3, f3⟩ => ?_
    have pinned := I3.pinned (blk_fp hx hpn I3 f3) (T.obj _ _ st3)
    have h4 := pg.run _ t3 _ H3 x u _ pinned rx (step x H3 y3)
    rw [hxe] at h4
    refine thnFN hm3 h4 fun _ t4 hm4 ⟨σ4, H4, I4, w4, q4⟩ => ?_
    have again : ∀ {t6 : Shared} {H6 : Hp}, n ≤ t6.toks → Inv B ([] ++ pinsAt fp t3.heap) σ4 H6 t6 → Nx H6 → ∃ m', m' < m ∧ (n ≤ t6.toks ∧ ∃ i H', Inv B [] (wipe σ vs) H' t6 ∧ tn i t6.heap ∧ (∀ b ∈ fp, H' b = none) ∧ W i m' H') := fun {t6 H6} hm6 I6 nx6 => by
      obtain ⟨m', lt, w6⟩ := hNx H6 nx6
      obtain ⟨k1, k2, k3⟩ := blk_turn T st3 w4 I6
      exact ⟨m', lt, hm6, i + 1, H6, k1, k2, k3, w6⟩
    have h5 := pt _ t4 σ4 H4 _ hm4 I4 q4
    rw [hxe] at h5
    refine thnFN hm4 h5 fun b t5 hm5 ⟨H5, I5, q5⟩ => ?_
    cases b with
    | false =>
      rw [if_neg Bool.false_ne_true] at q5 ⊢
      exact again hm5 I5 q5
    | true =>
      rw [if_pos rfl] at q5 ⊢
      have h6 := pe _ t5 σ4 H5 _ hm5 I5 q5
      rw [hxe] at h6
      refine thnFN hm5 h6 fun z t6 hm6 ⟨yv, H6, I6, r6, acc, hD, hz, nx⟩ => ?_
      exact thnFN hm6 (app_ok (X := B) (E := fun _ _ => False) (Q := fun _ t7 => ∃ H7, Inv B _ σ4 H7 t7 ∧ Nx H7) I6 hD hz r6 fun t7 I7 => ⟨_, I7, nx⟩) fun _ t7 hm7 ⟨H7, I7, nx7⟩ => again hm7 I7 nx7
end
end TH
end
namespace TR
end TR
namespace TH
end TH
section
set_option Elab.async false
set_option maxRecDepth 100000
set_option linter.all false
namespace TR
open PySem PySem.Spec PyProof.Rows L2 TM TK TB TP TH TU TG GenW LamX
abbrev fnD (q : Str) (params : Arguments) (body : Expr) (scope : Scope) (cl : List (Str × Addr)) (pm cv ctv dV : Value) : FuncData := { PySem.W.kla_fn "<lambda>" q params body scope cl pm cv ctv with defaults := dV }
abbrev objD (q : Str) (params : Arguments) (body : Expr) (scope : Scope) (cl : List (Str × Addr)) (pm cv ctv dV : Value) : Obj := { cls := .type "function", data := .func (fnD q params body scope cl pm cv ctv dV) }
def LamD (f c' : Addr) (q : Str) (params : Arguments) (body : Expr) (scope : Scope) (cl : List (Str × Addr)) (dV : Value) : HO := .ext fun h => ∃ pm ctv : Value, h.get? f = some (objD q params body scope cl pm (.ref c') ctv dV)
theorem lamD_ok {P : Program} {w : World} {H : Hp} {h : Heap} {f c' : Addr} {q : Str} {params : Arguments} {body : Expr} {scope : Scope} {cl : List (Str × Addr)} {pm ctv dV : Value} (e : h.get? f = some (objD q params body scope cl pm (.ref c') ctv dV)) :
    ObjOk P w H h f (LamD f c' q params body scope cl dV) := ⟨⟨pm, ctv, e⟩, ⟨_, e⟩, fun _ _ ⟨pm, ctv, e⟩ st => ⟨pm, ctv, st _ e⟩⟩
theorem lamD_at {P : Program} {w : World} {H : Hp} {h : Heap} {f c' : Addr} {q : Str} {params : Arguments} {body : Expr} {scope : Scope} {cl : List (Str × Addr)} {dV : Value} (hk : HOk P w H h) (e : H f = some (LamD f c' q params body scope cl dV)) :
    ∃ pm ctv : Value, h.get? f = some (objD q params body scope cl pm (.ref c') ctv dV) := (hk f _ e).1
section
variable {M : Model} {A : Around} {E : Value → Shared → Prop} {s : Shared} {q : Str} {params : Arguments} {body : Expr} {scope : Scope} {env : Env} {c P : Addr} {ps : Array Value} {pos : Pos} {fl : Nat} {mg : Str → Option Value} {clos : List (Str × Addr)} {Q : Value → Shared → Prop} {dV : Value}
/-- the object of a lambda with captured names is made, its code object new or found -/
theorem tailD (hc : closureFor scope env = pure clos) (hne : clos.isEmpty = false) (hgl : env.globals = mainGlobals) (hns : s.heap.Ns mainGlobals mg) (hcd : env.code = .ref c) (HC : PySem.W.CodeHd s.heap c P) (hP : s.heap.get? P = some { cls := .none, data := .fields ps }) (ht : TriplesOk ps.toList)
    (hgP : mainGlobals ≠ P) (hbm : s.heap.BuiltinsAt mg P)
    (k : ∀ (cv : Value) (h' : Heap) (tk : Tok) (pm ctv : Value),
      ((codeAmong pos ps.toList = some cv ∧ ∀ b o, s.heap.get? b = some o → h'.get? b = some o) ∨
        (codeAmong pos ps.toList = none ∧ ∃ c' : Addr, cv = .ref c' ∧ (∀ b o, b ≠ P → s.heap.get? b = some o → h'.get? b = some o) ∧ s.heap.objs.size ≤ c' ∧ h'.CodeRec (.ref c') q ∧ h'.get? P = some { cls := .none, data := .fields (ps ++ #[rawInt pos.line, rawInt pos.col, .ref c']) })) →
      s.heap.objs.size ≤ h'.objs.size → Q (.ref h'.objs.size) { s with heap := h'.push (objD q params body scope clos pm cv ctv dV), toks := tk }) :
    wpAny M A (makeTail "<lambda>" q params (.expr body) scope env dV .none none pos fl) Q E s := by
  obtain ⟨bm, ob, b1, b2, _, b3, b4, b5, b6, b7⟩ := hbm
  unfold makeTail
  rw [hc, hgl]
  refine wpAny_bind (wpAny_pure ?_)
  rw [hne]
  simp only [Bool.false_eq_true, if_false]
  refine wpAny_bind (wpAny_newTextTuple ?_)
  have push : ∀ {oT : Obj} {b : Addr} {o : Obj}, s.heap.get? b = some o → (s.heap.push oT).get? b = some o := fun e => Heap.get?_push_of_some _ e
  have HC2 : ∀ oT : Obj, PySem.W.CodeHd (s.heap.push oT) c P := fun oT => HC.keeps fun b o e => push e
  cases e : codeAmong pos ps.toList with
  | some cv =>
    refine wpAny_bind (wpAny_functionCode_hit hcd ((HC2 _).code (push hP) ht) e ?_)
    refine wpAny_bind (wpAny_builtinsFor (hns.push _) b1 b2 (push b4) b5 b6 b7 ?_)
    refine wpAny_bind (wpAny_nsGet (hns.push _) ?_)
    exact wpAny_bind (wpAny_pure (wpAny_newObj_type (k cv _ s.toks _ _ (.inl ⟨e, fun b o z => push z⟩) (by rw [Heap.size_push]; omega)) (by size_fits)))
  | none =>
    refine wpAny_bind (wpAny_functionCodeX hcd ((HC2 _).code (push hP) ht) ((HC2 _).tab (push hP)) e fun c' h' tk hx hge hlt _ hrec htb _ => ?_)
    have n2 := (hns.push _).extBut hx hgP
    have old : ∀ b o, b ≠ P → s.heap.get? b = some o → h'.get? b = some o := fun b o nb z => hx b o nb (push z)
    have ge2 : s.heap.objs.size ≤ c' := by rw [Heap.size_push] at hge; omega
    refine wpAny_bind (wpAny_builtinsFor n2 b1 b2 (old _ _ b3 b4) b5 b6 b7 ?_)
    refine wpAny_bind (wpAny_nsGet n2 ?_)
    exact wpAny_bind (wpAny_pure (wpAny_newObj_type (k (.ref c') h' tk _ _ (.inr ⟨e, c', rfl, old, ge2, hrec, htb.2⟩) (by omega)) (by size_fits)))
end
section
variable {X : Cx} {pins : List (Addr × Obj)} {σ : L2.St} {H : Hp} {s : Shared}
theorem tail_lam {T : List (Addr × Str)} {c P : Addr} {params : Arguments} {body : Expr} {scope : Scope} {pos : Pos} {fl : Nat} {dV : Value} {Q : VK} (I : Inv X pins σ H s) (TB : TabB X.base X.mg c P) (hcode : X.env.code = .ref c) (hm : (P, X.env.qual ++ "<lambda>") ∈ T) (hu : ∀ p ∈ T, p.1 = P → p.2 = X.env.qual ++ "<lambda>")
    (hfree : ∀ y ∈ scope.names, y.2 = .free → ∃ c, X.env.cells.lookup y.1 = some c) (hne : (cloFrom X.env.cells scope.names []).isEmpty = false) (hT : Tabs T H)
    (h : ∀ (H1 : Hp) (f c' : Addr), ExtN H H1 → Tabs T H1 → H1 f = some (LamD f c' (X.env.qual ++ "<lambda>") params body scope (cloFrom X.env.cells scope.names []) dV) → H1 c' = some (CodeO c' (X.env.qual ++ "<lambda>")) → Q (.ref f) H1) :
    wpAny (model X.prog X.w) X.A (makeTail "<lambda>" (X.env.qual ++ "<lambda>") params (.expr body) scope X.env dV .none none pos fl) (EP X pins σ Q) X.xe s := by
  obtain ⟨ps, hP, ht, ha⟩ := hT _ hm
  have bP : s.heap.BuiltinsAt X.mg P := TB.bm.keeps I.bk
  have hP' : s.heap.get? P = some { cls := .none, data := .fields ps } := I.hok P _ hP
  refine tailD (closure_ok hfree) hne I.ok.glob (I.mod.glob.keeps I.bk) hcode (TB.code.keeps I.bk) hP' ht TB.gP bP fun cv h' tk pm ctv hx hsz => ?_
  have fin : ∀ {H1 : Hp} {c' : Addr}, cv = .ref c' → Inv X pins σ H1 { s with heap := h', toks := tk } → ExtN H H1 → Tabs T H1 → H1 c' = some (CodeO c' (X.env.qual ++ "<lambda>")) →
      EP X pins σ Q (.ref h'.objs.size) { s with heap := h'.push (objD (X.env.qual ++ "<lambda>") params body scope (cloFrom X.env.cells scope.names []) pm cv ctv dV), toks := tk } := by
    intro H1 c' ec I1 eN T1 hco
    subst ec
    have hn : H1 h'.objs.size = none := I1.hok.fresh (Nat.le_refl _)
    have hg : h'.get? h'.objs.size = none := by
      cases e : h'.get? h'.objs.size with
      | none => rfl
      | some o => exact absurd (Heap.lt_size e) (Nat.lt_irrefl _)
    have ho : (h'.push (objD (X.env.qual ++ "<lambda>") params body scope (cloFrom X.env.cells scope.names []) pm (.ref c') ctv dV)).get? h'.objs.size = some (objD (X.env.qual ++ "<lambda>") params body scope (cloFrom X.env.cells scope.names []) pm (.ref c') ctv dV) := Heap.get?_push_size _ rfl
    have J := Inv.laidN (t' := tk) (o := LamD h'.objs.size c' (X.env.qual ++ "<lambda>") params body scope (cloFrom X.env.cells scope.names []) dV) I1 (fun b o e => Heap.get?_push_of_some _ e) hg hn (lamD_ok ho)
    have ex : ∀ b o, H1 b = some o → upd H1 h'.objs.size (LamD h'.objs.size c' (X.env.qual ++ "<lambda>") params body scope (cloFrom X.env.cells scope.names []) dV) b = some o := fun b o e => by rw [upd_ne (ne_of_none e hn)]; exact e
    exact ⟨.ref h'.objs.size, _, J, rfl, h _ _ c' (eN.trans (ExtN.of ex)) (T1.ext ex) upd_same (ex _ _ hco)⟩
  rcases hx with ⟨hc, hx⟩ | ⟨hc, c', e2, hx, hge, hrec, htb⟩
  · obtain ⟨c', e, hco⟩ := ha pos cv hc
    exact fin e (I.kept fun b o e => hx b o e) (ExtN.refl H) hT hco
  · obtain ⟨c2, oc, vs, t, e3, hoc, hd, hv⟩ := hrec
    subst e2
    cases e3
    have nC : H c' = none := I.hok.fresh hge
    have I1 := inv_table (t' := tk) (more := #[rawInt pos.line, rawInt pos.col, .ref c']) (h' := h') I hP (fun b o hb e => hx b o hb e) htb hge ⟨oc, vs, t, hoc, hd, hv⟩
    have hE : ExtN H (upd (upd H P (.tbl (ps ++ #[rawInt pos.line, rawInt pos.col, .ref c']))) c' (CodeO c' (X.env.qual ++ "<lambda>"))) := fun b o e n => by
      rw [upd_ne (ne_of_none e nC), upd_ne (fun z => n ps (Option.some.inj (e.symm.trans (by rw [z]; exact hP))))]
      exact e
    have eL : (ps ++ #[rawInt pos.line, rawInt pos.col, .ref c']).toList = ps.toList ++ [rawInt pos.line, rawInt pos.col, .ref c'] := by simp
    refine fin rfl I1 hE (fun p hp => ?_) upd_same
    by_cases hb : p.1 = P
    · rw [hu p hp hb, hb]
      refine ⟨_, by rw [upd_ne (ne_of_none hP nC), upd_same], by rw [eL]; exact PySem.TriplesOk_snoc _ _ _ _ ht, fun p' cv hcv => ?_⟩
      rw [eL] at hcv
      rcases among_app _ ht hcv with z | z
      · obtain ⟨c0, e1, e2⟩ := ha p' cv z
        exact ⟨c0, e1, hE _ _ e2 codeO_ne⟩
      · exact ⟨c', z, upd_same⟩
    · obtain ⟨ps', a1, a2, a3⟩ := hT p hp
      refine ⟨ps', by rw [upd_ne (ne_of_none a1 nC), upd_ne hb]; exact a1, a2, fun p' cv hcv => ?_⟩
      obtain ⟨c0, e1, e2⟩ := a3 p' cv hcv
      exact ⟨c0, e1, hE _ _ e2 codeO_ne⟩
end
def tLamN (T : List (Addr × Str)) (q : Str) (params : Arguments) (body : Expr) (scope : Scope) (cl : List (Str × Addr)) : TE := fun σ H Q => Tabs T H ∧ ∀ (H1 : Hp) (f c' : Addr), ExtN H H1 → Tabs T H1 → H1 f = some (LamD f c' q params body scope cl .none) → H1 c' = some (CodeO c' q) → Q (.ref f) H1
/-- .. with a default: a tuple of it -/
def tLamV (T : List (Addr × Str)) (q : Str) (params : Arguments) (body : Expr) (scope : Scope) (cl : List (Str × Addr)) (v : V) : TE := fun σ H Q => Tabs T H ∧ ∀ (H1 : Hp) (f c' d : Addr), ExtN H H1 → Tabs T H1 → H1 f = some (LamD f c' q params body scope cl (.ref d)) → H1 c' = some (CodeO c' q) → H1 d = some (.tup [v]) → Q (.ref f) H1
section
variable {X : Cx}
theorem clo_ne {cells : List (Str × Addr)} : ∀ {ns : List (Str × NameKind)} {acc : List (Str × Addr)}, (acc.isEmpty = false ∨ ns.any (fun y => decide (y.2 = .free)) = true) → (cloFrom cells ns acc).isEmpty = false := by
  intro ns
  induction ns with
  | nil =>
    intro acc h
    rcases h with h | h
    · exact h
    · cases h
  | cons y r ih =>
    intro acc h
    obtain ⟨n, k⟩ := y
    unfold cloFrom
    by_cases e : k = .free
    · rw [if_pos (by rw [e]; rfl)]
      exact ih (.inl rfl)
    · rw [if_neg (by simpa using e)]
      refine ih (h.imp id fun h => ?_)
      rw [List.any_cons, decide_eq_false e, Bool.false_or] at h
      exact h
theorem pe_lamN {T : List (Addr × Str)} {c P : Addr} {params : Arguments} {body : Expr} {scope : Scope} {pos : Pos} (TB : TabB X.base X.mg c P) (hcode : X.env.code = .ref c) (hm : (P, X.env.qual ++ "<lambda>") ∈ T) (hu : ∀ p ∈ T, p.1 = P → p.2 = X.env.qual ++ "<lambda>")
    (hdef : defaultsOf params X.env = ([], [])) (hfree : ∀ y ∈ scope.names, y.2 = .free → X.env.scope.names.lookup y.1 = some .cell ∨ X.env.scope.names.lookup y.1 = some .free) (hne : scope.names.any (fun y => decide (y.2 = .free)) = true) :
    PE X (.Lambda params body scope pos) (tLamN T (X.env.qual ++ "<lambda>") params body scope (cloFrom X.env.cells scope.names [])) := by
  refine ⟨fun pins s σ H Q I h => ?_⟩
  have hf : ∀ y ∈ scope.names, y.2 = .free → ∃ c, X.env.cells.lookup y.1 = some c := fun y hy e => (hfree y hy e).elim (fun k => I.ok.has _ (.inl k)) fun k => I.ok.has _ (.inr k)
  refine PySem.W.kla_eval hdef ?_
  rw [makeFunction_eq]
  simp only [List.zip_nil_right, List.filterMap_nil, List.isEmpty_nil, if_true, pure_bind]
  exact tail_lam I TB hcode hm hu hf (clo_ne (.inr hne)) h.1 h.2
theorem pe_lamV {T : List (Addr × Str)} {c P : Addr} {params : Arguments} {body d0 : Expr} {scope : Scope} {pos : Pos} {v : V} (TB : TabB X.base X.mg c P) (hcode : X.env.code = .ref c) (hm : (P, X.env.qual ++ "<lambda>") ∈ T) (hu : ∀ p ∈ T, p.1 = P → p.2 = X.env.qual ++ "<lambda>")
    (hdef : defaultsOf params X.env = ([eval d0 X.env], [])) (hd0 : PE X d0 (tC v)) (hfree : ∀ y ∈ scope.names, y.2 = .free → X.env.scope.names.lookup y.1 = some .cell ∨ X.env.scope.names.lookup y.1 = some .free) (hne : scope.names.any (fun y => decide (y.2 = .free)) = true) :
    PE X (.Lambda params body scope pos) (tLamV T (X.env.qual ++ "<lambda>") params body scope (cloFrom X.env.cells scope.names []) v) := by
  refine ⟨fun pins s σ H Q I h => ?_⟩
  have hf : ∀ y ∈ scope.names, y.2 = .free → ∃ c, X.env.cells.lookup y.1 = some c := fun y hy e => (hfree y hy e).elim (fun k => I.ok.has _ (.inl k)) fun k => I.ok.has _ (.inr k)
  rw [arm_eval_Lambda, hdef]
  show wpAny (model X.prog X.w) X.A (evalAll [eval d0 X.env] >>= fun dv => holding dv (evalAllOpt []) >>= fun kdv => makeFunction "<lambda>" (X.env.qual ++ "<lambda>") params (.expr body) scope X.env dv kdv [] pos pos.line) (EP X pins σ Q) X.xe s
  refine wpAny_bind (wpAny_evalAll_cons (thn (hd0.run pins s σ H (fun w H1 => w = v ∧ H1 = H) I ⟨rfl, rfl⟩) fun u s1 ⟨w, H1, I1, r1, e1, e2⟩ => wpAny_pure ?_))
  subst e1
  subst e2
  refine wpAny_bind (wpAny_holding (wpAny_pure ?_))
  rw [makeFunction_eq]
  simp only [List.zip_nil_right, List.filterMap_nil, List.isEmpty_nil, if_true, pure_bind, List.isEmpty_cons, Bool.false_eq_true, if_false]
  refine wpAny_bind (wpAny_newTextTuple ?_)
  have nd : H1 s1.heap.objs.size = none := I1.hok.fresh (Nat.le_refl _)
  have J : Inv X pins σ (upd H1 s1.heap.objs.size (.tup [w])) { s1 with heap := s1.heap.push { cls := .type "tuple", data := .seq [u].toArray } } :=
    I1.laid (t' := s1.toks) (fun b o e => Heap.get?_push_of_some _ e) (Nat.le_refl _) ⟨by show 1 ≤ 16777216; decide, [u], .cons r1 .nil, ⟨_, Heap.get?_push_size _ rfl, rfl, 0, rfl⟩⟩
  have sm : ∀ b o, H1 b = some o → upd H1 s1.heap.objs.size (.tup [w]) b = some o := fun b o e => by rw [upd_ne (ne_of_none e nd)]; exact e
  exact tail_lam J TB hcode hm hu hf (clo_ne (.inr hne)) (h.1.ext sm) fun H2 f c' eN T2 hfo hco => h.2 H2 f c' _ ((ExtN.of sm).trans eN) T2 hfo hco (eN _ _ upd_same (fun ps z => by cases z))
end
/-- no parameter, or one that stands in no slot of the def -/
structure LamS2 (N : List Str) (sc scope : Scope) (ps : List Str) : Prop where
  kind : scope.kind = .function
  co : scope.isCoroutine = false
  gen : scope.isGenerator = false
  own : ∀ y ∈ scope.names, y.2 ≠ .cell
  free : ∀ y ∈ scope.names, y.2 = .free → sc.names.lookup y.1 = some .cell ∨ sc.names.lookup y.1 = some .free
  par : ∀ y ∈ ps, scope.names.lookup y = some .local
  noN : ∀ y ∈ N, scope.names.lookup y ≠ some .local
def lamS2B (N : List Str) (sc scope : Scope) (ps : List Str) : Bool :=
  decide (scope.kind = .function) && !scope.isCoroutine && !scope.isGenerator && (scope.names.all fun y => !decide (y.2 = .cell) && (!decide (y.2 = .free) || decide (sc.names.lookup y.1 = some .cell) || decide (sc.names.lookup y.1 = some .free))) &&
    (ps.all fun y => decide (scope.names.lookup y = some .local)) && N.all fun y => !decide (scope.names.lookup y = some .local)
theorem lamS2_by {N : List Str} {sc scope : Scope} {ps : List Str} (h : lamS2B N sc scope ps = true) : LamS2 N sc scope ps := by
  unfold lamS2B at h
  simp only [Bool.and_eq_true, Bool.or_eq_true, Bool.not_eq_true', decide_eq_true_eq, decide_eq_false_iff_not, List.all_eq_true] at h
  obtain ⟨⟨⟨⟨⟨h1, h2⟩, h3⟩, h4⟩, h5⟩, h6⟩ := h
  refine ⟨h1, h2, h3, fun y hy => (h4 y hy).1, fun y hy e => ?_, h5, h6⟩
  rcases (h4 y hy).2 with (z | z) | z
  · exact absurd e z
  · exact .inl z
  · exact .inr z
section
variable {X : Cx} {pins : List (Addr × Obj)} {σ : L2.St} {H HZ : Hp} {s s1 : Shared}
theorem lamD_start {A : Around} {outer : List Env} {E : XK} {scope : Scope} {ps : List Str} {f c' : Addr} {h₁ : Heap} {tk : Nat} {m0 : Str → Option Value} (I : Inv X pins σ H s) (L : LamS2 X.N X.env.scope scope ps) (e0 : Env0 X.prog X.w X.K X.mg X.base A outer s1 HZ) (hd : A.handled = none)
    (un : Un (frs X.stack) [] H HZ s.heap s1.heap) (hns : h₁.Ns s1.heap.objs.size m0) (kp : ∀ b o, s1.heap.get? b = some o → h₁.get? b = some o) :
    Inv (lamCx X A outer s1 HZ E scope f c') [] σ HZ { s1 with heap := h₁, toks := tk } := by
  have hfree : ∀ y ∈ scope.names, y.2 = .free → ∃ c, X.env.cells.lookup y.1 = some c := fun y hy e => (L.free y hy e).elim (fun k => I.ok.has _ (.inl k)) fun k => I.ok.has _ (.inr k)
  have cm : ∀ {y c}, (cloFrom X.env.cells scope.names []).lookup y = some c → X.env.cells.lookup y = some c := fun {y c} e => by
    rcases cloFrom_mem (PySem.mem_of_lookup e) with hm | ⟨g1, g2⟩
    · cases hm
    · obtain ⟨c1, hc⟩ := hfree _ g1 rfl
      have hc : X.env.cells.lookup y = some c1 := hc
      have e2 : c = c1 := by
        rw [g2, hc]
        rfl
      rw [e2]
      exact hc
  have look : ∀ {y}, scope.names.lookup y = some .free → ∃ c, (cloFrom X.env.cells scope.names []).lookup y = some c := fun {y} hl =>
    mem_lookup (cloFrom_has (cells := X.env.cells) (acc := []) (show (y, NameKind.free) ∈ scope.names from PySem.mem_of_lookup hl))
  have cellK : ∀ {c : Addr} {v : Option Value}, H c = none → s.heap.IsCell c v → h₁.IsCell c v := fun {c v} n ⟨o, ho, hd⟩ => by
    obtain ⟨sl, q⟩ := un.any ho n (by simp)
    exact ⟨_, kp _ _ q, hd⟩
  have noA : ∀ b : Addr, b ∉ (lamCx X A outer s1 HZ E scope f c').ex := fun b z => absurd (show b ∈ ([] : List Addr) from z) (by simp)
  refine ⟨⟨e0.mod, L.kind, rfl, rfl, Nat.le_refl _, fun y z c e1 e2 => I.ok.inj y z c (cm e1) (cm e2), fun y hy => ?_, fun y c z _ => ?_, fun _ => hd, Around.frames_deeper e0.frames, .inr ⟨rfl, rfl⟩, fun b z => absurd z (noA b), e0.bs, e0.bsz, fun b _ _ => noA b,
      fun b z => absurd z (noA b), e0.funs, e0.frf⟩,
    rfl, e0.bare, Un.kept kp, ⟨_, hns, fun i y v e1 e2 e3 => ?_⟩, fun y c e => ?_, e0.hok.fresh (Nat.le_refl _), fun y c e => ?_, fun q hq => absurd (show q ∈ ([] : List (Addr × Obj)) ++ [] from hq) (by simp), e0.hok.kept kp, I.len⟩
  · have hy : scope.names.lookup y = some .cell ∨ scope.names.lookup y = some .free := hy
    rcases hy with hy | hy
    · exact absurd rfl (L.own _ (PySem.mem_of_lookup hy))
    · exact look hy
  · have z : false = true := z
    cases z
  · have e1 : X.N[i]? = some y := e1
    have e3 : Vis scope y := e3
    rcases e3 with k | k | k
    · exact absurd k (L.noN y (List.mem_of_getElem? e1))
    · exact absurd rfl (L.own _ (PySem.mem_of_lookup k))
    · obtain ⟨m, hn, hl⟩ := I.loc
      have hvis : Vis X.env.scope y := (L.free _ (PySem.mem_of_lookup k) rfl).elim (fun k => .inr (.inl k)) (fun k => .inr (.inr k))
      obtain ⟨w', r, q⟩ := hl i y v e1 e2 hvis
      obtain ⟨c2, h2⟩ := look k
      refine ⟨w', r, .inr ⟨.inr k, c2, h2, ?_⟩⟩
      have c1 := cm h2
      rcases q with ⟨k', _⟩ | ⟨_, c3, e', z⟩
      · have k' : X.env.scope.names.lookup y = some .local := k'
        rcases L.free _ (PySem.mem_of_lookup k) rfl with k2 | k2
        · rw [show X.env.scope.names.lookup y = _ from k2] at k'
          cases k'
        · rw [show X.env.scope.names.lookup y = _ from k2] at k'
          cases k'
      · rw [c1] at e'
        cases e'
        exact cellK (I.freeC y _ c1) z
  · obtain ⟨w', z⟩ := I.cell y c (cm e)
    exact ⟨w', cellK (I.freeC y c (cm e)) z⟩
  · obtain ⟨v, o, ho, hd⟩ := I.cell y c (cm e)
    exact un.free c o ho (I.freeC y c (cm e)) (by simp)
/-- the default stands where it did -/
def DefAt (dV : Value) (dv : List V) (H : Hp) : Prop := (dV = .none ∧ dv = []) ∨ ∃ d, dV = .ref d ∧ H d = some (.tup dv)
/-- what the call without arguments binds -/
def BindsD (prog : Program) (w : World) (q : Str) (params : Arguments) (body : Expr) (scope : Scope) (cl : List (Str × Addr)) (dV : Value) (dv : List V) (ps : List Str) : Prop := ∀ (pm cv ctv : Value) (M : Model) (A : Around) (E : Value → Shared → Prop) (s : Shared) (H : Hp) (Q : List (Str × Value) → Shared → Prop),
  HOk prog w H s.heap → DefAt dV dv H → (∀ us : List Value, us.length = ps.length → Q (ps.zip us) s) → wpAny M A (bindArgs (fnD q params body scope cl pm cv ctv dV) ⟨[], []⟩) Q E s
theorem pe_actD {CXg : CXT} {Eg : XK} {Ng : List Str} {qg : Str} {sg : Scope} {g f c' : Addr} {cdg dV : Value} {dv : List V} {ps : List Str} {params : Arguments} {body : Expr} {scope : Scope} {k i : Nat} {a : Str} {pn : List (Addr × Obj)} {xe : Value → Shared → Prop} {W : WX} {E : XK} {tb : TE} {p1 p2 : Pos}
    (I : Inv X pins σ H s) (L : LamS2 X.N X.env.scope scope ps) (hbind : BindsD X.prog X.w (X.env.qual ++ "<lambda>") params body scope (cloFrom X.env.cells scope.names []) dV dv ps)
    (tk : Takes ((cxOf CXg X.prog X.w X.K X.mg X.base Ng qg sg g cdg X.A X.stack s H Eg).tr pn xe) W) (hW : ∀ cls d σ' H', E cls d H' → W cls d σ' H') (hr : Room (k + 1) (X.A.deeper (envOfC qg sg s.heap.objs.size g cdg)))
    (hbody : ∀ (A : Around) (outer : List Env) (s : Shared) (H : Hp), Room k (A.deeper (lamEnv X scope s.heap.objs.size f c')) → PE (lamCx X A outer s H E scope f c') body tb)
    (hN : Ng[i]? = some a) (hv : Vis sg a) (hd : (a == ("__debug__" : Str)) = false := by decide) (hcd : (a == ("__classdict__" : Str)) = false := by decide) :
    PE ((cxOf CXg X.prog X.w X.K X.mg X.base Ng qg sg g cdg X.A X.stack s H Eg).tr pn xe) (.Call (.Name a p1) [] [] p2)
      (fun σZ HZ Q => σZ[i]? = some (some (.ref f)) ∧ HZ c' = some (CodeO c' (X.env.qual ++ "<lambda>")) ∧ HZ f = some (LamD f c' (X.env.qual ++ "<lambda>") params body scope (cloFrom X.env.cells scope.names []) dV) ∧ DefAt dV dv HZ ∧ tb σ HZ Q) := by
  refine ⟨fun pinsZ sZ σZ HZ Q IZ h => ?_⟩
  obtain ⟨hs, hc, hl, hda, ht⟩ := h
  refine wpAny_Call_Name_kw (thn ((pe_var (pos := p1) (i := i) hN hv hd hcd).run pinsZ sZ σZ HZ (fun v H1 => v = .ref f ∧ H1 = HZ) IZ ⟨.ref f, hs, rfl, rfl⟩) fun u s1 ⟨v, H1, I1, r1, q1⟩ => ?_)
  obtain ⟨ev, eH⟩ := q1
  subst ev
  rw [eH] at I1
  obtain rfl : u = Value.ref f := r1
  obtain ⟨pm, ctv, of1⟩ := lamD_at I1.hok hl
  refine PySem.W.callWith_F0 ⟨_, _, _, _, of1⟩ ?_
  have un : Un (frs X.stack) [] H HZ s.heap s1.heap := I1.base
  obtain ⟨⟨oc, vs, t, hoc, hdc, hvc⟩, _, _⟩ := I1.hok c' _ hc
  have rc : codeAny (model X.prog X.w) (X.A.deeper (envOfC qg sg s.heap.objs.size g cdg)) (.call (.ref f) ⟨[], []⟩) (CR (L2.CX X.prog X.w) (envOfC qg sg s.heap.objs.size g cdg :: X.stack) X.prog X.w HZ s1 Q E) s1 := by
    refine PySem.W.kla_callFunE hr.depth of1 rfl L.co L.gen rfl ⟨c', oc, vs, t, rfl, hoc, hdc, hvc⟩ ?_
    refine hbind _ _ _ _ _ _ _ HZ _ I1.hok hda fun us hus => ?_
    refine wpAny_newFunctionEnv (fun y hy => L.own y hy) (fun y hy => L.par _ (List.of_mem_zip hy).1) (fun h₁ hns hsb => ⟨I1.nolimit.fresh _ hsb, ?_⟩) L.kind
    show codeAny _ _ (.expr body (lamEnv X scope s1.heap.objs.size f c')) _ _
    have kp : ∀ b o, s1.heap.get? b = some o → h₁.get? b = some o := fun b o e => hsb.extBut b o (Nat.ne_of_lt (Heap.lt_size e)) (Heap.get?_push_of_some _ e)
    have J : Inv (lamCx X (X.A.deeper (envOfC qg sg s.heap.objs.size g cdg)) (envOfC qg sg s.heap.objs.size g cdg :: X.stack) s1 HZ E scope f c') [] σ HZ { s1 with heap := h₁, toks := s1.toks + (ps.zip us).length } :=
      lamD_start I L I1.env0 hr.hd un hns kp
    refine PySem.W.kla_codeExpr (wpAny_mono ((hbody _ _ s1 HZ (hr.deeper _)).run [] _ _ HZ Q J ht) (fun v s' hq => ?_) fun e s' hq => hq)
    obtain ⟨w', H', J', rv, q⟩ := hq
    exact ⟨w', H', J'.os, J'.bare, J'.base, J'.hok, rv, q⟩
  have hx : Passes (L2.CX X.prog X.w) ((cxOf CXg X.prog X.w X.K X.mg X.base Ng qg sg g cdg X.A X.stack s H Eg).tr pn xe) E := passes_call tk hW
  refine wpAny_call (codeAny_mono rc fun r s' hq => ?_)
  cases r with
  | error e => exact hx pinsZ σZ HZ s1 e s' I1 hq
  | ok fl =>
    cases fl with
    | ret u => exact I1.after hq
    | next => exact False.elim hq
    | brk => exact False.elim hq
    | cont => exact False.elim hq
end
end TR
end
section
set_option Elab.async false
set_option maxRecDepth 100000
set_option linter.all false
namespace TR
open PySem PySem.Spec PyProof.Rows L2 TM TK TB TP TH TU TG GenW LamX
theorem bindsN {prog : Program} {w : World} {q : Str} {params : Arguments} {body : Expr} {scope : Scope} {cl : List (Str × Addr)} (h : ∀ pm cv ctv : Value, bindArgs (fnD q params body scope cl pm cv ctv .none) ⟨[], []⟩ = pure []) : BindsD prog w q params body scope cl .none [] [] := fun pm cv ctv M A E s H Q _ _ k => by
  rw [h]
  exact wpAny_pure (k [] rfl)
theorem bindsV {prog : Program} {w : World} {q a : Str} {params : Arguments} {body : Expr} {scope : Scope} {cl : List (Str × Addr)} {d : Addr} {v : V} (h1 : params.posonlyargs = []) (h2 : params.args.map (·.arg) = [a]) (h3 : params.kwonlyargs = []) (h4 : params.vararg = none) (h5 : params.kwarg = none) : BindsD prog w q params body scope cl (.ref d) [v] [a] := fun pm cv ctv M A E s H Q hk hd k => by
  obtain ⟨e, _⟩ | ⟨d', e, hd⟩ := hd
  · cases e
  cases e
  obtain ⟨_, its, rv, o, ho, hcl, n, hdat⟩ := hk d _ hd
  obtain ⟨u, rfl⟩ : ∃ u, its = [u] := by
    cases rv with
    | cons r t => cases t; exact ⟨_, rfl⟩
  unfold bindArgs
  simp only [fnD, h1, h2, h3, h4, h5, List.map_nil, List.nil_append, List.forIn_nil, List.zip_nil_right, pure_bind]
  refine wpAny_bind (wpAny_seqItems ho hdat ?_)
  simp
  exact wpAny_pure (k [u] rfl)
/-- a kept lambda of the def X -/
structure LamKD (X : Cx) (k : Nat) (params : Arguments) (body : Expr) (scope : Scope) (dV : Value) (dv : List V) (ps : List Str) (t : XK → TE) : Prop where
  sc : LamS2 X.N X.env.scope scope ps
  bind : BindsD X.prog X.w (X.env.qual ++ "<lambda>") params body scope (cloFrom X.env.cells scope.names []) dV dv ps
  run : ∀ (A : Around) (outer : List Env) (s : Shared) (H : Hp) (E : XK) (f c' : Addr), Room k (A.deeper (lamEnv X scope s.heap.objs.size f c')) → PE (lamCx X A outer s H E scope f c') body (t E)
def tToldD (X : Cx) (ce : Nat → Addr) (k : Nat) (σX : L2.St) (te : TE) : TE := fun σ H Q => te σ H fun v H1 => ∃ (f c' : Addr) (dV : Value) (dv : List V) (ps : List Str) (params : Arguments) (body : Expr) (scope : Scope) (t : XK → TE), v = .ref f ∧ LamKD X k params body scope dV dv ps t ∧
  H1 f = some (LamD f c' (X.env.qual ++ "<lambda>") params body scope (cloFrom X.env.cells scope.names []) dV) ∧ H1 c' = some (CodeO c' (X.env.qual ++ "<lambda>")) ∧
  TA.TRa ce (fun E H' Q' => H' f = some (LamD f c' (X.env.qual ++ "<lambda>") params body scope (cloFrom X.env.cells scope.names []) dV) ∧ DefAt dV dv H' ∧ t E σX H' Q') H1 Q
section
variable {X : Cx} {pins : List (Addr × Obj)} {σ : L2.St} {H : Hp} {s : Shared}
theorem pe_toldD {ce : Nat → Addr} {cT g C : Addr} {fdg : FuncData} {k : Nat} {y : Str} {te : TE} {scB : Scope} {cl3 : List (Str × Addr)} {fp : List Addr} {p py pos : Pos} (I : Inv X pins σ H s) (hfp : ∀ b ∈ fp, FpOk X pins H b) (FR : Fun X.K "_law_raised" "_law_raised" sLawRaised g fdg) (bR : L2.Binds X.K fdg ["_law_work"] [])
    (mR : X.mg "_law_raised" = some (.ref g)) (TE : TA.TxtE X.K X.mg ce cT) (hr : Room (k + 2) X.A) (hg : Gl (X.blk s H scB (compEnvC scB cl3 C X.env) fp) "_law_raised") (he : PE (X.blk s H scB (compEnvC scB cl3 C X.env) fp) (.Name y py) te) :
    PE (X.blk s H scB (compEnvC scB cl3 C X.env) fp) (.Call (.Name "_law_raised" p) [.Name y py] [] pos) (tToldD X ce k σ te) := by
  obtain ⟨oc, od, kV, doc, pm, an, cdv, ct, osl, rfl, lk, hcd⟩ := FR.ex
  refine ⟨fun pinsZ sZ σZ HZ Q IZ h => ?_⟩
  refine wpAny_Call_Name_kw (ld_glob IZ hg mR ?_ (by decide))
  refine PySem.W.callWith_K (h₀ := X.base) IZ.ok.mod.kin FR.kp ?_ (by rfl) (by rfl)
  show wpAny _ _ (spliced ((false, eval (.Name y py) (compEnvC scB cl3 C X.env)) :: backTo pos (starEach [] (compEnvC scB cl3 C X.env)))) _ _ sZ
  refine Calls.spliced_cons (thn (he.run pinsZ sZ σZ HZ _ IZ h) fun u s' ⟨v, H1, I1, r1, q1⟩ => ?_)
  obtain ⟨f, c', dV, dv, ps, params, body, scope, t, rfl, LK, hf, hc, hq⟩ := q1
  obtain rfl : u = Value.ref f := r1
  refine Calls.spliced_nil ⟨I1.kIn, ?_⟩
  have JX : Inv X pins σ H1 s' := I.call' (ch := fp) I1.os I1.base I1.hok I1.bare fun b hb => ⟨(hfp b hb).2.2.2.1, (hfp b hb).2.1, (hfp b hb).2.2.2.2.1, (hfp b hb).2.2.2.2.2⟩
  have rc : codeAny (model X.prog X.w) X.A (.call (.ref g) ⟨[.ref f], []⟩) (CR C8.CX0 X.stack X.prog X.w H1 s' Q C8.E0) s' := by
    refine run_ofS (N := TA.NRa) (ps := ["_law_work"]) (us := [.ref f]) (vs := [.ref f]) lk hcd TA.scRa hr JX.env0 (bR s' [.ref f] I1.kIn rfl) (.cons rfl .nil) rfl fun hr' => ?_
    obtain ⟨t', ht', hq'⟩ := TA.raised_gives (X := X) (g := g) (cdg := cdv) (q := X.env.qual ++ "<lambda>") TE f c' s' H1 Q (fun E H' Q' => H' f = some (LamD f c' (X.env.qual ++ "<lambda>") params body scope (cloFrom X.env.cells scope.names []) dV) ∧ DefAt dV dv H' ∧ t E σ H' Q')
      (fun W pn xe E p1 p2 tk hW => pe_actD (i := 0) JX LK.sc LK.bind tk hW hr' (fun A outer s H hr2 => LK.run A outer s H E f c' hr2) rfl (.inl rfl)) hc hq
    exact ⟨t', ht'.nox, hq'⟩
  refine wpAny_call (codeAny_mono rc fun r s2 hq => ?_)
  cases r with
  | error e => exact (show False from hq).elim
  | ok fl =>
    cases fl with
    | ret u => exact I1.after hq
    | next => exact False.elim hq
    | brk => exact False.elim hq
    | cont => exact False.elim hq
end
end TR
end
section
set_option Elab.async false
set_option maxRecDepth 100000
set_option linter.all false
namespace TH
open PySem PySem.Spec PyProof.Rows L2 TR
section
variable {X : Cx} {n : Nat} {pins : List (Addr × Obj)} {σ : L2.St}
theorem lcj_core {s : Shared} {H : Hp} {Q : VK} {elt tg iter : Expr} {ifs : List Expr} {scope : Scope} {own : List (Str × Nat)} {pos pos' : Pos} {wi : TI} {g : TG} {tt : TT} {te : TE} {use : Option (Value → Sem Unit)} {Qf : Value → Shared → Prop}
    (hc : X.calm = true) (hN : X.N.Nodup) (hn : n ≤ s.toks) (I : Inv X pins σ H s) (hi : PIn n X tg iter wi) (ok : BlkOk X.N X.env.scope scope own)
    (hg : ∀ (s : Shared) (H : Hp) (C : Addr) (cl : List (Str × Addr)) (fp : List Addr), PG (X.blk s H scope (compEnvC scope cl C X.env) fp) tg g)
    (ht : ∀ (pins : List (Addr × Obj)) (s : Shared) (H : Hp) (C : Addr) (cl : List (Str × Addr)) (fp : List Addr), Inv X pins σ H s → (∀ b ∈ fp, FpOk X pins H b) → PTsn n (X.blk s H scope (compEnvC scope cl C X.env) fp) ifs tt)
    (he : ∀ (pins : List (Addr × Obj)) (s : Shared) (H : Hp) (C : Addr) (cl : List (Str × Addr)) (fp : List Addr), Inv X pins σ H s → (∀ b ∈ fp, FpOk X pins H b) → PEn n (X.blk s H scope (compEnvC scope cl C X.env) fp) elt te) (hs : ∀ x, foldedSetIterable iter X.env x = pure x)
    (h : tLc wi g tt te (own.map (·.2)) σ H Q)
    (hRR : ∀ D C s' m H', Inv X pins σ H' s' → Q (.ref D) H' → s'.heap.Ns C m → FpOk X pins H' C → compPost (model X.prog X.w) X.A X.xe use Qf (.ref D) C (.ok .next) s') :
    wpAny (model X.prog X.w) X.A (comprehension (.ListComp elt [⟨tg, iter, ifs, 0⟩] scope pos) scope X.env pos' (newList []) false (eval iter X.env) use) Qf X.xe s := by
  have known : ∀ y ∈ scope.names, y.2 = .free → ∃ c, X.env.cells.lookup y.1 = some c := fun y hy e => (ok.free y hy e).elim (fun k => I.ok.has _ (.inl k)) fun k => I.ok.has _ (.inr k)
  refine wpAny_comprehension_free (use := use) rfl hs (closure_ok known) ok.kind (fun y hy e => by rw [ok.uniq y hy, e]) ?_
  refine thnN hn (hi pins s σ H _ hn I h) fun xv s1 hn1 hx => thnN hn1 hx fun itv s2 hn2 h2 => ?_
  obtain ⟨it, fp, tn, J, H2, rfl, I2, T, st2, f2, q⟩ := h2
  refine wpAny_newObj_type (newEnv_comp ?_) (by show 0 ≤ sizeLine; decide)
  have free2 : H2 s2.heap.objs.size = none := I2.hok.fresh (Nat.le_refl _)
  have below : ∀ b ∈ fp, b < s2.heap.objs.size := fun b hb => by
    obtain ⟨o, e, _⟩ := T.obj _ _ st2 b hb
    exact Heap.lt_size e
  have laid3 : Inv X pins σ (upd H2 s2.heap.objs.size (.lst [])) { s2 with heap := s2.heap.push { cls := .type "list", data := .seq ([] : List Value).toArray } } :=
    I2.laid (t' := s2.toks) (fun b o e => Heap.get?_push_of_some _ e) (Nat.le_refl _) ⟨Nat.zero_le _, [], 0, .nil, Heap.get?_push_size _ rfl⟩
  have st3 : tn 0 (s2.heap.push { cls := .type "list", data := .seq ([] : List Value).toArray }) := T.keep _ _ _ st2 fun b _ o e => Heap.get?_push_of_some _ e
  obtain ⟨W, ⟨m0, w0⟩, turn⟩ := q _ free2
  generalize hD : s2.heap.objs.size = D at free2 below laid3 turn w0 ⊢
  generalize hH3 : upd H2 D (.lst []) = H3 at laid3 w0
  have f3 : ∀ b ∈ fp, FpOk X pins H3 b ∧ b < ({ s2 with heap := s2.heap.push { cls := .type "list", data := .seq ([] : List Value).toArray } } : Shared).heap.objs.size := fun b hb => by
    have lt := below b hb
    refine ⟨⟨?_, (f2 b hb).2⟩, ?_⟩
    · rw [← hH3, upd_ne (Nat.ne_of_lt lt)]
      exact (f2 b hb).1
    · show b < (s2.heap.push _).objs.size
      rw [Heap.size_push, hD]
      exact Nat.lt_succ_of_lt lt
  generalize hs3 : ({ s2 with heap := s2.heap.push { cls := .type "list", data := .seq ([] : List Value).toArray } } : Shared) = s3 at laid3 f3
  have h3 : s2.heap.push { cls := .type "list", data := .seq ([] : List Value).toArray } = s3.heap := by rw [← hs3]
  have hn3 : n ≤ s3.toks := by rw [← hs3]; exact hn2
  rw [h3] at st3
  have I4 := block_start laid3 ok hN f3
  have st4 : tn 0 (pushCells (s3.heap.push { cls := .type "dict", data := .dict #[] }) scope.names) := T.keep _ _ _ st3 fun b _ o e => pushCells_keeps _ _ _ _ (Heap.get?_push_of_some _ e)
  show codeAny _ _ (.compStart (.ListComp elt [⟨tg, iter, ifs, 0⟩] scope pos) 0 (.ref it) (.ref D) (blkE X scope s3)) (compPost (model X.prog X.w) X.A X.xe use Qf (.ref D) s3.heap.objs.size) { s3 with heap := pushCells (s3.heap.push { cls := .type "dict", data := .dict #[] }) scope.names }
  have loop : codeAny (model X.prog X.w) X.A (.compLoop (.ListComp elt [⟨tg, iter, ifs, 0⟩] scope pos) 0 (.ref it) (.ref D) (blkE X scope s3)) (compPost (model X.prog X.w) X.A X.xe use Qf (.ref D) s3.heap.objs.size) { s3 with heap := pushCells (s3.heap.push { cls := .type "dict", data := .dict #[] }) scope.names } := by
    refine lcf_loop (B := X.blk s3 H3 scope (blkE X scope s3) fp) (n := n) (J := J) (Qd := Q (.ref D)) (W := W) (vs := own.map (·.2)) (σ := σ) (fun b hb => hb) rfl rfl hc T (hg _ _ _ _ _) (ht _ _ _ _ _ _ laid3 fun b hb => (f3 b hb).1) (he _ _ _ _ _ _ laid3 fun b hb => (f3 b hb).1) turn ?_ hn3 I4 st4 (fun b hb => (f3 b hb).1.1) w0
    intro H' s' J' qd
    have back : Inv X pins σ H' s' := laid3.call' (ch := fp) J'.os J'.base J'.hok J'.bare fun b hb => ⟨(f3 b hb).1.2.2.2.1, (f3 b hb).1.2.1, (f3 b hb).1.2.2.2.2.1, (f3 b hb).1.2.2.2.2.2⟩
    obtain ⟨m, hm, _⟩ := J'.loc
    exact hRR D s3.heap.objs.size s' m H' back qd hm (laid3.fpOk (Nat.le_refl _) J'.free)
  exact codeAny_compStart_list loop (T.self X.A 0 _ _ _ st4 loop)
theorem pen_lcJ {elt tg iter : Expr} {ifs : List Expr} {scope : Scope} {own : List (Str × Nat)} {pos : Pos} {wi : TI} {g : TG} {tt : L2.St → TT} {te : L2.St → TE} (hc : X.calm = true) (hN : X.N.Nodup) (hi : PIn n X tg iter wi) (ok : BlkOk X.N X.env.scope scope own)
    (hg : ∀ (s : Shared) (H : Hp) (C : Addr) (cl : List (Str × Addr)) (fp : List Addr), PG (X.blk s H scope (compEnvC scope cl C X.env) fp) tg g)
    (ht : ∀ (pins : List (Addr × Obj)) (σ : L2.St) (s : Shared) (H : Hp) (C : Addr) (cl : List (Str × Addr)) (fp : List Addr), Inv X pins σ H s → (∀ b ∈ fp, FpOk X pins H b) → PTsn n (X.blk s H scope (compEnvC scope cl C X.env) fp) ifs (tt σ))
    (he : ∀ (pins : List (Addr × Obj)) (σ : L2.St) (s : Shared) (H : Hp) (C : Addr) (cl : List (Str × Addr)) (fp : List Addr), Inv X pins σ H s → (∀ b ∈ fp, FpOk X pins H b) → PEn n (X.blk s H scope (compEnvC scope cl C X.env) fp) elt (te σ)) (hs : ∀ x, foldedSetIterable iter X.env x = pure x := by intro _; rfl) :
    PEn n X (.ListComp elt [⟨tg, iter, ifs, 0⟩] scope pos) (fun σ H Q => tLc wi g (tt σ) (te σ) (own.map (·.2)) σ H Q) := by
  intro pins s σ H Q hn I h
  rw [eval_ListComp]
  refine lcj_core hc hN hn I hi ok hg (fun pins s H C cl fp => ht pins σ s H C cl fp) (fun pins s H C cl fp => he pins σ s H C cl fp) hs h fun D C s' m H' I' q hns f => ⟨m, hns, fun h2 sb => ?_⟩
  obtain ⟨a0, a1, _, a3, a4, a5⟩ := f
  exact ⟨.ref D, H', I'.turned (t' := s'.toks) (fun b o hb e => (sb.2 b hb).trans e) a0 a1 a3 a4 a5, rfl, q⟩
end
end TH
end
section
set_option Elab.async false
set_option maxRecDepth 100000
set_option linter.all false
namespace TR
open PySem PySem.Spec PyProof.Rows L2 TM TK TB TX TP TH TU TG
section
variable {P : Program} {w_ : World} {K : PySem.W.Frag} {mg : Str → Option Value} {base : Heap} {D CU CP CS fCm fCp : Addr} {fdCm fdCp : FuncData}
def BadM (K : PySem.W.Frag) (H : Hp) (g : Grid) (x : V) : Prop := (∃ u : List Nat, x = .str (S u) ∧ u.length ≤ 1000 ∧ has g u = false) ∨ NoText K H x
def spFpX (K : PySem.W.Frag) (D CU CP : Addr) : Sp := fun vs H Q E => ∃ (p : Addr) (x y : V) (h w : Nat) (g : Grid), vs = [.ref p, x, y] ∧ TrayAt K D H p g ∧ VG h w g ∧
  ((∃ c, x = sg c ∧ c ∈ mb g.flatten ∧ (∀ H', Same H H' → Plc K H' h w y false) ∧ ∀ H', Same H H' → E (.ref CP) none H') ∨
    (BadM K H g x ∧ ∀ H' d, Same H H' → H d = none → H' d = some (.xd [("marble", x)]) → E (.ref CU) (some d) H'))
theorem ok_fpX {f : Addr} {fd : FuncData} (F : Fun K "fewest_to_place" "fewest_to_place" sFewestToPlace f fd)
    (GM : FnOk P w_ K mg base (L2.CX P w_) 4 fCm fdCm ["tray", "marble"] (spCmX K D CU)) (kM : PySem.W.keepIn K (.ref fCm) = true) (bM : Binds K fdCm ["tray", "marble"] []) (mM : mg "check_marble" = some (.ref fCm))
    (GP : FnOk P w_ K mg base (L2.CX P w_) 3 fCp fdCp ["tray", "place"] (spCp K D CP)) (kP : PySem.W.keepIn K (.ref fCp) = true) (bP : Binds K fdCp ["tray", "place"] []) (mP : mg "check_place" = some (.ref fCp)) :
    FnOk P w_ K mg base (L2.CX P w_) 5 f fd ["tray", "marble", "place"] (spFpX K D CU CP) := by
  refine F.okX scFp (fun vs H Q E h => ?_) (fun cdv A outer s H vs Q E hr h => ?_)
  · obtain ⟨p, x, y, h, w, g, rfl, _⟩ := h
    rfl
  · obtain ⟨p, x, y, h, w, g, rfl, T0, hV, hx⟩ := h
    refine ⟨_, pss_cons (ps_expr (pe_call GM (hr.mono (by decide)) rfl mM kM bM .nil (passX (takes_of rfl rfl rfl rfl)) (pa_cons (pv 0) (pa_cons (pv 1) pa_nil))))
      (pss_cons (ps_expr (pe_call GP (hr.mono (by decide)) rfl mP kP bP .nil (passX (takes_of rfl rfl rfl rfl)) (pa_cons (pv 0) (pa_cons (pv 2) pa_nil)))) pss_never), ?_⟩
    refine ⟨_, rfl, _, rfl, p, x, h, w, g, rfl, T0, hV, ?_⟩
    rcases hx with ⟨c, rfl, hm, N, k⟩ | ⟨hn, k⟩
    · exact .inl ⟨c, rfl, hm, fun H1 s1 => ⟨_, rfl, _, rfl, p, y, h, w, g, rfl, T0.same s1, hV, .inr ⟨N _ s1, k _ s1⟩⟩⟩
    · exact .inr ⟨hn, k⟩
def spFmX (K : PySem.W.Frag) (D CU CS : Addr) : Sp := fun vs H Q E => ∃ (p : Addr) (x y : V) (h w : Nat) (g : Grid), vs = [.ref p, x, y] ∧ TrayAt K D H p g ∧ VG h w g ∧
  ((BadM K H g x ∧ ∀ H' d, Same H H' → H d = none → H' d = some (.xd [("marble", x)]) → E (.ref CU) (some d) H') ∨
   ∃ c, x = sg c ∧ c ∈ mb g.flatten ∧ (((∀ H', Same H H' → BadM K H' g y) ∧ ∀ H' d, Same H H' → H d = none → H' d = some (.xd [("marble", y)]) → E (.ref CU) (some d) H') ∨ (y = sg c ∧ ∀ H', Same H H' → E (.ref CS) none H')))
theorem ok_fmX {f : Addr} {fd : FuncData} (F : Fun K "fewest_to_meet" "fewest_to_meet" sFewestToMeet f fd) (X : TA.ExN K mg "SameMarble" CS)
    (GM : FnOk P w_ K mg base (L2.CX P w_) 4 fCm fdCm ["tray", "marble"] (spCmX K D CU)) (kM : PySem.W.keepIn K (.ref fCm) = true) (bM : Binds K fdCm ["tray", "marble"] []) (mM : mg "check_marble" = some (.ref fCm)) :
    FnOk P w_ K mg base (L2.CX P w_) 5 f fd ["tray", "one", "other"] (spFmX K D CU CS) := by
  refine F.okX scFm (fun vs H Q E h => ?_) (fun cdv A outer s H vs Q E hr h => ?_)
  · obtain ⟨p, x, y, h, w, g, rfl, _⟩ := h
    rfl
  · obtain ⟨p, x, y, h, w, g, rfl, T0, hV, hx⟩ := h
    refine ⟨_, pss_cons (ps_expr (pe_call GM (hr.mono (by decide)) rfl mM kM bM .nil (passX (takes_of rfl rfl rfl rfl)) (pa_cons (pv 0) (pa_cons (pv 1) pa_nil))))
      (pss_cons (ps_expr (pe_call GM (hr.mono (by decide)) rfl mM kM bM .nil (passX (takes_of rfl rfl rfl rfl)) (pa_cons (pv 0) (pa_cons (pv 2) pa_nil))))
      (pss_cons (ps_if (pt_cmpR op_eq (pv 1) (pv 2) (nomark _)) (pss_one (ps_raise rfl (takes_of rfl rfl rfl rfl) (SkE.pmk_own1 PySem.F.excBase_ValueError X.q X.g X.k (raises_own X.s X.t) rfl pe_str))) pss_nil) pss_never)), ?_⟩
    refine ⟨_, rfl, _, rfl, p, x, h, w, g, rfl, T0, hV, ?_⟩
    rcases hx with ⟨hn, k⟩ | ⟨c, rfl, hm, ⟨hn, k⟩ | ⟨rfl, k⟩⟩
    · exact .inr ⟨hn, k⟩
    · refine .inl ⟨c, rfl, hm, fun H1 s1 => ⟨_, rfl, _, rfl, p, y, h, w, g, rfl, T0.same s1, hV, .inr ⟨hn _ s1, fun H2 d s2 nd hd => k H2 d (s1.trans s2) ?_ hd⟩⟩⟩
      cases e : H d with
      | none => rfl
      | some o => rw [s1 _ _ e] at nd; cases nd
    · refine .inl ⟨c, rfl, hm, fun H1 s1 => ⟨_, rfl, _, rfl, p, sg c, h, w, g, rfl, T0.same s1, hV, .inl ⟨c, rfl, hm, fun H2 s2 => ?_⟩⟩⟩
      refine ⟨_, rfl, _, rfl, rfl, ?_⟩
      rw [decide_eq_true (show sg c = sg c from rfl)]
      exact ⟨_, rfl, iteT (k _ (s1.trans s2))⟩
end
end TR
end
section
set_option Elab.async false
set_option maxRecDepth 100000
set_option linter.all false
namespace TR
open PySem PySem.Spec PyProof.Rows L2 TM TK TB TX TP TH TU TG GenW LamX TW
theorem kept_lst {H : Hp} {b p : Addr} {o o' : HO} {xs : List V} (h : H b = some o) (hp : H p = some (.lst xs)) (n : ∀ ys, o ≠ .lst ys) : upd H p o' b = some o := by
  rw [upd_ne (fun z => by rw [z, hp] at h; exact n xs (Option.some.inj h).symm)]
  exact h
theorem lamD_nl {f c' : Addr} {q : Str} {params : Arguments} {body : Expr} {scope : Scope} {cl : List (Str × Addr)} {dV : Value} (ys : List V) : LamD f c' q params body scope cl dV ≠ .lst ys := fun z => by
  unfold LamD at z
  cases z
theorem lamD_nt {f c' : Addr} {q : Str} {params : Arguments} {body : Expr} {scope : Scope} {cl : List (Str × Addr)} {dV : Value} (ys : Array Value) : LamD f c' q params body scope cl dV ≠ .tbl ys := fun z => by
  unfold LamD at z
  cases z
theorem codeD_nl {c : Addr} {q : Str} (ys : List V) : CodeO c q ≠ .lst ys := fun z => by
  unfold CodeO at z
  cases z
theorem tup_nl {xs : List V} (ys : List V) : HO.tup xs ≠ .lst ys := fun z => by cases z
theorem tabs_put {T : List (Addr × Str)} {H : Hp} {r : Addr} {xs ys : List V} (h : Tabs T H) (hr : H r = some (.lst xs)) : Tabs T (upd H r (.lst ys)) := fun p hp => by
  obtain ⟨ps, h1, h2, h3⟩ := h p hp
  refine ⟨ps, by rw [upd_ne (fun e => by rw [e, hr] at h1; cases h1)]; exact h1, h2, fun pos cv hc => ?_⟩
  obtain ⟨c, e1, e2⟩ := h3 pos cv hc
  exact ⟨c, e1, by rw [upd_ne (fun e => by rw [e, hr] at e2; cases e2)]; exact e2⟩
theorem op_neDK7 {X : Cx} {K : PySem.W.Frag} (h : X.K = K) (hu : X.A.units + 64 < cLine) : OpR X (compareOp .NotEq) (rNeD K) := by
  subst h
  exact op_neD hu
theorem sqt_but7 {K : PySem.W.Frag} {p r : Addr} {H H' : Hp} {xs ys : List V} (h : SqT K H p ys) (hr : H r = some (.lst xs)) (b : But r H H') : SqT K H' p ys := by
  rcases h with (h | ⟨u, h⟩) | h
  · exact .inl (.inl (b _ _ h fun e => by rw [e, hr] at h; cases h))
  · exact .inl (.inr ⟨u, b _ _ h fun e => by rw [e, hr] at h; cases h⟩)
  · exact .inr h
theorem tray_but7 {K : PySem.W.Frag} {D p r : Addr} {H H' : Hp} {g : Grid} {xs : List V} (h : TrayAt K D H p g) (hr : H r = some (.lst xs)) (b : But r H H') : TrayAt K D H' p g := by
  obtain ⟨dx, a, h1, h2⟩ := h
  exact ⟨dx, a, b _ _ h1 fun e => (by rw [e, hr] at h1; cases h1), sqt_but7 h2 hr b⟩
theorem told_mk {X : Cx} {ce : Nat → Addr} {k : Nat} {σX : L2.St} {H1 : Hp} {Q : VK} {f c' : Addr} {dV : Value} {dv : List V} {ps : List Str} {params : Arguments} {body : Expr} {scope : Scope} {t : XK → TE}
    (hf : H1 f = some (LamD f c' (X.env.qual ++ "<lambda>") params body scope (cloFrom X.env.cells scope.names []) dV)) (hc : H1 c' = some (CodeO c' (X.env.qual ++ "<lambda>"))) (hd : DefAt dV dv H1) (LK : LamKD X k params body scope dV dv ps t)
    (h : t (fun cls d H' => ∃ (j : Nat) (fs : List (Str × V)) (xs : List V), j < 6 ∧ cls = .ref (ce j) ∧ (∀ dd, d = some dd → H' dd = some (.xd fs)) ∧ (j < 3 → d ≠ none) ∧ TA.told j fs = some xs ∧ ∀ H2 p, (∀ b o, H' b = some o → H2 b = some o) → H2 p = some (.tup xs) → Q (.ref p) H2) σX H1 (fun _ H' => Q .non H')) :
    ∃ (f0 c0 : Addr) (dV : Value) (dv : List V) (ps : List Str) (params : Arguments) (body : Expr) (scope : Scope) (t : XK → TE), V.ref f = .ref f0 ∧ LamKD X k params body scope dV dv ps t ∧
      H1 f0 = some (LamD f0 c0 (X.env.qual ++ "<lambda>") params body scope (cloFrom X.env.cells scope.names []) dV) ∧ H1 c0 = some (CodeO c0 (X.env.qual ++ "<lambda>")) ∧
      TA.TRa ce (fun E H' Q' => H' f0 = some (LamD f0 c0 (X.env.qual ++ "<lambda>") params body scope (cloFrom X.env.cells scope.names []) dV) ∧ DefAt dV dv H' ∧ t E σX H' Q') H1 Q := ⟨f, c', dV, dv, ps, params, body, scope, t, rfl, LK, hf, hc, hf, hd, h⟩
theorem but_put {H : Hp} {r : Addr} {o : HO} : But r H (upd H r o) := fun b o e n => by rw [upd_ne n]; exact e
/-- each free name of the lambda is a cell of the def -/
def FreeIn (sc scope : Scope) : Prop := ∀ y ∈ scope.names, y.2 = NameKind.free → sc.names.lookup y.1 = some NameKind.cell ∨ sc.names.lookup y.1 = some NameKind.free
def freeB (sc scope : Scope) : Bool := scope.names.all fun y => !decide (y.2 = NameKind.free) || decide (sc.names.lookup y.1 = some NameKind.cell) || decide (sc.names.lookup y.1 = some NameKind.free)
theorem free_by {sc scope : Scope} (h : freeB sc scope = true) : FreeIn sc scope := fun y hy e => by
  unfold freeB at h
  rw [List.all_eq_true] at h
  have z := h y hy
  simp only [Bool.or_eq_true, Bool.not_eq_true', decide_eq_true_eq, decide_eq_false_iff_not] at z
  rcases z with (z | z) | z
  · exact absurd e z
  · exact .inl z
  · exact .inr z
/-- what `_law_are_rejected` calls -/
structure Rj7 (P : Program) (w_ : World) (K : PySem.W.Frag) (mg : Str → Option Value) (base : Heap) (n : Nat) (D CU CP CS : Addr) (ce : Nat → Addr) (cT : Addr) (T : List (Addr × Str)) (cW Pw : Addr) : Prop where
  te : TA.TxtE K mg ce cT
  cu : ce 2 = CU
  cp : ce 3 = CP
  cs : ce 5 = CS
  fR : ∃ gR fdR, Fun K "_law_raised" "_law_raised" sLawRaised gR fdR ∧ Binds K fdR ["_law_work"] [] ∧ mg "_law_raised" = some (.ref gR)
  tb : LamX.TabB base mg cW Pw
  tm : (Pw, ("_law_are_rejected.<locals>.<lambda>" : Str)) ∈ T
  tu : ∀ p ∈ T, p.1 = Pw → p.2 = ("_law_are_rejected.<locals>.<lambda>" : Str)
  fFp : ∃ g fd, FnOk P w_ K mg base (L2.CX P w_) 5 g fd ["tray", "marble", "place"] (spFpX K D CU CP) ∧ PySem.W.keepIn K (.ref g) = true ∧ Binds K fd ["tray", "marble", "place"] [] ∧ mg "fewest_to_place" = some (.ref g)
  fFm : ∃ g fd, FnOk P w_ K mg base (L2.CX P w_) 5 g fd ["tray", "one", "other"] (spFmX K D CU CS) ∧ PySem.W.keepIn K (.ref g) = true ∧ Binds K fd ["tray", "one", "other"] [] ∧ mg "fewest_to_meet" = some (.ref g)
section
variable {P : Program} {w_ : World} {K : PySem.W.Frag} {mg : Str → Option Value} {base : Heap} {n : Nat} {D CU CP CS cT cW Pw : Addr} {ce : Nat → Addr} {T : List (Addr × Str)}
abbrev NRj7 : List Str := ["_law_tray", "_law_name", "_law_bad", "_law_works", "_law_work"]
theorem scRj7 : FnScope NRj7 ["_law_tray", "_law_name"] (defScope sLawAreRejected) := ⟨rfl, rfl, rfl, by decide +kernel, rfl, by decide +kernel, by decide +kernel⟩
def spRj7 (K : PySem.W.Frag) (D : Addr) (T : List (Addr × Str)) : Sp := fun vs H Q _ => ∃ (p m h w : Nat) (g : Grid), vs = [.ref p, sg m] ∧ TrayAt K D H p g ∧ VG h w g ∧ m ∈ mb g.flatten ∧ (∀ c ∈ mb g.flatten, c ≠ 122) ∧ Tabs T H ∧ ∀ H', Q (.bl true) H'
set_option maxHeartbeats 4000000 in
theorem ok_rj7 {f : Addr} {oc kV doc pm ct : Value} {od an : Option Addr} {osl : Array (Option Value)} (lk : K.lookup f = some ⟨oc, od, .func (PySem.W.fnOf "_law_are_rejected" "_law_are_rejected" (defArgs sLawAreRejected) (defBody sLawAreRejected) (defScope sLawAreRejected) .none kV doc pm an (.ref cW) ct), osl⟩) (hcd : PySem.W.codeIn K (.ref cW) "_law_are_rejected" = true)
    (b : Binds K (PySem.W.fnOf "_law_are_rejected" "_law_are_rejected" (defArgs sLawAreRejected) (defBody sLawAreRejected) (defScope sLawAreRejected) .none kV doc pm an (.ref cW) ct) ["_law_tray", "_law_name"] []) (L : Rj7 P w_ K mg base n D CU CP CS ce cT T cW Pw) : FnRn n P w_ K mg base CX0 8 f (spRj7 K D T) := by
  obtain ⟨gR, fdR, FR, bR, mR⟩ := L.fR
  obtain ⟨gFp, fdFp, GFp, kFp, bFp, mFp⟩ := L.fFp
  obtain ⟨gFm, fdFm, GFm, kFm, bFm, mFm⟩ := L.fFm
  refine fn_nE lk hcd b scRj7 (fun vs H Q E h => ?_) fun A outer s H vs Q E hr h => ?_
  · obtain ⟨p, m, h, w, g, rfl, _⟩ := h
    rfl
  · obtain ⟨p, m, h, w, g, rfl, T0, hV, hm, h122, hT, k⟩ := h
    have nd := scRj7.nd
    refine ⟨_, pssn_cut (psn_for PassesOwn.never rfl (pi_tup (pe_tup (pa_cons pe_str (pa_cons pe_str (pa_cons pe_non (pa_cons pe_int pa_nil)))))) (pg_name (i := 2) nd rfl (.inr rfl))
        (pssn_cons (PS.up (ps_set (i := 3) nd rfl (.inl rfl) (pe_lst (pa_cons (pe_lamN L.tb rfl L.tm L.tu rfl (show FreeIn (defScope sLawAreRejected) _ from free_by (by decide +kernel)) (by decide +kernel)) pa_nil))))
        (pssn_cons (PS.up (ps_expr (pe_bm PySem.F.plainAttrs_list PySem.F.slot_list_append PySem.F.type_list_append mt_append (pv 3) (pa_cons (pe_lamN L.tb rfl L.tm L.tu rfl (show FreeIn (defScope sLawAreRejected) _ from free_by (by decide +kernel)) (by decide +kernel)) pa_nil))))
        (pssn_cons (PS.up (ps_expr (pe_bm PySem.F.plainAttrs_list PySem.F.slot_list_append PySem.F.type_list_append mt_append (pv 3) (pa_cons (pe_lamV (v := .int 0) L.tb rfl L.tm L.tu rfl pe_int (show FreeIn (defScope sLawAreRejected) _ from free_by (by decide +kernel)) (by decide +kernel)) pa_nil))))
        (pssn_one (psn_if (ptn_cmpR (op_neD hr.units) (pen_lcJ (own := [("_law_work", 4)]) (g := gName 4) rfl nd (L2.PI.up (pi_list (pv 3))) (blkOk_by (N := NRj7) (sc := defScope sLawAreRejected) (by decide +kernel)) (fun _ _ _ _ _ => pg_name (i := 4) nd rfl (.inl rfl))
            (fun _ _ _ _ _ _ _ I hfp => ptsn_one (PT.up (pt_cmpR (op_neDK7 (K := K) rfl hr.units) (pe_toldD (k := 5) I hfp FR bR mR L.te hr rfl (pv 4)) (pe_tup (pa_cons pe_str (pa_cons (pv 2) pa_nil))) (nomark _)))) (fun _ _ _ _ _ _ _ _ _ => PE.up (pv 4))) (PE.up (pe_lst pa_nil)) (nomark _)) (PSs.up pss_never) (PSs.up pss_nil)))))))
      (pssn_cut (PS.up (ps_if (pt_cmpR (op_neD hr.units) (TA.pe_told FR bR mR L.te (by rfl) L.tb rfl L.tm L.tu (k := 5) hr (show LamS (defScope sLawAreRejected) _ from lamS_by (by decide +kernel)) rfl (fun _ _ _ _ _ => rfl)
              (fun A outer s H E f c' hr' => pe_call GFm (hr'.mono (by decide)) rfl mFm kFm bFm .nil (passX (takes_of rfl rfl rfl rfl)) (pa_cons (pv 0) (pa_cons (pv 1) (pa_cons (pv 1) pa_nil))))) (pe_tup (pa_cons pe_str pa_nil)) (nomark _)) pss_never pss_nil))
      (pssn_cut (PS.up (ps_for PassesOwn.never rfl (pi_tup (pe_tup (pa_cons (pe_tup (pa_cons pe_int (pa_cons pe_int pa_nil))) (pa_cons pe_non (pa_cons (pe_tup (pa_cons pe_int pa_nil)) pa_nil))))) (pg_name (i := 2) nd rfl (.inr rfl))
          (pss_one (ps_if (pt_cmpR (op_neD hr.units) (TA.pe_told FR bR mR L.te (by rfl) L.tb rfl L.tm L.tu (k := 5) hr (show LamS (defScope sLawAreRejected) _ from lamS_by (by decide +kernel)) rfl (fun _ _ _ _ _ => rfl)
              (fun A outer s H E f c' hr' => pe_call GFp (hr'.mono (by decide)) rfl mFp kFp bFp .nil (passX (takes_of rfl rfl rfl rfl)) (pa_cons (pv 0) (pa_cons (pv 1) (pa_cons (pv 2) pa_nil))))) (pe_tup (pa_cons pe_str pa_nil)) (nomark _)) pss_never pss_nil))))
      (pssn_one (PS.up (ps_ret pe_bl))))), ?_⟩
    have noE : ∀ {w : Str} {H : Hp} {a b : Addr}, SeqAt.shaped (.tuple [.str w]) = true → PyData.canLay0 (.tuple [.str w]) = true → H a = some (.tup [V.str w]) → H b = some (.tup [V.str w]) → ∀ {Q : VK}, Q (.bl false) H → rNeD K (.ref a) (.ref b) H Q := fun {w H a b} h1 h2 ha hb {Q} q => by
      refine ⟨.tuple [.str w], .tuple [.str w], .tup (SqT.of ha) (.cons (.str _) .nil), .tup (SqT.of hb) (.cons (.str _) .nil), h1, h1, ?_⟩
      rw [show PyData.eqv (.tuple [.str w]) (.tuple [.str w]) = true from SeqAt.eqv_refl _ h2]
      exact q
    have hB : ∀ x ∈ ([V.str "z", .str ".", .non, .int 5] : List V), ∃ d : PyData, (∀ H, Dp K H x d) ∧ PyData.canLay0 (.tuple [.str "nomarble", d]) = true ∧ SeqAt.shaped (.tuple [.str "nomarble", d]) = true ∧ ∀ H, BadM K H g x := by
      intro x hx
      simp only [List.mem_cons, List.not_mem_nil, or_false] at hx
      rcases hx with rfl | rfl | rfl | rfl
      · refine ⟨.str "z", fun H => .str _, by decide +kernel, by decide +kernel, fun H => .inl ⟨[122], rfl, by decide, ?_⟩⟩
        show (decide (1 = 1) && decide (122 ∈ mb g.flatten)) = false
        rw [decide_eq_false (p := 122 ∈ mb g.flatten) (fun z => h122 _ z rfl), Bool.and_false]
      · refine ⟨.str ".", fun H => .str _, by decide +kernel, by decide +kernel, fun H => .inl ⟨[46], rfl, by decide, ?_⟩⟩
        show (decide (1 = 1) && decide (46 ∈ mb g.flatten)) = false
        rw [decide_eq_false (p := 46 ∈ mb g.flatten) (fun z => by have := (List.mem_filter.mp z).2; simp at this), Bool.and_false]
      · exact ⟨.none, fun H => .non, by decide +kernel, by decide +kernel, fun H => .inr ⟨"NoneType", .base .non, by decide +kernel⟩⟩
      · exact ⟨.int 5, fun H => .int _, by decide +kernel, by decide +kernel, fun H => .inr ⟨"int", .base (.int 5), by decide +kernel⟩⟩
    refine ⟨fun σ H1 => ∃ v2 v3, σ = [some (.ref p), some (sg m), v2, v3, none] ∧ TrayAt K D H1 p g ∧ Tabs T H1, ?_, ?_⟩
    · refine ⟨by show 4 ≤ sizeLine; decide, fun q0 hq0 => ?_⟩
      generalize hbs : ([V.str "z", .str ".", .non, .int 5] : List V) = bs at hB hq0
      have s0 := same_new (o := .tup bs) hq0
      refine ⟨q0, rfl, ⟨_, SqT.of upd_same⟩, for_tup (K := K) (a := q0) (xs := bs) (fun n σ H1 => ∃ v2 v3, σ = [some (.ref p), some (sg m), v2, v3, none] ∧ TrayAt K D H1 p g ∧ Tabs T H1 ∧ H1 q0 = some (.tup bs))
        ⟨_, _, rfl, T0.same s0, hT.ext s0, upd_same⟩ (fun _ _ _ _ ⟨_, _, _, _, _, h6⟩ => SqT.of h6) ?_ fun σ H8 ⟨v2, v3, e, h8, t8, _⟩ => ⟨_, _, e, h8, t8⟩⟩
      rintro i x σ H1 hx ⟨v2, v3, rfl, T1, TT1, Q1⟩
      obtain ⟨d, hd, hlay, hsh, hno⟩ := hB x (List.mem_of_getElem? hx)
      refine ⟨TT1, fun Ha f1 c1 ea Ta hf1 hc1 => ⟨by show 1 ≤ sizeLine; decide, fun l hl => ?_⟩⟩
      replace T1 := tray_extN T1 ea
      replace Q1 := ea _ _ Q1 fun ps z => (by cases z)
      have s1 := same_new (o := .lst [V.ref f1]) hl
      have P1 : upd Ha l (.lst [V.ref f1]) l = some (.lst [V.ref f1]) := upd_same
      replace hf1 := s1 _ _ hf1
      replace hc1 := s1 _ _ hc1
      replace Ta := Ta.ext s1
      replace T1 := T1.same s1
      replace Q1 := s1 _ _ Q1
      generalize upd Ha l (.lst [V.ref f1]) = H2 at P1 hf1 hc1 Ta T1 Q1
      refine ⟨_, rfl, .inl ⟨rfl, _, SqL.of P1⟩, Ta, fun Hb f2 c2 eb Tb hf2 hc2 => ?_⟩
      replace P1 := eb _ _ P1 fun ps z => (by cases z)
      replace hf1 := eb _ _ hf1 lamD_nt
      replace hc1 := eb _ _ hc1 codeO_ne
      replace T1 := tray_extN T1 eb
      replace Q1 := eb _ _ Q1 fun ps z => (by cases z)
      refine ⟨l, _, _, rfl, rfl, P1, by show 1 < sizeLine; decide, ?_⟩
      replace T1 : TrayAt K D (upd Hb l (.lst ([V.ref f1] ++ [V.ref f2]))) p g := tray_but7 T1 P1 but_put
      replace Q1 := kept_lst (o' := .lst ([V.ref f1] ++ [V.ref f2])) Q1 P1 tup_nl
      replace hf1 := kept_lst (o' := .lst ([V.ref f1] ++ [V.ref f2])) hf1 P1 lamD_nl
      replace hc1 := kept_lst (o' := .lst ([V.ref f1] ++ [V.ref f2])) hc1 P1 codeD_nl
      replace hf2 := kept_lst (o' := .lst ([V.ref f1] ++ [V.ref f2])) hf2 P1 lamD_nl
      replace hc2 := kept_lst (o' := .lst ([V.ref f1] ++ [V.ref f2])) hc2 P1 codeD_nl
      replace Tb : Tabs T (upd Hb l (.lst ([V.ref f1] ++ [V.ref f2]))) := tabs_put Tb P1
      have P2 : upd Hb l (.lst ([V.ref f1] ++ [V.ref f2])) l = some (.lst [V.ref f1, V.ref f2]) := upd_same
      generalize upd Hb l (.lst ([V.ref f1] ++ [V.ref f2])) = H3 at P2 hf1 hc1 hf2 hc2 Tb T1 Q1
      refine ⟨_, rfl, .inl ⟨rfl, _, SqL.of P2⟩, Tb, fun Hc f3 c3 d3 ec Tc hf3 hc3 hd3 => ?_⟩
      replace P2 := ec _ _ P2 fun ps z => (by cases z)
      replace hf1 := ec _ _ hf1 lamD_nt
      replace hc1 := ec _ _ hc1 codeO_ne
      replace hf2 := ec _ _ hf2 lamD_nt
      replace hc2 := ec _ _ hc2 codeO_ne
      replace T1 := tray_extN T1 ec
      replace Q1 := ec _ _ Q1 fun ps z => (by cases z)
      refine ⟨l, _, _, rfl, rfl, P2, by show 2 < sizeLine; decide, ?_⟩
      replace T1 : TrayAt K D (upd Hc l (.lst ([V.ref f1, V.ref f2] ++ [V.ref f3]))) p g := tray_but7 T1 P2 but_put
      replace Q1 := kept_lst (o' := .lst ([V.ref f1, V.ref f2] ++ [V.ref f3])) Q1 P2 tup_nl
      replace hd3 := kept_lst (o' := .lst ([V.ref f1, V.ref f2] ++ [V.ref f3])) hd3 P2 tup_nl
      replace hf1 := kept_lst (o' := .lst ([V.ref f1, V.ref f2] ++ [V.ref f3])) hf1 P2 lamD_nl
      replace hc1 := kept_lst (o' := .lst ([V.ref f1, V.ref f2] ++ [V.ref f3])) hc1 P2 codeD_nl
      replace hf2 := kept_lst (o' := .lst ([V.ref f1, V.ref f2] ++ [V.ref f3])) hf2 P2 lamD_nl
      replace hc2 := kept_lst (o' := .lst ([V.ref f1, V.ref f2] ++ [V.ref f3])) hc2 P2 codeD_nl
      replace hf3 := kept_lst (o' := .lst ([V.ref f1, V.ref f2] ++ [V.ref f3])) hf3 P2 lamD_nl
      replace hc3 := kept_lst (o' := .lst ([V.ref f1, V.ref f2] ++ [V.ref f3])) hc3 P2 codeD_nl
      replace Tc : Tabs T (upd Hc l (.lst ([V.ref f1, V.ref f2] ++ [V.ref f3]))) := tabs_put Tc P2
      have P3 : upd Hc l (.lst ([V.ref f1, V.ref f2] ++ [V.ref f3])) l = some (.lst [V.ref f1, V.ref f2, V.ref f3]) := upd_same
      generalize upd Hc l (.lst ([V.ref f1, V.ref f2] ++ [V.ref f3])) = H4 at P3 hf1 hc1 hf2 hc2 hf3 hc3 hd3 Tc T1 Q1
      refine ⟨_, rfl, l, rfl, ⟨_, SqL.of P3⟩, fun E2 hE2 => lc_list (K := K) (a := l) (xs := [V.ref f1, V.ref f2, V.ref f3]) (fun n H5 => Same H4 H5 ∧ H5 E2 = some (.lst [])) ⟨same_new hE2, upd_same⟩ (fun n H5 _ ⟨sm, _⟩ => SqL.of (sm _ _ P3)) ?_ ?_⟩
      · rintro n y H5 hy ⟨sm, hE⟩
        match n with
        | 0 =>
          cases hy
          refine ⟨rfl, _, rfl, told_mk (sm _ _ hf1) (sm _ _ hc1) (.inl ⟨rfl, rfl⟩) ⟨(show LamS2 NRj7 (defScope sLawAreRejected) _ [] from lamS2_by (by decide +kernel)), bindsN fun _ _ _ => rfl, fun A outer s H E f c' hr' => pe_call GFp (hr'.mono (by decide)) rfl mFp kFp bFp .nil (passX (takes_of rfl rfl rfl rfl)) (pa_cons (pv 0) (pa_cons (pv 2) (pa_cons pe_non pa_nil)))⟩ ?_⟩
          refine ⟨_, rfl, _, rfl, p, x, V.non, h, w, g, rfl, T1.same sm, hV, .inr ⟨hno _, fun H' dd s6 nd hdd => ?_⟩⟩
          refine ⟨2, _, [.str "nomarble", x], by decide, congrArg Value.ref L.cu.symm, (fun d' z => by cases z; exact hdd), (fun _ z => nomatch z), rfl, fun H7 q1 s7 hq1 => ?_⟩
          refine ⟨_, rfl, by show 2 ≤ sizeLine; decide, fun q2 hq2 => ?_⟩
          have s8 := same_new (o := .tup [V.str "nomarble", x]) hq2
          have s58 : Same H5 (upd H7 q2 (.tup [V.str "nomarble", x])) := (s6.trans (show Same H' H7 from s7)).trans s8
          refine ⟨.tuple [.str "nomarble", d], .tuple [.str "nomarble", d], .tup (SqT.of (s8 _ _ hq1)) (.cons (.str _) (.cons (hd _) .nil)), .tup (SqT.of upd_same) (.cons (.str _) (.cons (hd _) .nil)), hsh, hsh, _, rfl, ?_⟩
          rw [show PyData.eqv (.tuple [.str "nomarble", d]) (.tuple [.str "nomarble", d]) = true from SeqAt.eqv_refl _ hlay]
          exact iteF ⟨sm.trans s58, s58 _ _ hE⟩
        | 1 =>
          cases hy
          refine ⟨rfl, _, rfl, told_mk (sm _ _ hf2) (sm _ _ hc2) (.inl ⟨rfl, rfl⟩) ⟨(show LamS2 NRj7 (defScope sLawAreRejected) _ [] from lamS2_by (by decide +kernel)), bindsN fun _ _ _ => rfl, fun A outer s H E f c' hr' => pe_call GFm (hr'.mono (by decide)) rfl mFm kFm bFm .nil (passX (takes_of rfl rfl rfl rfl)) (pa_cons (pv 0) (pa_cons (pv 2) (pa_cons (pv 1) pa_nil)))⟩ ?_⟩
          refine ⟨_, rfl, _, rfl, _, rfl, p, x, sg m, h, w, g, rfl, T1.same sm, hV, .inl ⟨hno _, fun H' dd s6 nd hdd => ?_⟩⟩
          refine ⟨2, _, [.str "nomarble", x], by decide, congrArg Value.ref L.cu.symm, (fun d' z => by cases z; exact hdd), (fun _ z => nomatch z), rfl, fun H7 q1 s7 hq1 => ?_⟩
          refine ⟨_, rfl, by show 2 ≤ sizeLine; decide, fun q2 hq2 => ?_⟩
          have s8 := same_new (o := .tup [V.str "nomarble", x]) hq2
          have s58 : Same H5 (upd H7 q2 (.tup [V.str "nomarble", x])) := (s6.trans (show Same H' H7 from s7)).trans s8
          refine ⟨.tuple [.str "nomarble", d], .tuple [.str "nomarble", d], .tup (SqT.of (s8 _ _ hq1)) (.cons (.str _) (.cons (hd _) .nil)), .tup (SqT.of upd_same) (.cons (.str _) (.cons (hd _) .nil)), hsh, hsh, _, rfl, ?_⟩
          rw [show PyData.eqv (.tuple [.str "nomarble", d]) (.tuple [.str "nomarble", d]) = true from SeqAt.eqv_refl _ hlay]
          exact iteF ⟨sm.trans s58, s58 _ _ hE⟩
        | 2 =>
          cases hy
          refine ⟨rfl, _, rfl, told_mk (sm _ _ hf3) (sm _ _ hc3) (.inr ⟨d3, rfl, sm _ _ hd3⟩) ⟨(show LamS2 NRj7 (defScope sLawAreRejected) _ ["_law_b"] from lamS2_by (by decide +kernel)), bindsV rfl rfl rfl rfl rfl, fun A outer s H E f c' hr' => pe_call GFm (hr'.mono (by decide)) rfl mFm kFm bFm .nil (passX (takes_of rfl rfl rfl rfl)) (pa_cons (pv 0) (pa_cons (pv 1) (pa_cons (pv 2) pa_nil)))⟩ ?_⟩
          refine ⟨_, rfl, _, rfl, _, rfl, p, sg m, x, h, w, g, rfl, T1.same sm, hV, .inr ⟨m, rfl, hm, .inl ⟨fun _ _ => hno _, fun H' dd s6 nd hdd => ?_⟩⟩⟩
          refine ⟨2, _, [.str "nomarble", x], by decide, congrArg Value.ref L.cu.symm, (fun d' z => by cases z; exact hdd), (fun _ z => nomatch z), rfl, fun H7 q1 s7 hq1 => ?_⟩
          refine ⟨_, rfl, by show 2 ≤ sizeLine; decide, fun q2 hq2 => ?_⟩
          have s8 := same_new (o := .tup [V.str "nomarble", x]) hq2
          have s58 : Same H5 (upd H7 q2 (.tup [V.str "nomarble", x])) := (s6.trans (show Same H' H7 from s7)).trans s8
          refine ⟨.tuple [.str "nomarble", d], .tuple [.str "nomarble", d], .tup (SqT.of (s8 _ _ hq1)) (.cons (.str _) (.cons (hd _) .nil)), .tup (SqT.of upd_same) (.cons (.str _) (.cons (hd _) .nil)), hsh, hsh, _, rfl, ?_⟩
          rw [show PyData.eqv (.tuple [.str "nomarble", d]) (.tuple [.str "nomarble", d]) = true from SeqAt.eqv_refl _ hlay]
          exact iteF ⟨sm.trans s58, s58 _ _ hE⟩
        | n + 3 => simp at hy
      · rintro H5 ⟨sm, hE⟩
        refine ⟨by show 0 ≤ sizeLine; decide, fun q9 hq9 => ?_⟩
        have s9 := same_new (o := .lst []) hq9
        have sA := sm.trans s9
        exact ⟨.list [], .list [], .lst (SqL.of (s9 _ _ hE)) .nil, .lst (SqL.of upd_same) .nil, by decide +kernel, by decide +kernel, _, rfl, iteF ⟨_, _, rfl, T1.same sA, Tc.ext sA, sA _ _ Q1⟩⟩
    rintro σ H1 ⟨v2, v3, rfl, T1, TT1⟩
    -- the same marble
    refine ⟨fun σ H2 => σ = [some (.ref p), some (sg m), v2, v3, none] ∧ TrayAt K D H2 p g ∧ Tabs T H2, ?_, ?_⟩
    · refine ⟨TT1, fun Ha ea Ta => ?_⟩
      have Tr := tray_extN T1 ea
      refine ⟨_, rfl, _, rfl, _, rfl, p, sg m, sg m, h, w, g, rfl, Tr, hV, .inr ⟨m, rfl, hm, .inr ⟨rfl, fun H' s1 => ⟨5, [], [.str "same"], by decide, congrArg Value.ref L.cs.symm, (fun _ z => nomatch z), (fun z => absurd z (by decide)), rfl, fun H7 q1 s7 hq1 => ?_⟩⟩⟩⟩
      refine ⟨by show 1 ≤ sizeLine; decide, fun q2 hq2 => ?_⟩
      have s8 := same_new (o := .tup [V.str "same"]) hq2
      have sA := (s1.trans (show Same H' H7 from s7)).trans s8
      exact noE (by decide +kernel) (by decide +kernel) (s8 _ _ hq1) upd_same ⟨_, rfl, iteF ⟨rfl, Tr.same sA, Ta.ext sA⟩⟩
    rintro σ H2 ⟨rfl, T2, TT2⟩
    clear T1 TT1 H1
    -- no places
    refine ⟨fun σ H3 => True, ?_, fun σ H3 _ => k _⟩
    refine ⟨by show 2 ≤ sizeLine; decide, fun t1 ht1 => ⟨by show 1 ≤ sizeLine; decide, fun t2 ht2 => ⟨by show 3 ≤ sizeLine; decide, fun q0 hq0 => ?_⟩⟩⟩
    have s1 := same_new (o := .tup [V.int 9, V.int 0]) ht1
    have s2 := same_new (o := .tup [V.int 0]) ht2
    have s3 := same_new (o := .tup [V.ref t1, V.non, V.ref t2]) hq0
    have e1 := s3 _ _ (s2 _ _ (show upd H2 t1 (.tup [V.int 9, V.int 0]) t1 = some (.tup [V.int 9, V.int 0]) from upd_same))
    have e2 := s3 _ _ (show upd (upd H2 t1 (.tup [V.int 9, V.int 0])) t2 (.tup [V.int 0]) t2 = some (.tup [V.int 0]) from upd_same)
    have e3 : upd (upd (upd H2 t1 (.tup [V.int 9, V.int 0])) t2 (.tup [V.int 0])) q0 (.tup [V.ref t1, V.non, V.ref t2]) q0 = some (.tup [V.ref t1, V.non, V.ref t2]) := upd_same
    have sA := (s1.trans s2).trans s3
    generalize upd (upd (upd H2 t1 (.tup [V.int 9, V.int 0])) t2 (.tup [V.int 0])) q0 (.tup [V.ref t1, V.non, V.ref t2]) = H3 at e1 e2 e3 sA
    refine ⟨q0, rfl, ⟨_, SqT.of e3⟩, for_tup (K := K) (a := q0) (xs := [V.ref t1, V.non, V.ref t2]) (fun n σ H4 => ∃ v2, σ = [some (.ref p), some (sg m), v2, v3, none] ∧ TrayAt K D H4 p g ∧ Tabs T H4 ∧ H4 q0 = some (.tup [V.ref t1, V.non, V.ref t2]) ∧ H4 t1 = some (.tup [V.int 9, V.int 0]) ∧ H4 t2 = some (.tup [V.int 0]))
      ⟨_, rfl, T2.same sA, TT2.ext sA, e3, e1, e2⟩ (fun _ _ _ _ ⟨_, _, _, _, h6, _⟩ => SqT.of h6) ?_ fun σ H8 _ => trivial⟩
    rintro i x σ H4 hx ⟨v2', rfl, T4, TT4, Q4, a1, a2⟩
    have hP : ∀ H', H' t1 = some (.tup [V.int 9, V.int 0]) → H' t2 = some (.tup [V.int 0]) → Plc K H' h w x false := fun H' b1 b2 => by
      match i with
      | 0 =>
        cases hx
        have e : (TA.isN (V.int 9) ((h : Int) - 1) && TA.isN (V.int 0) ((w : Int) - 1)) = false := by
          have := hV.n8
          have z : TA.isN (V.int 9) ((h : Int) - 1) = false := by
            unfold TA.isN
            simp
            omega
          rw [z]
          rfl
        rw [← e]
        exact .two (SqT.of b1) (TA.kn_int _) (TA.kn_int _)
      | 1 =>
        cases hx
        exact .other (.base .non) (by decide +kernel)
      | 2 =>
        cases hx
        exact .tup (SqT.of b2) (by decide)
      | i + 3 => simp at hx
    refine ⟨TT4, fun Ha ea Ta => ?_⟩
    have Tr := tray_extN T4 ea
    replace Q4 := ea _ _ Q4 fun ps z => (by cases z)
    replace a1 := ea _ _ a1 fun ps z => (by cases z)
    replace a2 := ea _ _ a2 fun ps z => (by cases z)
    refine ⟨_, rfl, _, rfl, _, rfl, p, sg m, x, h, w, g, rfl, Tr, hV, .inl ⟨m, rfl, hm, fun H' s1 => hP H' (s1 _ _ a1) (s1 _ _ a2), fun H' s1 => ⟨3, [], [.str "place"], by decide, congrArg Value.ref L.cp.symm, (fun _ z => nomatch z), (fun z => absurd z (by decide)), rfl, fun H7 q1 s7 hq1 => ?_⟩⟩⟩
    refine ⟨by show 1 ≤ sizeLine; decide, fun q2 hq2 => ?_⟩
    have s8 := same_new (o := .tup [V.str "place"]) hq2
    have sA := (s1.trans (show Same H' H7 from s7)).trans s8
    exact noE (by decide +kernel) (by decide +kernel) (s8 _ _ hq1) upd_same ⟨_, rfl, iteF ⟨_, rfl, Tr.same sA, Ta.ext sA, sA _ _ Q4, sA _ _ a1, sA _ _ a2⟩⟩
end
end TR
end
namespace TR
end TR
namespace TR
end TR
namespace TR
end TR
namespace TR
end TR
section
set_option Elab.async false
set_option maxRecDepth 100000
set_option linter.all false
namespace TM
/-- the least of all words that lead to a goal is the first that is found -/
theorem way_best {h w : Nat} {g : Grid} (R : Rect h w g) (F : Few h w g) {ok : Grid → Bool} {us : List (List Nat)} (hus : ∀ u, u ∈ us ↔ ∃ x, (u, x) ∈ ways h w g ∧ ok x = true) :
    (us = [] → (ways h w g).find? (fun y => ok y.2) = none) ∧ ∀ u ∈ us, (∀ v ∈ us, val u ≤ val v) → ∃ x, (ways h w g).find? (fun y => ok y.2) = some (u, x) := by
  refine ⟨fun e => List.find?_eq_none.mpr fun y hy z => ?_, fun u hu low => ?_⟩
  · have := (hus y.1).mpr ⟨y.2, hy, z⟩
    rw [e] at this
    cases this
  · obtain ⟨x, hx, ox⟩ := (hus u).mp hu
    cases e : (ways h w g).find? (fun y => ok y.2) with
    | none => exact absurd ox (by simpa using List.find?_eq_none.mp e _ hx)
    | some y =>
      obtain ⟨oy, as, bs, es, no⟩ := List.find?_eq_some_iff_append.mp e
      have my : y ∈ ways h w g := List.mem_of_find?_eq_some e
      have low1 := low y.1 ((hus y.1).mpr ⟨y.2, my, oy⟩)
      have le2 : val y.1 ≤ val u := by
        have pw := ways_ok (n := h) (m := w) (g := g) |>.2.2.2
        rw [es] at hx pw
        rcases List.mem_append.mp hx with q | q
        · have := no _ q
          rw [show ok (u, x).2 = true from ox] at this
          cases this
        · rcases List.mem_cons.mp q with q | q
          · rw [← q]
            exact Nat.le_refl _
          · have := (List.pairwise_append.mp pw).2.1
            exact Nat.le_of_lt ((List.pairwise_cons.mp this).1 _ q)
      have e3 : y.1 = u := val_inj _ _ (ways_least R F (u := y.1) (x := y.2) my).1 (ways_least R F hx).1 (Nat.le_antisymm le2 low1)
      exact ⟨y.2, by rw [← e3]⟩
theorem way_tray {h w : Nat} {g : Grid} (R : Rect h w g) (F : Few h w g) (g' : Grid) : (∀ u, (u, g') ∈ ways h w g → (ways h w g).find? (fun y => decide (y.2 = g')) = some (u, g')) ∧ ((∀ u, (u, g') ∉ ways h w g) → (ways h w g).find? (fun y => decide (y.2 = g')) = none) := by
  refine ⟨fun u hu => ?_, fun no => List.find?_eq_none.mpr fun y hy z => ?_⟩
  · cases e : (ways h w g).find? (fun y => decide (y.2 = g')) with
    | none => exact (List.find?_eq_none.mp e _ hu (decide_eq_true rfl)).elim
    | some y =>
      have my : y ∈ ways h w g := List.mem_of_find?_eq_some e
      have oy : y.2 = g' := by simpa using List.find?_some e
      have : y.1 = u := ways_uniq R F (x := g') (by rw [← oy]; exact my) hu
      rw [← this, ← oy]
  · have oy : y.2 = g' := by simpa using z
    exact no y.1 (by rw [← oy]; exact hy)
end TM
namespace TR
open PySem PySem.Spec PyProof.Rows L2 TM TK TB TX TP TH TU TG GenW LamX TW
theorem VG_take {h w : Nat} {g : Grid} (hV : VG h w g) : VG (min 4 h) w (g.take 4) ∧ ∀ c, c ∈ mb (g.take 4).flatten → c ∈ mb g.flatten := by
  have sub : (g.take 4).flatten.Sublist g.flatten := by
    have e : g.flatten = (g.take 4).flatten ++ (g.drop 4).flatten := by rw [← List.flatten_append, List.take_append_drop]
    rw [e]
    exact List.sublist_append_left _ _
  refine ⟨⟨⟨by rw [List.length_take, hV.rc.1], fun r hr => hV.rc.2 r (List.mem_of_mem_take hr)⟩, ?_, ?_, hV.m1, hV.m8, fun r hr => hV.ok r (List.mem_of_mem_take hr), hV.nd.sublist (List.Sublist.filter _ sub)⟩, fun c hc => (List.Sublist.filter _ sub).subset hc⟩
  · have := hV.n1
    omega
  · have := hV.n8
    omega
theorem cutV_tk7 (t : List V) (d : Nat) : cutV t none (some (d : Int)) = t.take d := by
  unfold cutV
  rw [show HT.sIx t.length 0 none = 0 from rfl, HT.sIx_nat, Nat.sub_zero, List.drop_zero]
  rcases Nat.le_total d t.length with h | h
  · rw [Nat.min_eq_left h]
  · rw [Nat.min_eq_right h, List.take_length, List.take_of_length_le h]
theorem lock_same7 {H H' : Hp} {d : Addr} {u : HO} {od : Obj} (e : H d = some u) (s : Same (upd H d (.frz od u)) H') : Same H (upd H' d u) := fun b o h => by
  by_cases q : b = d
  · subst q
    rw [upd_same, ← e]
    exact h
  · rw [upd_ne q]
    exact s b o (by rw [upd_ne q]; exact h)
/-- the words of the known trays that are a goal -/
def sel7 (ok : Grid → Bool) (Kn : Paths) : List (List Nat) := (Kn.filter fun z => ok z.1).map (·.2)
theorem sel_succ {ok : Grid → Bool} {Kn : Paths} {i : Nat} {z : Grid × List Nat} (hz : Kn[i]? = some z) : sel7 ok (Kn.take (i + 1)) = sel7 ok (Kn.take i) ++ (if ok z.1 = true then [z.2] else []) := by
  unfold sel7
  rw [List.take_succ, hz, List.filter_append, List.map_append]
  congr 1
  show (([z] : Paths).filter fun z => ok z.1).map (·.2) = _
  by_cases e : ok z.1 = true
  · rw [if_pos e]
    simp [List.filter, e]
  · rw [if_neg e]
    simp [List.filter, e]
theorem sel_mem {ok : Grid → Bool} {Kn : Paths} {u : List Nat} : u ∈ sel7 ok Kn ↔ ∃ x, (x, u) ∈ Kn ∧ ok x = true := by
  unfold sel7
  rw [List.mem_map]
  constructor
  · rintro ⟨z, hz, rfl⟩
    obtain ⟨h1, h2⟩ := List.mem_filter.mp hz
    exact ⟨z.1, h1, h2⟩
  · rintro ⟨x, h1, h2⟩
    exact ⟨(x, u), List.mem_filter.mpr ⟨h1, h2⟩, rfl⟩
theorem sel_len {ok : Grid → Bool} {Kn : Paths} : (sel7 ok Kn).length ≤ Kn.length := by
  unfold sel7
  rw [List.length_map]
  exact List.length_filter_le ..
theorem alk_way7 {K : PySem.W.Frag} {H : Hp} {W : Ways} {ok : List Nat × Grid → Bool} : TA.Alk K H 0 (wayV W ok) (wayV W ok) := by
  unfold wayV
  cases W.find? ok with
  | none => exact .non
  | some y => exact .str _
structure R7 (K : PySem.W.Frag) (D a r l p kd nm : Addr) (T : List (Addr × Str)) (ns : List Int) (g : Grid) (Kn : Paths) (ys : List Str) (H : Hp) : Prop where
  rw : RowAt K a ns H r
  tb : Tabs T H
  tr : TrayAt K D H p g
  ll : H l = some (.lst (rowV g))
  kn : H kd = some (.dK (kvP Kn))
  nl : H nm = some (.lst (ys.map V.str))
  nr : nm ≠ r
theorem row_ext7 {K : PySem.W.Frag} {a r : Addr} {ns : List Int} {H H' : Hp} (R : RowAt K a ns H r) (e : ExtN H H') : RowAt K a ns H' r := by
  obtain ⟨i, d, u, h, hi, q⟩ := R
  refine ⟨i, d, u, e _ _ h (fun ps z => by cases z), hi, ?_⟩
  rcases q with (q | ⟨o, q⟩) | q
  · exact .inl (.inl (e _ _ q fun ps z => by cases z))
  · exact .inl (.inr ⟨o, e _ _ q fun ps z => by cases z⟩)
  · exact .inr q
theorem rows_apart7 {K : PySem.W.Frag} {H : Hp} {a r l : Addr} {ns : List Int} {g : Grid} (hl : H l = some (.lst (rowV g))) (R : RowAt K a ns H r) : l ≠ r := fun z => by
  obtain ⟨_, _, _, e, _⟩ := R
  rw [z, e] at hl
  have z2 := congrArg (fun o => match o with | some (HO.lst (V.ref _ :: _)) => true | _ => false) hl
  cases g with
  | nil => cases z2
  | cons x G => cases z2
theorem tabs_but7 {T : List (Addr × Str)} {H H' : Hp} {r : Addr} {xs : List V} (h : Tabs T H) (hr : H r = some (.lst xs)) (b : But r H H') : Tabs T H' := fun p hp => by
  obtain ⟨ps, h1, h2, h3⟩ := h p hp
  refine ⟨ps, b _ _ h1 fun e => ?_, h2, fun pos cv hc => ?_⟩
  · rw [e, hr] at h1
    cases h1
  · obtain ⟨c, e1, e2⟩ := h3 pos cv hc
    exact ⟨c, e1, b _ _ e2 fun e => by rw [e, hr] at e2; cases e2⟩
section
variable {K : PySem.W.Frag} {D a r l p kd nm : Addr} {T : List (Addr × Str)} {ns : List Int} {g : Grid} {Kn : Paths} {ys : List Str} {H H' : Hp}
theorem R7.same (I : R7 K D a r l p kd nm T ns g Kn ys H) (s : Same H H') : R7 K D a r l p kd nm T ns g Kn ys H' := ⟨I.rw.same s, I.tb.ext s, I.tr.same s, s _ _ I.ll, s _ _ I.kn, s _ _ I.nl, I.nr⟩
theorem R7.ext (I : R7 K D a r l p kd nm T ns g Kn ys H) (e : ExtN H H') (tb : Tabs T H') : R7 K D a r l p kd nm T ns g Kn ys H' := ⟨row_ext7 I.rw e, tb, tray_extN I.tr e, e _ _ I.ll fun ps z => (by cases z), e _ _ I.kn fun ps z => (by cases z), e _ _ I.nl fun ps z => (by cases z), I.nr⟩
theorem R7.but (I : R7 K D a r l p kd nm T ns g Kn ys H) (b : But r H H') (R : RowAt K a ns H' r) : R7 K D a r l p kd nm T ns g Kn ys H' := by
  obtain ⟨_, _, _, hr, _⟩ := id I.rw
  exact ⟨R, tabs_but7 I.tb hr b, tray_but7 I.tr hr b, b _ _ I.ll (rows_apart7 I.ll I.rw), b _ _ I.kn (fun z => by have := I.kn; rw [z, hr] at this; cases this), b _ _ I.nl I.nr, I.nr⟩
end
end TR
end
section
set_option Elab.async false
set_option maxRecDepth 100000
set_option linter.all false
namespace TR
open PySem PySem.Spec PyProof.Rows L2 TM TK TB TX TP TH TU TG GenW LamX TW
structure L7 (P : Program) (w_ : World) (K : PySem.W.Frag) (mg : Str → Option Value) (base : Heap) (n : Nat) (D : Addr) (T : List (Addr × Str)) : Prop where
  rng : mg "range" = none
  srt : mg "sorted" = none
  lst : mg "list" = none
  len : mg "len" = none
  ct : ClsT K mg D
  fTk : ∃ g fd, (∀ a ns, FnOk P w_ K mg base CX0 1 g fd ["_law_row", "_law_many"] (spTk K a ns)) ∧ PySem.W.keepIn K (.ref g) = true ∧ Binds K fd ["_law_row", "_law_many"] [] ∧ mg "_law_taken" = some (.ref g)
  fRw : ∃ g fd, (∀ a ns, FnOk P w_ K mg base CX0 2 g fd ["_law_row", "_law_most"] (spRwN K a ns)) ∧ PySem.W.keepIn K (.ref g) = true ∧ Binds K fd ["_law_row", "_law_most"] [] ∧ mg "_law_rows" = some (.ref g)
  fPs : ∃ g fd, FnOk P w_ K mg base CX0 1 g fd ["_law_rows_here"] (spPs K) ∧ PySem.W.keepIn K (.ref g) = true ∧ Binds K fd ["_law_rows_here"] [] ∧ mg "_law_places" = some (.ref g)
  fLv : ∃ g fd, FnOk P w_ K mg base CX0 2 g fd ["_law_rows_here"] (spLv7 K) ∧ PySem.W.keepIn K (.ref g) = true ∧ Binds K fd ["_law_rows_here"] [] ∧ mg "_law_levels" = some (.ref g)
  fBs : ∃ g fd, FnOk P w_ K mg base CX0 1 g fd ["_law_paths"] (spBs7 K) ∧ PySem.W.keepIn K (.ref g) = true ∧ Binds K fd ["_law_paths"] [] ∧ mg "_law_best" = some (.ref g)
  fBe : ∃ g fd, FnOk P w_ K mg base CX0 2 g fd ["_law_text", "_law_one", "_law_other"] (spBe7 K) ∧ PySem.W.keepIn K (.ref g) = true ∧ Binds K fd ["_law_text", "_law_one", "_law_other"] [] ∧ mg "_law_are_beside" = some (.ref g)
  fAl : ∃ g fd, FnOk P w_ K mg base CX0 1 g fd ["_law_one", "_law_due"] (TA.spAl K 0) ∧ PySem.W.keepIn K (.ref g) = true ∧ Binds K fd ["_law_one", "_law_due"] [] ∧ mg "_law_alike" = some (.ref g)
  fFp : ∃ g, FnRn n P w_ K mg base CX0 9 g (spFp K D T) ∧ PySem.W.keepIn K (.ref g) = true ∧ mg "fewest_to_place" = some (.ref g)
  fFm : ∃ g, FnRn n P w_ K mg base CX0 9 g (spFm K D T) ∧ PySem.W.keepIn K (.ref g) = true ∧ mg "fewest_to_meet" = some (.ref g)
  fFt : ∃ g, FnRn n P w_ K mg base CX0 9 g (spFt K D T) ∧ PySem.W.keepIn K (.ref g) = true ∧ mg "fewest_to_tray" = some (.ref g)
  fRj : ∃ g, FnRn n P w_ K mg base CX0 8 g (spRj7 K D T) ∧ PySem.W.keepIn K (.ref g) = true ∧ mg "_law_are_rejected" = some (.ref g)
  ot : ∃ mc p g, ClX.CRead K D mc ∧ ClX.CMet K D mc "of_text" p g ∧ FnR P w_ K mg base CX0 5 g (spOt K D)
  pRw : ∃ p g fd, PropOf K D "rows" p g ∧ FnOk P w_ K mg base CX0 1 g fd ["self"] (getSp D "_rows") ∧ Binds K fd ["self"] []
section
variable {P : Program} {w_ : World} {K : PySem.W.Frag} {mg : Str → Option Value} {base : Heap} {n : Nat} {D : Addr} {T : List (Addr × Str)}
abbrev NLw7 : List Str := ["_law_script", "_law_row", "_law_rows_here", "_law_tray", "_law_known", "_law_is_whole", "_law_names", "_law_turn", "_law_name", "_law_other", "_law_place", "_law_due", "_law_goal", "_law_text"]
theorem scLw7 : FnScope NLw7 ["_law_script"] (defScope sLaw) := ⟨rfl, rfl, rfl, by decide +kernel, rfl, by decide +kernel, by decide +kernel⟩
abbrev st7 (a r l p kd : Addr) (b : Bool) (nm : Addr) (v7 v8 v9 v10 v11 v12 : Option V) : L2.St := [some (.ref a), some (.ref r), some (.ref l), some (.ref p), some (.ref kd), some (.bl b), some (.ref nm), v7, v8, v9, v10, v11, v12, none]
def spLaw7 (K : PySem.W.Frag) (T : List (Addr × Str)) : Sp := fun vs H Q _ => ∃ (a : Addr) (ns : List Int), vs = [.ref a] ∧ SqL K H a (ns.map V.int) ∧ Tabs T H ∧ ∀ H', Q (.bl true) H'
set_option maxHeartbeats 4000000 in
theorem ok_law7 {f : Addr} {fd : FuncData} (F : Fun K "law" "law" sLaw f fd) (b : Binds K fd ["_law_script"] []) (L : L7 P w_ K mg base n D T) : FnRn n P w_ K mg base CX0 11 f (spLaw7 K T) := by
  obtain ⟨gTk, fdTk, GTk, kTk, bTk, mTk⟩ := L.fTk
  obtain ⟨gRw, fdRw, GRw, kRw, bRw, mRw⟩ := L.fRw
  obtain ⟨gPs, fdPs, GPs, kPs, bPs, mPs⟩ := L.fPs
  obtain ⟨gLv, fdLv, GLv, kLv, bLv, mLv⟩ := L.fLv
  obtain ⟨gBs, fdBs, GBs, kBs, bBs, mBs⟩ := L.fBs
  obtain ⟨gBe, fdBe, GBe, kBe, bBe, mBe⟩ := L.fBe
  obtain ⟨gAl, fdAl, GAl, kAl, bAl, mAl⟩ := L.fAl
  obtain ⟨gFp, GFp, kFp, mFp⟩ := L.fFp
  obtain ⟨gFm, GFm, kFm, mFm⟩ := L.fFm
  obtain ⟨gFt, GFt, kFt, mFt⟩ := L.fFt
  obtain ⟨gRj, GRj, kRj, mRj⟩ := L.fRj
  obtain ⟨pR, gR_, fdR_, PR, GR, bR_⟩ := L.pRw
  obtain ⟨mc, pO, gO, CR_, CM, GO⟩ := L.ot
  have CT := L.ct
  refine fn_n F b scLw7 (fun vs H Q E h => ?_) fun cdv A outer s H vs Q E hr h => ?_
  · obtain ⟨a, ns, rfl, _⟩ := h
    rfl
  · obtain ⟨a, ns, rfl, hS, hT, k⟩ := h
    have nd := scLw7.nd
    have r9 := hr.mono (show 9 ≤ 10 by decide)
    have r8 := hr.mono (show 8 ≤ 10 by decide)
    have r5 := hr.mono (show 5 ≤ 10 by decide)
    have r2 := hr.mono (show 2 ≤ 10 by decide)
    have r1 := hr.mono (show 1 ≤ 10 by decide)
    refine ⟨_, pssn_cut (PS.up (ps_set (i := 1) nd rfl (.inl rfl) (pe_lst (pa_cons (pv 0) (pa_cons pe_int (pa_cons pe_int (pa_cons pe_int pa_nil)))))))
      (pssn_cut (PS.up (ps_set (i := 2) nd rfl (.inl rfl) (pe_slice sl_list (pe_call (GRw a ns) r2 rfl mRw kRw bRw .nil pass0 (pa_cons (pv 1) (pa_cons pe_int pa_nil))) po_none (po_some pe_int))))
      (pssn_cut (PS.up (ps_set (i := 3) nd rfl (.inl rfl) (ClX.pe_cmeth (pe_glob (v := .ref D) rfl CT.mgC rfl) CR_ CM GO r5 pass0 (pa_cons (pe_join pe_str (pv 2)) pa_nil))))
      (pssn_cut (PS.up (ps_asg (pe_call GLv r2 rfl mLv kLv bLv .nil pass0 (pa_cons (pv 2) pa_nil)) (pg_tup rfl (pgs_cons (pg_name (i := 4) nd rfl (.inr rfl)) (pgs_cons (pg_name (i := 5) nd rfl (.inl rfl)) pgs_nil)))))
      (pssn_cut (PS.up (ps_set (i := 6) nd rfl (.inl rfl) (pe_callB (call_sortedD rfl) (by rfl) L.srt (by decide +kernel) (pa_cons (pe_call GPs r1 rfl mPs kPs bPs .nil pass0 (pa_cons (pv 2) pa_nil)) pa_nil))))
      (pssn_cut (PS.up (ps_if (PW.pt (pw_or (pt_not (pt_val (pv 5))) (pw_or1 (pt_cmpR (op_eqE7 (K := K) rfl hr.units) (pv 6) (pe_lst pa_nil) (nomark _))))) (pss_one (ps_ret pe_bl)) pss_nil))
      (pssn_cut (psn_for PassesOwn.never rfl (pi_range1 (by rfl) L.rng (pa_cons pe_int pa_nil)) (pg_name (i := 7) nd rfl (.inl rfl))
        (pssn_cut (PS.up (ps_asg (pe_tup (pa_cons (pe_ix ix_list (pv 6) (pe_call (GTk a ns) r1 rfl mTk kTk bTk .nil pass0 (pa_cons (pv 1) (pa_cons (pe_callB call_len_seq (by rfl) L.len PySem.boot_len (pa_cons (pv 6) pa_nil)) pa_nil))) (fun _ _ => rfl))
            (pa_cons (pe_ix ix_list (pv 6) (pe_call (GTk a ns) r1 rfl mTk kTk bTk .nil pass0 (pa_cons (pv 1) (pa_cons (pe_callB call_len_seq (by rfl) L.len PySem.boot_len (pa_cons (pv 6) pa_nil)) pa_nil))) (fun _ _ => rfl)) pa_nil)))
            (pg_tup rfl (pgs_cons (pg_name (i := 8) nd rfl (.inr rfl)) (pgs_cons (pg_name (i := 9) nd rfl (.inr rfl)) pgs_nil)))))
        (pssn_cut (PS.up (ps_set (i := 10) nd rfl (.inr rfl) (pe_tup (pa_cons (pe_call (GTk a ns) r1 rfl mTk kTk bTk .nil pass0 (pa_cons (pv 1) (pa_cons (pe_callB call_len_seq (by rfl) L.len PySem.boot_len (pa_cons (pv 2) pa_nil)) pa_nil)))
            (pa_cons (pe_call (GTk a ns) r1 rfl mTk kTk bTk .nil pass0 (pa_cons (pv 1) (pa_cons (pe_callB call_len_str (by rfl) L.len PySem.boot_len (pa_cons (pe_ix ix_list (pv 2) pe_int (fun _ _ => rfl)) pa_nil)) pa_nil))) pa_nil)))))
        (pssn_cut (PS.up (ps_set (i := 11) nd rfl (.inl rfl) (pe_call GBs r1 rfl mBs kBs bBs .nil pass0 (pa_cons (pe_lock (pe_lc (own := [("_law_text", 13)]) (g := gName 13) rfl nd (pi_keys (pv 4)) (blkOk_by (N := NLw7) (sc := defScope sLaw) (by decide +kernel)) (fun _ _ _ _ _ => pg_name (i := 13) nd rfl (.inl rfl))
            (fun _ _ _ _ _ => pts_one (pt_cmpR (TQ.op_eqDK (K := K) rfl hr.units) (pe_dget (hu_of r1) (pe_call GPs r1 rfl mPs kPs bPs .nil pass0 (pa_cons (pe_split (pv 13) pe_str) pa_nil)) (pv 8) (fun _ _ => rfl)) (pv 10) (nomark _)))
            (fun _ _ _ _ _ => pe_dget (hu_of r1) (pv 4) (pv 13) (fun _ _ => rfl)))) pa_nil))))
        (pssn_cut (psn_if (ptn_not (ptn_val (pen_call (fnOk_n GAl bAl) r1 rfl mAl kAl pass0 (pan_cons (pen_call GFp r9 rfl mFp kFp pass0 (pan_cons (PE.up (pv 3)) (pan_cons (PE.up (pv 8)) (pan_cons (PE.up (pv 10)) pan_nil)))) (pan_cons (PE.up (pv 11)) pan_nil))))) (PSs.up pss_never) (PSs.up pss_nil))
        (pssn_cut (psn_if (PT.up (pt_cmpR op_ne (pv 8) (pv 9) (nomark _)))
          (pssn_cut (PS.up (ps_set (i := 11) nd rfl (.inl rfl) (pe_call GBs r1 rfl mBs kBs bBs .nil pass0 (pa_cons (pe_lock (pe_lc (own := [("_law_text", 13)]) (g := gName 13) rfl nd (pi_keys (pv 4)) (blkOk_by (N := NLw7) (sc := defScope sLaw) (by decide +kernel)) (fun _ _ _ _ _ => pg_name (i := 13) nd rfl (.inl rfl))
            (fun _ _ _ _ _ => pts_one (pt_val (pe_call GBe r2 rfl mBe kBe bBe .nil pass0 (pa_cons (pv 13) (pa_cons (pv 8) (pa_cons (pv 9) pa_nil))))))
            (fun _ _ _ _ _ => pe_dget (hu_of r1) (pv 4) (pv 13) (fun _ _ => rfl)))) pa_nil))))
          (pssn_one (psn_if (ptn_not (ptn_val (pen_call (fnOk_n GAl bAl) r1 rfl mAl kAl pass0 (pan_cons (pen_call GFm r9 rfl mFm kFm pass0 (pan_cons (PE.up (pv 3)) (pan_cons (PE.up (pv 8)) (pan_cons (PE.up (pv 9)) pan_nil)))) (pan_cons (PE.up (pv 11)) pan_nil))))) (PSs.up pss_never) (PSs.up pss_nil)))) (PSs.up pss_nil))
        (pssn_cut (PS.up (ps_set (i := 12) nd rfl (.inl rfl) (pe_ix ix_list (pe_callTy (call_listD rfl) (by rfl) L.lst (by decide +kernel) (pa_cons (pv 4) pa_nil)) (pe_call (GTk a ns) r1 rfl mTk kTk bTk .nil pass0 (pa_cons (pv 1) (pa_cons (pe_callB call_lenD (by rfl) L.len PySem.boot_len (pa_cons (pv 4) pa_nil)) pa_nil))) (fun _ _ => rfl))))
        (pssn_cut (psn_if (ptn_cmpR op_ne (pen_call GFt r9 rfl mFt kFt pass0 (pan_cons (PE.up (pv 3)) (pan_cons (PE.up (ClX.pe_cmeth (pe_glob (v := .ref D) rfl CT.mgC rfl) CR_ CM GO r5 pass0 (pa_cons (pv 12) pa_nil))) pan_nil))) (PE.up (pe_dget (hu_of r1) (pv 4) (pv 12) (fun _ _ => rfl))) (nomark _)) (PSs.up pss_never) (PSs.up pss_nil))
        (pssn_cut (PS.up (ps_set (i := 12) nd rfl (.inl rfl) (ClX.pe_cmeth (pe_glob (v := .ref D) rfl CT.mgC rfl) CR_ CM GO r5 pass0 (pa_cons (pe_join pe_str (pe_call (GRw a ns) r2 rfl mRw kRw bRw .nil pass0 (pa_cons (pv 1) (pa_cons pe_int pa_nil)))) pa_nil))))
        (pssn_one (psn_if (ptn_cmpR op_ne (pen_call GFt r9 rfl mFt kFt pass0 (pan_cons (PE.up (pv 3)) (pan_cons (PE.up (pv 12)) pan_nil))) (PE.up (pe_dget2 (hu_of r1) (pv 4) (pe_join pe_str (pe_prop (pv 12) CT.cl PR GR r2 bR_ .nil pass0 rfl)) pe_non ⟨rfl, rfl, rfl, rfl⟩)) (nomark _)) (PSs.up pss_never) (PSs.up pss_nil))))))))))))
      (pssn_one (psn_ret (pen_call GRj r8 rfl mRj kRj pass0 (pan_cons (PE.up (pv 3)) (pan_cons (PE.up (pe_ix ix_list (pv 6) pe_int (fun _ _ => rfl))) pan_nil))))))))))), ?_⟩
    -- the row
    refine ⟨fun σ H1 => ∃ r, σ = [some (.ref a), some (.ref r), none, none, none, none, none, none, none, none, none, none, none, none] ∧ RowAt K a ns H1 r ∧ Tabs T H1, ?_, ?_⟩
    · refine ⟨_, rfl, (by show 4 ≤ sizeLine; decide), fun p hp => ?_⟩
      exact ⟨p, rfl, ⟨0, 0, 0, upd_same, Int.le_refl 0, (same_new hp).seq hS⟩, hT.ext (same_new hp)⟩
    rintro σ H1 ⟨r, rfl, R1, T1⟩
    clear hS hT
    -- the rows
    refine ⟨fun σ H2 => ∃ l h w g, σ = [some (.ref a), some (.ref r), some (.ref l), none, none, none, none, none, none, none, none, none, none, none] ∧ RowAt K a ns H2 r ∧ Tabs T H2 ∧ VG h w g ∧ (∀ c ∈ mb g.flatten, c < 97 + 4) ∧ H2 l = some (.lst (rowV g)), ?_, ?_⟩
    · refine ⟨_, rfl, r, 4, rfl, R1, by decide, fun H2 l0 h w g hV lo hl R2 b2 => ⟨_, rfl, l0, _, rfl, SqL.of hl, fun l2 hl2 => ?_⟩⟩
      obtain ⟨_, _, _, hr1, _, _⟩ := id R1
      obtain ⟨V4, m4⟩ := VG_take hV
      have s2 := same_new (o := .lst (cutV (rowV g) none (some 4))) hl2
      have ec : cutV (rowV g) none (some 4) = rowV (g.take 4) := by
        rw [show cutV (rowV g) none (some 4) = (rowV g).take 4 from cutV_tk7 (rowV g) 4]
        show (g.map _).take 4 = (g.take 4).map _
        rw [List.map_take]
      refine ⟨l2, min 4 h, w, g.take 4, rfl, R2.same s2, (tabs_but7 T1 hr1 b2).ext s2, V4, fun c hc => lo c (m4 c hc), ?_⟩
      rw [upd_same, ec]
    rintro σ H2 ⟨l, h, w, g, rfl, R2, T2, hV, lo, hl⟩
    clear R1 T1 H1
    have ge97 : ∀ c ∈ mb g.flatten, 97 ≤ c := fun c hc => by
      unfold mb at hc
      obtain ⟨h1, h2⟩ := List.mem_filter.mp hc
      obtain ⟨rr, hr, hcr⟩ := List.mem_flatten.mp h1
      rcases hV.ok rr hr c hcr with z | ⟨z, _⟩
      · simp [z] at h2
      · exact z
    have Fw : Few h w g := few_of hV (by
      have := nodup_le 4 _ hV.nd fun c hc => ⟨ge97 c hc, lo c hc⟩
      omega)
    have Rc := hV.rc
    -- the tray
    refine ⟨fun σ H3 => ∃ p, σ = [some (.ref a), some (.ref r), some (.ref l), some (.ref p), none, none, none, none, none, none, none, none, none, none] ∧ RowAt K a ns H3 r ∧ Tabs T H3 ∧ TrayAt K D H3 p g ∧ H3 l = some (.lst (rowV g)), ?_, ?_⟩
    · refine ⟨rfl, ⟨_, rfl⟩, _, rfl, _, l, g.map S, rfl, rfl, .inl ?_, ?_, h, w, g, ?_, hV, fun H3 p s3 tp => ⟨p, rfl, R2.same s3, T2.ext s3, tp, s3 _ _ hl⟩⟩
      · rw [List.map_map]
        exact SqL.of hl
      · have h1 := row_sum 8 g fun r hr => hV.row hr
        have hlen := hV.len
        rw [List.length_map]
        show _ + g.length * 1 ≤ _
        omega
      · show [V.ref D, V.str (Txt.join (S [10]) (g.map S))] = _
        rw [join_S]
    rintro σ H3 ⟨p, rfl, R3, T3, tp, hl3⟩
    clear R2 T2 hl H2
    -- the levels
    refine ⟨fun σ H4 => ∃ kd bb Kn, σ = [some (.ref a), some (.ref r), some (.ref l), some (.ref p), some (.ref kd), some (.bl bb), none, none, none, none, none, none, none, none] ∧ RowAt K a ns H4 r ∧ Tabs T H4 ∧ TrayAt K D H4 p g ∧ H4 l = some (.lst (rowV g)) ∧ H4 kd = some (.dK (kvP Kn)) ∧ (Kn.map (·.1)).Nodup ∧ (∀ x u, (x, u) ∈ Kn → (u, x) ∈ ways h w g) ∧ (bb = true → ∀ u x, (u, x) ∈ ways h w g → (x, u) ∈ Kn), ?_, ?_⟩
    · refine ⟨_, rfl, l, h, w, g, rfl, hV, Fw, hl3, fun H4 q kd Kn bb s4 fk hq hkd ndK subK whole => ?_⟩
      exact ⟨q, _, rfl, SqT.of hq, rfl, _, _, rfl, _, _, rfl, rfl, kd, bb, Kn, rfl, R3.same s4, T3.ext s4, tp.same s4, s4 _ _ hl3, hkd, ndK, subK, whole⟩
    rintro σ H4 ⟨kd, bb, Kn, rfl, R4, T4, tp4, hl4, hk4, ndK, subK, whole⟩
    clear R3 T3 tp hl3 H3
    -- the marbles
    refine ⟨fun σ H5 => ∃ nm ys, σ = st7 a r l p kd bb nm none none none none none none ∧ R7 K D a r l p kd nm T ns g Kn ys H5 ∧ ys.length ≤ 26 ∧ ∀ y ∈ ys, ∃ m ∈ mb g.flatten, y = S [m], ?_, ?_⟩
    · refine ⟨_, rfl, l, h, w, g, rfl, hV, hl4, fun H5 e qa s5 fe M => ?_⟩
      have m26 := mb_26 hV
      refine ⟨e, _, (mb g.flatten).map fun m => S [m], rfl, .inl M.1, ?_, by rw [List.length_map]; omega, fun ys nm pm sy fnm => ?_⟩
      · unfold mkv
        rw [List.map_map, List.map_map]
        rfl
      have s6 := same_new (o := .lst (ys.map V.str)) fnm
      have s46 := s5.trans s6
      refine ⟨nm, ys, rfl, ⟨R4.same s46, T4.ext s46, tp4.same s46, s46 _ _ hl4, s46 _ _ hk4, upd_same, fun z => ?_⟩, by rw [pm.length_eq, List.length_map]; exact m26, fun y hy => ?_⟩
      · obtain ⟨_, _, _, e1, _⟩ := R4
        have := s5 _ _ e1
        rw [← z, fnm] at this
        cases this
      · obtain ⟨m, hm, rfl⟩ := List.mem_map.mp (pm.mem_iff.mp hy)
        exact ⟨m, hm, rfl⟩
    rintro σ H5 ⟨nm, ys, rfl, I5, y26, hys⟩
    clear R4 T4 tp4 hl4 hk4 H4
    -- all known, some marbles
    refine ⟨fun σ H6 => σ = st7 a r l p kd bb nm none none none none none none ∧ R7 K D a r l p kd nm T ns g Kn ys H6 ∧ bb = true ∧ ys ≠ [], ?_, ?_⟩
    · refine ⟨_, rfl, bb, rfl, ?_⟩
      cases bb with
      | false =>
        exact iteT (iteT (k _))
      | true =>
        refine iteF ⟨_, rfl, by show 0 ≤ sizeLine; decide, fun z hz => ?_⟩
        have sz := same_new (o := .lst []) hz
        refine ⟨nm, z, _, rfl, rfl, SqL.of (sz _ _ I5.nl), SqL.of upd_same, _, rfl, ?_⟩
        cases ys with
        | nil => exact iteT (k _)
        | cons y ys => exact iteF ⟨rfl, I5.same sz, rfl, fun z => nomatch z⟩
    rintro σ H6 ⟨rfl, I6, ebb, hne⟩
    have allK := whole ebb
    clear I5 H5 whole
    have l4913 : Kn.length ≤ 4913 := by
      have := keys_few Fw ndK fun x hx => by
        obtain ⟨z, hz, rfl⟩ := List.mem_map.mp hx
        exact ⟨_, subK z.1 z.2 hz⟩
      rw [List.length_map] at this
      exact this
    have wVG : ∀ {u : List Nat} {x : Grid}, (u, x) ∈ ways h w g → VG h w x ∧ (mb x.flatten).Perm (mb g.flatten) := fun {u x} hm => ways_VG hV hm
    have kvg : ∀ z ∈ Kn, VG h w z.1 := fun z hz => (wVG (subK z.1 z.2 hz)).1
    -- three turns
    refine ⟨fun σ H7 => ∃ v7 v8 v9 v10 v11 v12, σ = st7 a r l p kd bb nm v7 v8 v9 v10 v11 v12 ∧ R7 K D a r l p kd nm T ns g Kn ys H7, ?_, ?_⟩
    · refine ⟨3, rfl, by decide, by decide, for_range (lo := 0) (n := 3) (fun i σ H7 => ∃ v7 v8 v9 v10 v11 v12, σ = st7 a r l p kd bb nm v7 v8 v9 v10 v11 v12 ∧ R7 K D a r l p kd nm T ns g Kn ys H7) ⟨_, _, _, _, _, _, rfl, I6⟩ ?_ fun σ H7 h7 => h7⟩
      rintro i σ H7 hi ⟨v7, v8, v9, v10, v11, v12, rfl, I7⟩
      generalize V.int (0 + (i : Int)) = vi
      have ylen : 1 ≤ ys.length ∧ ys.length ≤ 1000000 := ⟨by cases ys with | nil => exact absurd rfl hne | cons _ _ => exact Nat.succ_le_succ (Nat.zero_le _), by omega⟩
      -- two marbles
      refine ⟨fun σ H8 => ∃ m m', m ∈ mb g.flatten ∧ m' ∈ mb g.flatten ∧ σ = st7 a r l p kd bb nm (some vi) (some (sg m)) (some (sg m')) v10 v11 v12 ∧ R7 K D a r l p kd nm T ns g Kn ys H8, ?_, ?_⟩
      · refine ⟨_, rfl, _, rfl, _, rfl, nm, _, rfl, .inl (SqL.of I7.nl), r, _, rfl, I7.rw, by rw [List.length_map]; omega, by rw [List.length_map]; omega, fun H8 j hj R8_ b8 => ?_⟩
        have I8 := I7.but b8 R8_
        rw [List.length_map] at hj
        obtain ⟨y, hy⟩ : ∃ y, ys[j]? = some y := ⟨_, List.getElem?_eq_getElem (by omega)⟩
        obtain ⟨m, hm, rfl⟩ := hys y (List.mem_of_getElem? hy)
        refine ⟨nm, _, _, _, rfl, rfl, SqL.of I8.nl, atI_nat (show (ys.map V.str)[j]? = some (V.str (S [m])) by rw [List.getElem?_map, hy]; rfl), ?_⟩
        refine ⟨_, rfl, _, rfl, _, rfl, nm, _, rfl, .inl (SqL.of I8.nl), r, _, rfl, I8.rw, by rw [List.length_map]; omega, by rw [List.length_map]; omega, fun H9 j2 hj2 R9_ b9 => ?_⟩
        have I9 := I8.but b9 R9_
        rw [List.length_map] at hj2
        obtain ⟨y2, hy2⟩ : ∃ y, ys[j2]? = some y := ⟨_, List.getElem?_eq_getElem (by omega)⟩
        obtain ⟨m', hm', rfl⟩ := hys y2 (List.mem_of_getElem? hy2)
        refine ⟨nm, _, _, _, rfl, rfl, SqL.of I9.nl, atI_nat (show (ys.map V.str)[j2]? = some (V.str (S [m'])) by rw [List.getElem?_map, hy2]; rfl), by show 2 ≤ sizeLine; decide, fun c fc => ?_⟩
        exact ⟨c, _, rfl, SqT.of upd_same, rfl, _, _, rfl, _, _, rfl, rfl, m, m', hm, hm', rfl, I9.same (same_new fc)⟩
      rintro σ H8 ⟨m, m', hm, hm', rfl, I8⟩
      clear I7 H7
      -- a place
      refine ⟨fun σ H9 => ∃ q kk, σ = st7 a r l p kd bb nm (some vi) (some (sg m)) (some (sg m')) (some (.ref q)) v11 v12 ∧ R7 K D a r l p kd nm T ns g Kn ys H9 ∧ kk < h * w ∧ H9 q = some (.tup (plV w kk)), ?_, ?_⟩
      · have hh1 := hV.n1
        have hh8 := hV.n8
        have hw1 := hV.m1
        have hw8 := hV.m8
        have hg : g.length = h := Rc.1
        obtain ⟨row0, h0⟩ : ∃ row0, g[0]? = some row0 := ⟨_, List.getElem?_eq_getElem (by omega)⟩
        have h00 : (rowV g)[0]? = some (.str (S row0)) := by rw [List.getElem?_map, h0]; rfl
        have hr0 : row0.length = w := Rc.2 row0 (List.mem_of_getElem? h0)
        refine ⟨_, rfl, _, rfl, l, _, rfl, .inl (SqL.of I8.ll), r, _, rfl, I8.rw, by rw [List.length_map]; omega, by rw [List.length_map]; omega, fun H9 j hj R9_ b9 => ?_⟩
        have I9 := I8.but b9 R9_
        rw [List.length_map] at hj
        refine ⟨_, rfl, _, rfl, l, _, _, _, rfl, rfl, SqL.of I9.ll, (show atI (rowV g) ((0 : Nat) : Int) = some (V.str (S row0)) from atI_nat h00), S row0, rfl, by rw [S_len]; show _ ≤ 16777216; omega, r, _, rfl, I9.rw, by rw [S_len]; omega, by rw [S_len]; omega, fun H10 j2 hj2 R10_ b10 => ?_⟩
        have I10 := I9.but b10 R10_
        rw [S_len] at hj2
        refine ⟨by show 2 ≤ sizeLine; decide, fun q hq => ⟨q, j * w + j2, rfl, I10.same (same_new hq), ?_, ?_⟩⟩
        · have : (j + 1) * w ≤ h * w := Nat.mul_le_mul_right _ (by omega)
          rw [Nat.add_mul] at this
          omega
        · rw [upd_same]
          have e1 : ((j * w + j2 : Nat) : Int) / w = (j : Int) := by
            rw [← Int.natCast_ediv]
            congr 1
            rw [Nat.mul_comm, Nat.mul_add_div (by omega), Nat.div_eq_of_lt (by omega), Nat.add_zero]
          have e2 : ((j * w + j2 : Nat) : Int) % w = (j2 : Int) := by
            rw [← Int.natCast_emod]
            congr 1
            rw [Nat.mul_comm, Nat.mul_add_mod, Nat.mod_eq_of_lt (by omega)]
          unfold plV
          rw [e1, e2]
      rintro σ H9 ⟨q, kk, rfl, I9, hkk, hq⟩
      clear I8 H8
      have selW : ∀ (ok : Grid → Bool), (∀ u, u ∈ sel7 ok Kn ↔ ∃ x, (u, x) ∈ ways h w g ∧ ok x = true) ∧ (∀ u ∈ sel7 ok Kn, (∀ c ∈ u, T4 c) ∧ u.length ≤ 5000) ∧ (sel7 ok Kn).length ≤ 5000 := fun ok => by
        have e1 : ∀ u, u ∈ sel7 ok Kn ↔ ∃ x, (u, x) ∈ ways h w g ∧ ok x = true := fun u => by
          rw [sel_mem]
          exact ⟨fun ⟨x, h1, h2⟩ => ⟨x, subK x u h1, h2⟩, fun ⟨x, h1, h2⟩ => ⟨x, allK u x h1, h2⟩⟩
        refine ⟨e1, fun u hu => ?_, Nat.le_trans sel_len (by omega)⟩
        obtain ⟨x, hx, _⟩ := (e1 u).mp hu
        exact ⟨(ways_least Rc Fw hx).1, by have := ways_word_len Fw hx; omega⟩
      have best : ∀ (ok : Grid → Bool), (sel7 ok Kn = [] → wayV (ways h w g) (fun y => ok y.2) = .non) ∧ ∀ u ∈ sel7 ok Kn, (∀ v ∈ sel7 ok Kn, val u ≤ val v) → wayV (ways h w g) (fun y => ok y.2) = .str (S u) := fun ok => by
        obtain ⟨b1, b2⟩ := way_best Rc Fw (selW ok).1
        refine ⟨fun e => ?_, fun u hu low => ?_⟩
        · unfold wayV
          rw [b1 e]
        · obtain ⟨x, hx⟩ := b2 u hu low
          unfold wayV
          rw [hx]
      have hjn : ∀ {x : Grid}, VG h w x → (S (TL.joinL [10] x)).length + 2 ≤ sizeLine := fun {x} G => by
        have h1 := joinL_len [10] 8 x fun r hr => G.row hr
        have h2 := G.len
        rw [S_len]
        show _ ≤ 16777216
        have : x.length * (8 + [10].length) = x.length * 9 := rfl
        omega
      have e4 : ∀ {x : Grid}, VG h w x → (Txt.split (tx x) (Str.ofString "\n")).map V.str = rowV x := fun {x} vx => by
        unfold tx
        have := split_back vx
        rw [show Str.ofString "\n" = S [10] from rfl, this, List.map_map]
        rfl
      have egv : ∀ z ∈ Kn, some (V.str (S z.2)) = valV (kvP Kn) (Sum.inr (tx z.1) : L2.Key) := fun z hz => by
        rw [kvP_val (kvg z hz) Kn kvg, (lkG_some ndK).mpr hz]
        rfl
      -- the best word to the place
      refine ⟨fun σ H10 => σ = st7 a r l p kd bb nm (some vi) (some (sg m)) (some (sg m')) (some (.ref q)) (some (wayV (ways h w g) fun y => decide (y.2.flatten.idxOf m = kk))) v12 ∧ R7 K D a r l p kd nm T ns g Kn ys H10 ∧ H10 q = some (.tup (plV w kk)), ?_, ?_⟩
      · have hq' : ∀ od, upd H9 kd (.frz od (.dK (kvP Kn))) q = some (.tup (plV w kk)) := fun od => by rw [upd_ne (fun z => by have := I9.kn; rw [← z, hq] at this; cases this)]; exact hq
        refine ⟨kd, _, I9.kn, True.intro, fun od => ⟨_, rfl, kd, od, rfl, .inl ⟨_, upd_same, fun D' hD => lc_it walk_keys (fun i H1 => Same (upd H9 kd (.frz od (.dK (kvP Kn)))) H1 ∧ H1 D' = some (.lst (wordsV (sel7 (fun x => decide (x.flatten.idxOf m = kk)) (Kn.take i)))))
          ⟨same_new hD, upd_same⟩ (fun i H _ ⟨s, _⟩ => s _ _ upd_same) ?_ ?_⟩⟩⟩
        · rintro i x H1' H1 hi ⟨s1, hL⟩ ⟨rfl, kx, vx, hk, rfl⟩
          unfold kvP at hk
          rw [List.getElem?_map] at hk
          obtain ⟨z, hz, ez⟩ := Option.map_eq_some_iff.mp hk
          cases ez
          have mz := List.mem_of_getElem? hz
          have vz := kvg z mz
          have mz8 : m ∈ mb z.1.flatten := (wVG (subK z.1 z.2 mz)).2.mem_iff.mpr hm
          refine ⟨rfl, _, rfl, ⟨_, rfl⟩, _, _, rfl, rfl, rfl, hjn vz, fun b hb => ⟨b, h, w, z.1, rfl, vz, by rw [e4 vz]; exact upd_same, fun H2 e qa s2 he M => ?_⟩⟩
          have s12 := (same_new (o := .lst ((Txt.split (tx z.1) (Str.ofString "\n")).map V.str)) hb).trans s2
          have sA := s1.trans s12
          refine ⟨_, rfl, e, _, rfl, md_get7 M mz8, _, rfl, plD w (z.1.flatten.idxOf m), plD w kk, .tup (SqT.of (M.2 m mz8)) (.cons (.int _) (.cons (.int _) .nil)), .tup (SqT.of (sA _ _ (hq' od))) (.cons (.int _) (.cons (.int _) .nil)), pl_shaped _ _, pl_shaped _ _, _, rfl, ?_⟩
          rw [pl_eqv]
          have sc := sel_succ (ok := fun x => decide (x.flatten.idxOf m = kk)) hz
          have hil := (List.getElem?_eq_some_iff.mp hz).1
          by_cases eq : z.1.flatten.idxOf m = kk
          · rw [if_pos (decide_eq_true eq)] at sc
            rw [decide_eq_true eq]
            refine iteT ⟨_, rfl, _, rfl, kd, _, rfl, .inl ⟨kvP Kn, (Sum.inr (tx z.1) : L2.Key), .inr ⟨od, sA _ _ upd_same⟩, rfl, egv z mz⟩, _, s12 _ _ hL, ?_, same_put sA hD, ?_⟩
            · have h1 := sel_len (ok := fun x => decide (x.flatten.idxOf m = kk)) (Kn := Kn.take i)
              rw [List.length_take] at h1
              rw [List.length_map]
              show _ < 16777216
              omega
            · rw [upd_same, sc]
              simp
          · rw [if_neg (by rw [decide_eq_false eq]; exact Bool.false_ne_true), List.append_nil] at sc
            rw [decide_eq_false eq]
            exact iteF ⟨sA, by rw [sc]; exact s12 _ _ hL⟩
        · rintro H1 ⟨s1, hL⟩
          rw [show (kvP Kn).length = Kn.length from List.length_map .., List.take_length] at hL
          have nD : D' ≠ kd := fun z => by have := s1 _ _ (show upd H9 kd (.frz od (.dK (kvP Kn))) kd = _ from upd_same); rw [← z, hL] at this; cases this
          have s9 := lock_same7 I9.kn s1
          obtain ⟨_, w2, w3⟩ := selW fun x => decide (x.flatten.idxOf m = kk)
          obtain ⟨b1, b2⟩ := best fun x => decide (x.flatten.idxOf m = kk)
          refine ⟨s1 _ _ upd_same, D', sel7 (fun x => decide (x.flatten.idxOf m = kk)) Kn, rfl, SqL.of (by rw [upd_ne nD]; exact hL), w2, w3, fun H2 s2 e => ⟨?_, I9.same (s9.trans s2), (s9.trans s2) _ _ hq⟩, fun H2 u s2 hu low => ⟨?_, I9.same (s9.trans s2), (s9.trans s2) _ _ hq⟩⟩
          · rw [b1 e]
            rfl
          · rw [b2 u hu low]
            rfl
      rintro σ H10 ⟨rfl, I10, hq10⟩
      clear I9 H9 hq
      -- the fewest tilts to the place
      refine ⟨fun σ H11 => ∃ v11, σ = st7 a r l p kd bb nm (some vi) (some (sg m)) (some (sg m')) (some (.ref q)) v11 v12 ∧ R7 K D a r l p kd nm T ns g Kn ys H11, ?_, ?_⟩
      · refine ⟨_, rfl, _, rfl, _, rfl, p, q, m, h, w, kk, g, rfl, I10.tr, hV, Fw, hm, SqT.of hq10, hkk, I10.tb, fun H11 e11 t11 => ?_⟩
        have I11 := I10.ext e11 t11
        exact ⟨_, rfl, _, _, rfl, alk_way7, fun H12 s12 => ⟨true, rfl, iteF ⟨_, rfl, I11.same s12⟩⟩⟩
      rintro σ H11 ⟨v11', rfl, I11⟩
      clear I10 H10 hq10
      -- the fewest tilts to a meeting
      refine ⟨fun σ H12 => ∃ v11, σ = st7 a r l p kd bb nm (some vi) (some (sg m)) (some (sg m')) (some (.ref q)) v11 v12 ∧ R7 K D a r l p kd nm T ns g Kn ys H12, ?_, ?_⟩
      · refine ⟨_, rfl, _, rfl, rfl, ?_⟩
        by_cases em : m = m'
        · rw [show (!decide (sg m = sg m')) = false by rw [em]; simp]
          exact ⟨_, rfl, iteF ⟨_, rfl, I11⟩⟩
        · rw [show (!decide (sg m = sg m')) = true by rw [decide_eq_false fun z => em (by have := S_inj (V.str.inj z); simpa using this)]; rfl]
          refine ⟨_, rfl, iteT ?_⟩
          refine ⟨fun σ H12 => σ = st7 a r l p kd bb nm (some vi) (some (sg m)) (some (sg m')) (some (.ref q)) (some (wayV (ways h w g) fun y => near w (y.2.flatten.idxOf m) (y.2.flatten.idxOf m'))) v12 ∧ R7 K D a r l p kd nm T ns g Kn ys H12, ?_, ?_⟩
          · refine ⟨kd, _, I11.kn, True.intro, fun od => ⟨_, rfl, kd, od, rfl, .inl ⟨_, upd_same, fun D' hD => lc_it walk_keys (fun i H1 => Same (upd H11 kd (.frz od (.dK (kvP Kn)))) H1 ∧ H1 D' = some (.lst (wordsV (sel7 (fun x => near w (x.flatten.idxOf m) (x.flatten.idxOf m')) (Kn.take i)))))
              ⟨same_new hD, upd_same⟩ (fun i H _ ⟨s, _⟩ => s _ _ upd_same) ?_ ?_⟩⟩⟩
            · rintro i x H1' H1 hi ⟨s1, hL⟩ ⟨rfl, kx, vx, hk, rfl⟩
              unfold kvP at hk
              rw [List.getElem?_map] at hk
              obtain ⟨z, hz, ez⟩ := Option.map_eq_some_iff.mp hk
              cases ez
              have mz := List.mem_of_getElem? hz
              have vz := kvg z mz
              have pm := (wVG (subK z.1 z.2 mz)).2
              refine ⟨rfl, _, rfl, _, rfl, _, rfl, m, m', h, w, z.1, rfl, vz, pm.mem_iff.mpr hm, pm.mem_iff.mpr hm', fun H2 s12 => ?_⟩
              have sA := s1.trans s12
              have sc := sel_succ (ok := fun x => near w (x.flatten.idxOf m) (x.flatten.idxOf m')) hz
              have hil := (List.getElem?_eq_some_iff.mp hz).1
              refine ⟨_, rfl, ?_⟩
              cases eq : near w (z.1.flatten.idxOf m) (z.1.flatten.idxOf m') with
              | true =>
                rw [if_pos eq] at sc
                refine iteT ⟨_, rfl, _, rfl, kd, _, rfl, .inl ⟨kvP Kn, (Sum.inr (tx z.1) : L2.Key), .inr ⟨od, sA _ _ upd_same⟩, rfl, egv z mz⟩, _, s12 _ _ hL, ?_, same_put sA hD, ?_⟩
                · have h1 := sel_len (ok := fun x => near w (x.flatten.idxOf m) (x.flatten.idxOf m')) (Kn := Kn.take i)
                  rw [List.length_take] at h1
                  rw [List.length_map]
                  show _ < 16777216
                  omega
                · rw [upd_same, sc]
                  simp
              | false =>
                rw [if_neg (by rw [eq]; exact Bool.false_ne_true), List.append_nil] at sc
                exact iteF ⟨sA, by rw [sc]; exact s12 _ _ hL⟩
            · rintro H1 ⟨s1, hL⟩
              rw [show (kvP Kn).length = Kn.length from List.length_map .., List.take_length] at hL
              have nD : D' ≠ kd := fun z => by have := s1 _ _ (show upd H11 kd (.frz od (.dK (kvP Kn))) kd = _ from upd_same); rw [← z, hL] at this; cases this
              have s9 := lock_same7 I11.kn s1
              obtain ⟨_, w2, w3⟩ := selW fun x => near w (x.flatten.idxOf m) (x.flatten.idxOf m')
              obtain ⟨b1, b2⟩ := best fun x => near w (x.flatten.idxOf m) (x.flatten.idxOf m')
              refine ⟨s1 _ _ upd_same, D', sel7 (fun x => near w (x.flatten.idxOf m) (x.flatten.idxOf m')) Kn, rfl, SqL.of (by rw [upd_ne nD]; exact hL), w2, w3, fun H2 s2 e => ⟨?_, I11.same (s9.trans s2)⟩, fun H2 u s2 hu low => ⟨?_, I11.same (s9.trans s2)⟩⟩
              · rw [b1 e]
                rfl
              · rw [b2 u hu low]
                rfl
          rintro σ H12 ⟨rfl, I12⟩
          refine ⟨_, rfl, _, rfl, _, rfl, p, m, m', h, w, g, rfl, I12.tr, hV, Fw, hm, hm', em, I12.tb, fun H13 e13 t13 => ?_⟩
          have I13 := I12.ext e13 t13
          exact ⟨_, rfl, _, _, rfl, alk_way7, fun H14 s14 => ⟨true, rfl, iteF ⟨_, rfl, I13.same s14⟩⟩⟩
      rintro σ H12 ⟨v11, rfl, I12⟩
      clear I11 H11 v11'
      -- a goal that can be reached
      refine ⟨fun σ H13 => ∃ x u, (x, u) ∈ Kn ∧ σ = st7 a r l p kd bb nm (some vi) (some (sg m)) (some (sg m')) (some (.ref q)) v11 (some (.str (tx x))) ∧ R7 K D a r l p kd nm T ns g Kn ys H13, ?_, ?_⟩
      · have kl : (kvP Kn).length = Kn.length := by unfold kvP; rw [List.length_map]
        have k1 : 1 ≤ Kn.length := by
          have := allK [] g (List.mem_of_getElem? ways_ok.1)
          cases Kn with
          | nil => cases this
          | cons _ _ => exact Nat.succ_le_succ (Nat.zero_le _)
        refine ⟨_, rfl, kd, _, rfl, .inl I12.kn, fun p' hp' => ?_⟩
        have s1 := same_new (o := .lst ((kvP Kn).map fun kv => L2.kV kv.1)) hp'
        have I13 := I12.same s1
        refine ⟨_, rfl, _, rfl, kd, kvP Kn, rfl, I13.kn, r, _, rfl, I13.rw, by omega, by omega, fun H14 j hj R14 b14 => ?_⟩
        have I14 := I13.but b14 R14
        have np : p' ≠ r := fun z => by
          obtain ⟨_, _, _, e1, _⟩ := I12.rw
          rw [← z, hp'] at e1
          cases e1
        have hp14 := b14 _ _ (show upd H12 p' (.lst ((kvP Kn).map fun kv => L2.kV kv.1)) p' = _ from upd_same) np
        rw [kl] at hj
        obtain ⟨z, hz⟩ : ∃ z, Kn[j]? = some z := ⟨_, List.getElem?_eq_getElem (by omega)⟩
        refine ⟨p', _, _, _, rfl, rfl, SqL.of hp14, atI_nat (show ((kvP Kn).map fun kv => L2.kV kv.1)[j]? = some (V.str (tx z.1)) by unfold kvP; rw [List.getElem?_map, List.getElem?_map, hz]; rfl), ?_⟩
        exact ⟨z.1, z.2, List.mem_of_getElem? hz, rfl, I14⟩
      rintro σ H13 ⟨x, u, hx, rfl, I13⟩
      clear I12 H12
      have vx : VG h w x := kvg _ hx
      -- the fewest tilts to it
      refine ⟨fun σ H14 => σ = st7 a r l p kd bb nm (some vi) (some (sg m)) (some (sg m')) (some (.ref q)) v11 (some (.str (tx x))) ∧ R7 K D a r l p kd nm T ns g Kn ys H14, ?_, ?_⟩
      · refine ⟨_, rfl, rfl, _, rfl, h, w, x, rfl, vx, fun H14 pg s14 tg => ?_⟩
        have I14 := I13.same s14
        refine ⟨p, pg, h, w, h, w, g, x, rfl, I14.tr, hV, Fw, tg, vx, I14.tb, fun H15 e15 t15 => ?_⟩
        have I15 := I14.ext e15 t15
        have hg : DGet H15 kd (V.str (tx x)) (some (V.str (S u))) := by
          have := DGet.k (k := (Sum.inr (tx x) : L2.Key)) I15.kn
          rw [← egv _ hx] at this
          exact this
        have ew : wayV (ways h w g) (fun y => decide (y.2 = x)) = .str (S u) := by
          unfold wayV
          rw [(way_tray Rc Fw x).1 u (subK x u hx)]
        refine ⟨_, rfl, _, rfl, kd, _, rfl, hg, ?_⟩
        rw [ew]
        refine ⟨rfl, ?_⟩
        rw [show (!decide (V.str (S u) = V.str (S u))) = false by simp]
        exact ⟨_, rfl, iteF ⟨rfl, I15⟩⟩
      rintro σ H14 ⟨rfl, I14⟩
      clear I13 H13
      -- any goal
      refine ⟨fun σ H15 => ∃ pg h' w' g', VG h' w' g' ∧ σ = st7 a r l p kd bb nm (some vi) (some (sg m)) (some (sg m')) (some (.ref q)) v11 (some (.ref pg)) ∧ R7 K D a r l p kd nm T ns g Kn ys H15 ∧ TrayAt K D H15 pg g', ?_, ?_⟩
      · refine ⟨rfl, ⟨_, rfl⟩, _, rfl, r, 4, rfl, I14.rw, by decide, fun H15 l' h' w' g' V' lo' hl' R15 b15 => ?_⟩
        have I15 := I14.but b15 R15
        refine ⟨_, l', g'.map S, rfl, rfl, .inl ?_, ?_, h', w', g', ?_, V', fun H16 pg s16 tg => ⟨pg, h', w', g', V', rfl, I15.same s16, tg⟩⟩
        · rw [List.map_map]
          exact SqL.of hl'
        · have h1 := row_sum 8 g' fun r hr => V'.row hr
          have hlen := V'.len
          rw [List.length_map]
          show _ + g'.length * 1 ≤ _
          omega
        · show [V.ref D, V.str (Txt.join (S [10]) (g'.map S))] = _
          rw [join_S]
      rintro σ H15 ⟨pg, h', w', g', V', rfl, I15, tg⟩
      clear I14 H14
      refine ⟨_, rfl, _, rfl, p, pg, h, w, h', w', g, g', rfl, I15.tr, hV, Fw, tg, V', I15.tb, fun H16 e16 t16 => ?_⟩
      have I16 := I15.ext e16 t16
      have tg16 := tray_extN tg e16
      obtain ⟨dr, ar, hr16, hSr⟩ := id tg16
      have hg : DGet H16 kd (V.str (tx g')) ((lkG Kn g').map fun u => V.str (S u)) := by
        have := DGet.k (k := (Sum.inr (tx g') : L2.Key)) I16.kn
        rw [kvP_val V' Kn kvg] at this
        exact this
      refine ⟨_, rfl, kd, rfl, .inl ⟨_, .inl I16.kn⟩, ?_⟩
      refine ⟨⟨_, rfl⟩, _, rfl, pg, dr, _, rfl, hr16, pg, dr, _, _, rfl, hr16, rfl, _, ar, g'.map S, rfl, rfl, .inr ?_, ?_, ?_⟩
      · rw [List.map_map]
        exact hSr
      · have h1 := row_sum 8 g' fun r hr => V'.row hr
        have hlen := V'.len
        rw [List.length_map]
        show _ + g'.length * 1 ≤ _
        omega
      rw [show (Str.ofString "\n") = S [10] from rfl, join_S]
      refine ⟨_, hg, ?_⟩
      have ew : wayV (ways h w g) (fun y => decide (y.2 = g')) = ((lkG Kn g').map fun u => V.str (S u)).getD .non := by
        unfold wayV
        cases ek : lkG Kn g' with
        | some u => rw [(way_tray Rc Fw g').1 u (subK g' u ((lkG_some ndK).mp ek))]; rfl
        | none =>
          have nk := lkG_none.mp ek
          rw [(way_tray Rc Fw g').2 fun u hu => nk (List.mem_map.mpr ⟨_, allK u g' hu, rfl⟩)]
          rfl
      rw [ew]
      refine ⟨?_, ?_⟩
      · cases lkG Kn g' <;> rfl
      rw [show (!decide ((((lkG Kn g').map fun u => V.str (S u)).getD .non) = (((lkG Kn g').map fun u => V.str (S u)).getD .non))) = false by simp]
      exact ⟨_, rfl, iteF ⟨_, _, _, _, _, _, rfl, I16⟩⟩
    rintro σ H7 ⟨v7, v8, v9, v10, v11, v12, rfl, I7⟩
    obtain ⟨y, ys', ey⟩ : ∃ y ys', ys = y :: ys' := by
      cases ys with
      | nil => exact absurd rfl hne
      | cons y ys' => exact ⟨y, ys', rfl⟩
    obtain ⟨m, hm, rfl⟩ := hys y (by rw [ey]; exact List.mem_cons_self)
    exact ⟨_, rfl, _, rfl, nm, _, _, _, rfl, rfl, SqL.of I7.nl, (show atI (ys.map V.str) ((0 : Nat) : Int) = some (V.str (S [m])) from atI_nat (by rw [ey]; rfl)), p, m, h, w, g, rfl, I7.tr, hV, hm, fun c hc z => by have := lo c hc; omega, I7.tb, fun H8 => k _⟩
end
end TR
end
section
set_option Elab.async false
set_option maxRecDepth 100000
set_option linter.all false
namespace TR
open PySem PySem.Spec PyProof.Rows L2 LamX TM TX TK TB TP TH TU TW TG TQ
set_option maxHeartbeats 4000000
theorem all_mk {P : Program} {w : World} {K : PySem.W.Frag} {h : Heap} {mg : Str → Option Value} {fa : Addr} {C D fIt fFw fWi fWt qWt fTi fTo qTo fRs fFc fIr fTd fSl fTr qTr fTe fMb qMb fWd qWd fHt qHt fTc fCl fNu fPl fCv fAt fCm fNx fSw fFy fAn fFp fFm fFt fTk fAl fRa fRw fTl fPs fLv fBs fBe fRj fLw e2 fIx2 cc2 cdIx2 N2 e3 e5 eT e0 e1 e4 aO : Addr} {tAR tAC t0 tLE tMS tMX tOl tOr tOu tOd : Tok} {zAR zAC zEM zLE zOl zOr zOu zOd : Str} {iMS iMX : Int}
    {odIt anIt : Option Addr} {slIt : Array (Option Value)} {ocIt kVIt dcIt pmIt cdIt ctIt : Value} {odFw anFw : Option Addr} {slFw : Array (Option Value)} {ocFw kVFw dcFw pmFw cdFw ctFw : Value} {odWi anWi : Option Addr} {slWi : Array (Option Value)} {ocWi kVWi dcWi pmWi cdWi ctWi : Value} {rWt : List Value} {odWt anWt : Option Addr} {slWt : Array (Option Value)} {ocWt kVWt dcWt pmWt cdWt ctWt : Value} {odTi anTi : Option Addr} {slTi : Array (Option Value)} {ocTi kVTi dcTi pmTi cdTi ctTi : Value} {rTo : List Value} {odTo anTo : Option Addr} {slTo : Array (Option Value)} {ocTo kVTo dcTo pmTo cdTo ctTo : Value} {odRs anRs : Option Addr} {slRs : Array (Option Value)} {ocRs kVRs dcRs pmRs cdRs ctRs : Value} {odFc anFc : Option Addr} {slFc : Array (Option Value)} {ocFc kVFc dcFc pmFc cdFc ctFc : Value} {odIr anIr : Option Addr} {slIr : Array (Option Value)} {ocIr kVIr dcIr pmIr cdIr ctIr : Value} {odTd anTd : Option Addr} {slTd : Array (Option Value)} {ocTd kVTd dcTd pmTd cdTd ctTd : Value} {odSl anSl : Option Addr} {slSl : Array (Option Value)} {ocSl kVSl dcSl pmSl cdSl ctSl : Value} {rTr : List Value} {odTr anTr : Option Addr} {slTr : Array (Option Value)} {ocTr kVTr dcTr pmTr cdTr ctTr : Value} {odTe anTe : Option Addr} {slTe : Array (Option Value)} {ocTe kVTe dcTe pmTe cdTe ctTe : Value} {rMb : List Value} {odMb anMb : Option Addr} {slMb : Array (Option Value)} {ocMb kVMb dcMb pmMb cdMb ctMb : Value} {rWd : List Value} {odWd anWd : Option Addr} {slWd : Array (Option Value)} {ocWd kVWd dcWd pmWd cdWd ctWd : Value} {rHt : List Value} {odHt anHt : Option Addr} {slHt : Array (Option Value)} {ocHt kVHt dcHt pmHt cdHt ctHt : Value} {odTc anTc : Option Addr} {slTc : Array (Option Value)} {ocTc kVTc dcTc pmTc cdTc ctTc : Value} {odCl anCl : Option Addr} {slCl : Array (Option Value)} {ocCl kVCl dcCl pmCl cdCl ctCl : Value} {odNu anNu : Option Addr} {slNu : Array (Option Value)} {ocNu kVNu dcNu pmNu cdNu ctNu : Value} {odPl anPl : Option Addr} {slPl : Array (Option Value)} {ocPl kVPl dcPl pmPl cdPl ctPl : Value} {odCv anCv : Option Addr} {slCv : Array (Option Value)} {ocCv kVCv dcCv pmCv cdCv ctCv : Value} {odAt anAt : Option Addr} {slAt : Array (Option Value)} {ocAt kVAt dcAt pmAt cdAt ctAt : Value} {odCm anCm : Option Addr} {slCm : Array (Option Value)} {ocCm kVCm dcCm pmCm cdCm ctCm : Value} {cdC : ClassData} {odNx anNx : Option Addr} {slNx : Array (Option Value)} {ocNx kVNx dcNx pmNx cdNx ctNx : Value} {odSw anSw : Option Addr} {slSw : Array (Option Value)} {ocSw kVSw dcSw pmSw cdSw ctSw : Value} {odFy anFy : Option Addr} {slFy : Array (Option Value)} {ocFy kVFy dcFy pmFy cdFy ctFy : Value} {odAn anAn : Option Addr} {slAn : Array (Option Value)} {ocAn kVAn dcAn pmAn cdAn ctAn : Value} {odFp anFp : Option Addr} {slFp : Array (Option Value)} {ocFp kVFp dcFp pmFp ctFp : Value} {cdFp PFp : Addr} {odFm anFm : Option Addr} {slFm : Array (Option Value)} {ocFm kVFm dcFm pmFm ctFm : Value} {cdFm PFm : Addr} {odFt anFt : Option Addr} {slFt : Array (Option Value)} {ocFt kVFt dcFt pmFt ctFt : Value} {cdFt PFt : Addr} {odTk anTk : Option Addr} {slTk : Array (Option Value)} {ocTk kVTk dcTk pmTk cdTk ctTk : Value} {odAl anAl : Option Addr} {slAl : Array (Option Value)} {ocAl kVAl dcAl pmAl cdAl ctAl : Value} {odRa anRa : Option Addr} {slRa : Array (Option Value)} {ocRa kVRa dcRa pmRa cdRa ctRa : Value} {odRw anRw : Option Addr} {slRw : Array (Option Value)} {ocRw kVRw dcRw pmRw cdRw ctRw : Value} {odTl anTl : Option Addr} {slTl : Array (Option Value)} {ocTl kVTl dcTl pmTl cdTl ctTl : Value} {odPs anPs : Option Addr} {slPs : Array (Option Value)} {ocPs kVPs dcPs pmPs cdPs ctPs : Value} {odLv anLv : Option Addr} {slLv : Array (Option Value)} {ocLv kVLv dcLv pmLv cdLv ctLv : Value} {odBs anBs : Option Addr} {slBs : Array (Option Value)} {ocBs kVBs dcBs pmBs cdBs ctBs : Value} {odBe anBe : Option Addr} {slBe : Array (Option Value)} {ocBe kVBe dcBe pmBe cdBe ctBe : Value} {odRj anRj : Option Addr} {slRj : Array (Option Value)} {ocRj kVRj dcRj pmRj ctRj : Value} {cdRj PRj : Addr} {odLw anLw : Option Addr} {slLw : Array (Option Value)} {ocLw kVLw dcLw pmLw cdLw ctLw : Value} {tfX2 : Tok} {fileX2 nm2 q2 : Str} {bs2 bm2 sub2 : List Value} {sn2 : List Str} {ab2 : Bool} {col2 : Option Bool} {dd2 : Option Addr} {m02 m12 m22 m32 m52 : Option Value} {odIx2 anIx2 cdd2 cld02 : Option Addr} {slIx2 ccs2 csl02 : Array (Option Value)} {vsx2 : Array Value} {ocIx2 kVIx2 dcIx2 pmIx2 ctIx2 ccl2 cl02 : Value} {esO : Array DictEntry} {nO : Nat}
    (X : K.In h) (G : h.Ns mainGlobals mg) (hfa : mg "law" = some (.ref fa))
    (aC : PySem.W.nsIn K mainGlobals "Word" = some (some (.ref C)))
    (pgC : PySem.W.plainGet K C Str.empty = true)
    (hdC : PySem.W.hasDictIn K C = true)
    (poC : PySem.W.plainOver K C = true)
    (saC : PySem.W.findIn K (.ref C) "__setattr__" = some (some (.builtin "object.__setattr__")))
    (mkC : PySem.W.makesIn K C = true)
    (kcC : PySem.W.keepIn K (.ref C) = true)
    (rdC : PySem.W.readsIn K C (.type "type") = true)
    (gaC : PySem.W.specialIn K (.ref C) "__getattribute__" = some (some (.builtin "type.__getattribute__")))
    (aD : PySem.W.nsIn K mainGlobals "Tray" = some (some (.ref D)))
    (pgD : PySem.W.plainGet K D Str.empty = true)
    (hdD : PySem.W.hasDictIn K D = true)
    (poD : PySem.W.plainOver K D = true)
    (saD : PySem.W.findIn K (.ref D) "__setattr__" = some (some (.builtin "object.__setattr__")))
    (mkD : PySem.W.makesIn K D = true)
    (kcD : PySem.W.keepIn K (.ref D) = true)
    (rdD : PySem.W.readsIn K D (.type "type") = true)
    (gaD : PySem.W.specialIn K (.ref D) "__getattribute__" = some (some (.builtin "type.__getattribute__")))
    (cAR : PySem.W.nsIn K mainGlobals "ALONG_ROWS" = some (some (.str zAR tAR)))
    (cAC : PySem.W.nsIn K mainGlobals "ALONG_COLUMNS" = some (some (.str zAC tAC)))
    (cEM : PySem.W.nsIn K mainGlobals "EMPTY" = some (some (.str zEM t0)))
    (cLE : PySem.W.nsIn K mainGlobals "LETTERS" = some (some (.str zLE tLE)))
    (cMS : PySem.W.nsIn K mainGlobals "MAX_SIDE" = some (some (.int iMS tMS)))
    (nT : PySem.W.findIn K (.ref C) "_text" = some none)
    (nR : PySem.W.findIn K (.ref D) "_rows" = some none)
    (ih : PySem.W.findIn K (.ref C) "__class__" = some (some (.builtin "object.__class__")))
    (in_ : PySem.W.specialIn K (.builtin "object.__class__") "__get__" = some (some (.builtin "getset_descriptor.__get__")))
    (itk : PySem.W.takesIn K (.builtin "object.__class__") = some true)
    (im : PySem.W.mroIn K C (.type "object") = some true)
    (ihD : PySem.W.findIn K (.ref D) "__class__" = some (some (.builtin "object.__class__")))
    (imD : PySem.W.mroIn K D (.type "object") = some true)
    (mx : PySem.W.findCls K (.ref C) (.type "type") "MAX_TILTS" = some (.val (.int iMX tMX)))
    (b_len : PySem.W.nsIn K mainGlobals "len" = some (none))
    (b_isinstance : PySem.W.nsIn K mainGlobals "isinstance" = some (none))
    (b_str : PySem.W.nsIn K mainGlobals "str" = some (none))
    (b_enumerate : PySem.W.nsIn K mainGlobals "enumerate" = some (none))
    (b_set : PySem.W.nsIn K mainGlobals "set" = some (none))
    (b_zip : PySem.W.nsIn K mainGlobals "zip" = some (none))
    (b_tuple : PySem.W.nsIn K mainGlobals "tuple" = some (none))
    (b_int : PySem.W.nsIn K mainGlobals "int" = some (none))
    (b_range : PySem.W.nsIn K mainGlobals "range" = some (none))
    (b_min : PySem.W.nsIn K mainGlobals "min" = some (none))
    (b_list : PySem.W.nsIn K mainGlobals "list" = some (none))
    (b_bool : PySem.W.nsIn K mainGlobals "bool" = some (none))
    (b_sorted : PySem.W.nsIn K mainGlobals "sorted" = some (none))
    (b_divmod : PySem.W.nsIn K mainGlobals "divmod" = some (none))
    (b_super : PySem.W.nsIn K mainGlobals "super" = some (none))
    (b_abs : PySem.W.nsIn K mainGlobals "abs" = some (none))
    (b_ValueError : PySem.W.nsIn K mainGlobals "ValueError" = some (none))
    (aIt : PySem.W.nsIn K mainGlobals "is_tilt" = some (some (.ref fIt)))
    (lIt : K.lookup fIt = some ⟨ocIt, odIt, .func (PySem.W.fnOf "is_tilt" "is_tilt" (defArgs sIsTilt) (defBody sIsTilt) (defScope sIsTilt) .none kVIt dcIt pmIt anIt cdIt ctIt), slIt⟩)
    (cIt : PySem.W.codeIn K cdIt "is_tilt" = true)
    (kIt : PySem.W.keepIn K (.ref fIt) = true)
    (aFw : PySem.W.nsIn K mainGlobals "_first_wrong_index" = some (some (.ref fFw)))
    (lFw : K.lookup fFw = some ⟨ocFw, odFw, .func (PySem.W.fnOf "_first_wrong_index" "_first_wrong_index" (defArgs sFirstWrongIndex) (defBody sFirstWrongIndex) (defScope sFirstWrongIndex) .none kVFw dcFw pmFw anFw cdFw ctFw), slFw⟩)
    (cFw : PySem.W.codeIn K cdFw "_first_wrong_index" = true)
    (kFw : PySem.W.keepIn K (.ref fFw) = true)
    (aWi : PySem.W.findIn K (.ref C) "__init__" = some (some (.ref fWi)))
    (iWi : PySem.W.isFn K (.ref fWi) = true)
    (lWi : K.lookup fWi = some ⟨ocWi, odWi, .func (PySem.W.fnOf "__init__" "Word.__init__" (defArgs sWordInit) (defBody sWordInit) (defScope sWordInit) .none kVWi dcWi pmWi anWi cdWi ctWi), slWi⟩)
    (cWi : PySem.W.codeIn K cdWi "Word.__init__" = true)
    (kWi : PySem.W.keepIn K (.ref fWi) = true)
    (pWt : PySem.W.findIn K (.ref C) "text" = some (some (.ref qWt)))
    (pgtWt : PySem.W.specialIn K (.ref qWt) "__get__" = some (some (.builtin "property.__get__")))
    (ptkWt : PySem.W.takesIn K (.ref qWt) = some true)
    (aWt : PySem.W.recIn K qWt "property" = some (.ref fWt :: rWt))
    (lWt : K.lookup fWt = some ⟨ocWt, odWt, .func (PySem.W.fnOf "text" "Word.text" (defArgs sWordText) (defBody sWordText) (defScope sWordText) .none kVWt dcWt pmWt anWt cdWt ctWt), slWt⟩)
    (cWt : PySem.W.codeIn K cdWt "Word.text" = true)
    (kWt : PySem.W.keepIn K (.ref fWt) = true)
    (aTi : PySem.W.findIn K (.ref D) "__init__" = some (some (.ref fTi)))
    (iTi : PySem.W.isFn K (.ref fTi) = true)
    (lTi : K.lookup fTi = some ⟨ocTi, odTi, .func (PySem.W.fnOf "__init__" "Tray.__init__" (defArgs sTrayInit) (defBody sTrayInit) (defScope sTrayInit) .none kVTi dcTi pmTi anTi cdTi ctTi), slTi⟩)
    (cTi : PySem.W.codeIn K cdTi "Tray.__init__" = true)
    (kTi : PySem.W.keepIn K (.ref fTi) = true)
    (pTo : PySem.W.findCls K (.ref D) (.type "type") "of_text" = some (.get (.builtin "classmethod.__get__") (.ref qTo) .none (.ref D)))
    (aTo : PySem.W.recIn K qTo "classmethod" = some (.ref fTo :: rTo))
    (fiTo : PySem.W.fnIn K fTo = true)
    (lTo : K.lookup fTo = some ⟨ocTo, odTo, .func (PySem.W.fnOf "of_text" "Tray.of_text" (defArgs sTrayOfText) (defBody sTrayOfText) (defScope sTrayOfText) .none kVTo dcTo pmTo anTo cdTo ctTo), slTo⟩)
    (cTo : PySem.W.codeIn K cdTo "Tray.of_text" = true)
    (kTo : PySem.W.keepIn K (.ref fTo) = true)
    (aRs : PySem.W.findIn K (.ref D) "__rshift__" = some (some (.ref fRs)))
    (iRs : PySem.W.isFn K (.ref fRs) = true)
    (lRs : K.lookup fRs = some ⟨ocRs, odRs, .func (PySem.W.fnOf "__rshift__" "Tray.__rshift__" (defArgs sTrayRshift) (defBody sTrayRshift) (defScope sTrayRshift) .none kVRs dcRs pmRs anRs cdRs ctRs), slRs⟩)
    (cRs : PySem.W.codeIn K cdRs "Tray.__rshift__" = true)
    (kRs : PySem.W.keepIn K (.ref fRs) = true)
    (aFc : PySem.W.nsIn K mainGlobals "_first_wrong_cell" = some (some (.ref fFc)))
    (lFc : K.lookup fFc = some ⟨ocFc, odFc, .func (PySem.W.fnOf "_first_wrong_cell" "_first_wrong_cell" (defArgs sFirstWrongCell) (defBody sFirstWrongCell) (defScope sFirstWrongCell) .none kVFc dcFc pmFc anFc cdFc ctFc), slFc⟩)
    (cFc : PySem.W.codeIn K cdFc "_first_wrong_cell" = true)
    (kFc : PySem.W.keepIn K (.ref fFc) = true)
    (aIr : PySem.W.nsIn K mainGlobals "_is_row" = some (some (.ref fIr)))
    (lIr : K.lookup fIr = some ⟨ocIr, odIr, .func (PySem.W.fnOf "_is_row" "_is_row" (defArgs sIsRow) (defBody sIsRow) (defScope sIsRow) .none kVIr dcIr pmIr anIr cdIr ctIr), slIr⟩)
    (cIr : PySem.W.codeIn K cdIr "_is_row" = true)
    (kIr : PySem.W.keepIn K (.ref fIr) = true)
    (aTd : PySem.W.nsIn K mainGlobals "_tilted" = some (some (.ref fTd)))
    (lTd : K.lookup fTd = some ⟨ocTd, odTd, .func (PySem.W.fnOf "_tilted" "_tilted" (defArgs sTilted) (defBody sTilted) (defScope sTilted) .none kVTd dcTd pmTd anTd cdTd ctTd), slTd⟩)
    (cTd : PySem.W.codeIn K cdTd "_tilted" = true)
    (kTd : PySem.W.keepIn K (.ref fTd) = true)
    (aSl : PySem.W.nsIn K mainGlobals "_slid" = some (some (.ref fSl)))
    (lSl : K.lookup fSl = some ⟨ocSl, odSl, .func (PySem.W.fnOf "_slid" "_slid" (defArgs sSlid) (defBody sSlid) (defScope sSlid) .none kVSl dcSl pmSl anSl cdSl ctSl), slSl⟩)
    (cSl : PySem.W.codeIn K cdSl "_slid" = true)
    (kSl : PySem.W.keepIn K (.ref fSl) = true)
    (pTr : PySem.W.findIn K (.ref D) "rows" = some (some (.ref qTr)))
    (pgtTr : PySem.W.specialIn K (.ref qTr) "__get__" = some (some (.builtin "property.__get__")))
    (ptkTr : PySem.W.takesIn K (.ref qTr) = some true)
    (aTr : PySem.W.recIn K qTr "property" = some (.ref fTr :: rTr))
    (lTr : K.lookup fTr = some ⟨ocTr, odTr, .func (PySem.W.fnOf "rows" "Tray.rows" (defArgs sTrayRows) (defBody sTrayRows) (defScope sTrayRows) .none kVTr dcTr pmTr anTr cdTr ctTr), slTr⟩)
    (cTr : PySem.W.codeIn K cdTr "Tray.rows" = true)
    (kTr : PySem.W.keepIn K (.ref fTr) = true)
    (aTe : PySem.W.findIn K (.ref D) "__eq__" = some (some (.ref fTe)))
    (iTe : PySem.W.isFn K (.ref fTe) = true)
    (lTe : K.lookup fTe = some ⟨ocTe, odTe, .func (PySem.W.fnOf "__eq__" "Tray.__eq__" (defArgs sTrayEq) (defBody sTrayEq) (defScope sTrayEq) .none kVTe dcTe pmTe anTe cdTe ctTe), slTe⟩)
    (cTe : PySem.W.codeIn K cdTe "Tray.__eq__" = true)
    (kTe : PySem.W.keepIn K (.ref fTe) = true)
    (pMb : PySem.W.findIn K (.ref D) "marbles" = some (some (.ref qMb)))
    (pgtMb : PySem.W.specialIn K (.ref qMb) "__get__" = some (some (.builtin "property.__get__")))
    (ptkMb : PySem.W.takesIn K (.ref qMb) = some true)
    (aMb : PySem.W.recIn K qMb "property" = some (.ref fMb :: rMb))
    (lMb : K.lookup fMb = some ⟨ocMb, odMb, .func (PySem.W.fnOf "marbles" "Tray.marbles" (defArgs sTrayMarbles) (defBody sTrayMarbles) (defScope sTrayMarbles) .none kVMb dcMb pmMb anMb cdMb ctMb), slMb⟩)
    (cMb : PySem.W.codeIn K cdMb "Tray.marbles" = true)
    (kMb : PySem.W.keepIn K (.ref fMb) = true)
    (pWd : PySem.W.findIn K (.ref D) "width" = some (some (.ref qWd)))
    (pgtWd : PySem.W.specialIn K (.ref qWd) "__get__" = some (some (.builtin "property.__get__")))
    (ptkWd : PySem.W.takesIn K (.ref qWd) = some true)
    (aWd : PySem.W.recIn K qWd "property" = some (.ref fWd :: rWd))
    (lWd : K.lookup fWd = some ⟨ocWd, odWd, .func (PySem.W.fnOf "width" "Tray.width" (defArgs sTrayWidth) (defBody sTrayWidth) (defScope sTrayWidth) .none kVWd dcWd pmWd anWd cdWd ctWd), slWd⟩)
    (cWd : PySem.W.codeIn K cdWd "Tray.width" = true)
    (kWd : PySem.W.keepIn K (.ref fWd) = true)
    (pHt : PySem.W.findIn K (.ref D) "height" = some (some (.ref qHt)))
    (pgtHt : PySem.W.specialIn K (.ref qHt) "__get__" = some (some (.builtin "property.__get__")))
    (ptkHt : PySem.W.takesIn K (.ref qHt) = some true)
    (aHt : PySem.W.recIn K qHt "property" = some (.ref fHt :: rHt))
    (lHt : K.lookup fHt = some ⟨ocHt, odHt, .func (PySem.W.fnOf "height" "Tray.height" (defArgs sTrayHeight) (defBody sTrayHeight) (defScope sTrayHeight) .none kVHt dcHt pmHt anHt cdHt ctHt), slHt⟩)
    (cHt : PySem.W.codeIn K cdHt "Tray.height" = true)
    (kHt : PySem.W.keepIn K (.ref fHt) = true)
    (aTc : PySem.W.findIn K (.ref D) "__contains__" = some (some (.ref fTc)))
    (iTc : PySem.W.isFn K (.ref fTc) = true)
    (lTc : K.lookup fTc = some ⟨ocTc, odTc, .func (PySem.W.fnOf "__contains__" "Tray.__contains__" (defArgs sTrayContains) (defBody sTrayContains) (defScope sTrayContains) .none kVTc dcTc pmTc anTc cdTc ctTc), slTc⟩)
    (cTc : PySem.W.codeIn K cdTc "Tray.__contains__" = true)
    (kTc : PySem.W.keepIn K (.ref fTc) = true)
    (aCl : PySem.W.findIn K (.ref D) "__call__" = some (some (.ref fCl)))
    (iCl : PySem.W.isFn K (.ref fCl) = true)
    (lCl : K.lookup fCl = some ⟨ocCl, odCl, .func (PySem.W.fnOf "__call__" "Tray.__call__" (defArgs sTrayCall) (defBody sTrayCall) (defScope sTrayCall) .none kVCl dcCl pmCl anCl cdCl ctCl), slCl⟩)
    (cCl : PySem.W.codeIn K cdCl "Tray.__call__" = true)
    (kCl : PySem.W.keepIn K (.ref fCl) = true)
    (fnCl : PySem.W.fnIn K fCl = true)
    (aNu : PySem.W.nsIn K mainGlobals "is_number" = some (some (.ref fNu)))
    (lNu : K.lookup fNu = some ⟨ocNu, odNu, .func (PySem.W.fnOf "is_number" "is_number" (defArgs sIsNumber) (defBody sIsNumber) (defScope sIsNumber) .none kVNu dcNu pmNu anNu cdNu ctNu), slNu⟩)
    (cNu : PySem.W.codeIn K cdNu "is_number" = true)
    (kNu : PySem.W.keepIn K (.ref fNu) = true)
    (aPl : PySem.W.nsIn K mainGlobals "is_place" = some (some (.ref fPl)))
    (lPl : K.lookup fPl = some ⟨ocPl, odPl, .func (PySem.W.fnOf "is_place" "is_place" (defArgs sIsPlace) (defBody sIsPlace) (defScope sIsPlace) .none kVPl dcPl pmPl anPl cdPl ctPl), slPl⟩)
    (cPl : PySem.W.codeIn K cdPl "is_place" = true)
    (kPl : PySem.W.keepIn K (.ref fPl) = true)
    (aCv : PySem.W.nsIn K mainGlobals "check_place" = some (some (.ref fCv)))
    (lCv : K.lookup fCv = some ⟨ocCv, odCv, .func (PySem.W.fnOf "check_place" "check_place" (defArgs sCheckPlace) (defBody sCheckPlace) (defScope sCheckPlace) .none kVCv dcCv pmCv anCv cdCv ctCv), slCv⟩)
    (cCv : PySem.W.codeIn K cdCv "check_place" = true)
    (kCv : PySem.W.keepIn K (.ref fCv) = true)
    (aAt : PySem.W.findIn K (.ref D) "at" = some (some (.ref fAt)))
    (iAt : PySem.W.isFn K (.ref fAt) = true)
    (lAt : K.lookup fAt = some ⟨ocAt, odAt, .func (PySem.W.fnOf "at" "Tray.at" (defArgs sTrayAt) (defBody sTrayAt) (defScope sTrayAt) .none kVAt dcAt pmAt anAt cdAt ctAt), slAt⟩)
    (cAt : PySem.W.codeIn K cdAt "Tray.at" = true)
    (kAt : PySem.W.keepIn K (.ref fAt) = true)
    (aCm : PySem.W.nsIn K mainGlobals "check_marble" = some (some (.ref fCm)))
    (lCm : K.lookup fCm = some ⟨ocCm, odCm, .func (PySem.W.fnOf "check_marble" "check_marble" (defArgs sCheckMarble) (defBody sCheckMarble) (defScope sCheckMarble) .none kVCm dcCm pmCm anCm cdCm ctCm), slCm⟩)
    (cCm : PySem.W.codeIn K cdCm "check_marble" = true)
    (kCm : PySem.W.keepIn K (.ref fCm) = true)
    (sf : PySem.W.selfFirst K D = true)
    (nc : PySem.W.clsIn K C = some cdC)
    (nm : cdC.mro = [.ref C, .type "object"])
    (n1 : PySem.W.findIn K (.ref C) "__rshift__" = some none)
    (n2 : PySem.W.findIn K (.ref C) "__rrshift__" = some none)
    (n3 : PySem.W.findIn K (.type "object") "__rshift__" = some none)
    (n4 : PySem.W.findIn K (.type "object") "__rrshift__" = some none)
    (aNx : PySem.W.nsIn K mainGlobals "_next_tilts" = some (some (.ref fNx)))
    (lNx : K.lookup fNx = some ⟨ocNx, odNx, .func (PySem.W.fnOf "_next_tilts" "_next_tilts" (defArgs sNextTilts) (defBody sNextTilts) (defScope sNextTilts) .none kVNx dcNx pmNx anNx cdNx ctNx), slNx⟩)
    (cNx : PySem.W.codeIn K cdNx "_next_tilts" = true)
    (kNx : PySem.W.keepIn K (.ref fNx) = true)
    (aSw : PySem.W.nsIn K mainGlobals "_shortest_ways" = some (some (.ref fSw)))
    (lSw : K.lookup fSw = some ⟨ocSw, odSw, .func (PySem.W.fnOf "_shortest_ways" "_shortest_ways" (defArgs sShortestWays) (defBody sShortestWays) (defScope sShortestWays) .none kVSw dcSw pmSw anSw cdSw ctSw), slSw⟩)
    (cSw : PySem.W.codeIn K cdSw "_shortest_ways" = true)
    (kSw : PySem.W.keepIn K (.ref fSw) = true)
    (aFy : PySem.W.nsIn K mainGlobals "_first_way" = some (some (.ref fFy)))
    (lFy : K.lookup fFy = some ⟨ocFy, odFy, .func (PySem.W.fnOf "_first_way" "_first_way" (defArgs sFirstWay) (defBody sFirstWay) (defScope sFirstWay) .none kVFy dcFy pmFy anFy cdFy ctFy), slFy⟩)
    (cFy : PySem.W.codeIn K cdFy "_first_way" = true)
    (kFy : PySem.W.keepIn K (.ref fFy) = true)
    (aAn : PySem.W.nsIn K mainGlobals "_are_neighbours" = some (some (.ref fAn)))
    (lAn : K.lookup fAn = some ⟨ocAn, odAn, .func (PySem.W.fnOf "_are_neighbours" "_are_neighbours" (defArgs sAreNeighbours) (defBody sAreNeighbours) (defScope sAreNeighbours) .none kVAn dcAn pmAn anAn cdAn ctAn), slAn⟩)
    (cAn : PySem.W.codeIn K cdAn "_are_neighbours" = true)
    (kAn : PySem.W.keepIn K (.ref fAn) = true)
    (aFp : PySem.W.nsIn K mainGlobals "fewest_to_place" = some (some (.ref fFp)))
    (lFp : K.lookup fFp = some ⟨ocFp, odFp, .func (PySem.W.fnOf "fewest_to_place" "fewest_to_place" (defArgs sFewestToPlace) (defBody sFewestToPlace) (defScope sFewestToPlace) .none kVFp dcFp pmFp anFp (.ref cdFp) ctFp), slFp⟩)
    (cFp : PySem.W.codeIn K (.ref cdFp) "fewest_to_place" = true)
    (kFp : PySem.W.keepIn K (.ref fFp) = true)
    (aFm : PySem.W.nsIn K mainGlobals "fewest_to_meet" = some (some (.ref fFm)))
    (lFm : K.lookup fFm = some ⟨ocFm, odFm, .func (PySem.W.fnOf "fewest_to_meet" "fewest_to_meet" (defArgs sFewestToMeet) (defBody sFewestToMeet) (defScope sFewestToMeet) .none kVFm dcFm pmFm anFm (.ref cdFm) ctFm), slFm⟩)
    (cFm : PySem.W.codeIn K (.ref cdFm) "fewest_to_meet" = true)
    (kFm : PySem.W.keepIn K (.ref fFm) = true)
    (aFt : PySem.W.nsIn K mainGlobals "fewest_to_tray" = some (some (.ref fFt)))
    (lFt : K.lookup fFt = some ⟨ocFt, odFt, .func (PySem.W.fnOf "fewest_to_tray" "fewest_to_tray" (defArgs sFewestToTray) (defBody sFewestToTray) (defScope sFewestToTray) .none kVFt dcFt pmFt anFt (.ref cdFt) ctFt), slFt⟩)
    (cFt : PySem.W.codeIn K (.ref cdFt) "fewest_to_tray" = true)
    (kFt : PySem.W.keepIn K (.ref fFt) = true)
    (aTk : PySem.W.nsIn K mainGlobals "_law_taken" = some (some (.ref fTk)))
    (lTk : K.lookup fTk = some ⟨ocTk, odTk, .func (PySem.W.fnOf "_law_taken" "_law_taken" (defArgs sLawTaken) (defBody sLawTaken) (defScope sLawTaken) .none kVTk dcTk pmTk anTk cdTk ctTk), slTk⟩)
    (cTk : PySem.W.codeIn K cdTk "_law_taken" = true)
    (kTk : PySem.W.keepIn K (.ref fTk) = true)
    (aAl : PySem.W.nsIn K mainGlobals "_law_alike" = some (some (.ref fAl)))
    (lAl : K.lookup fAl = some ⟨ocAl, odAl, .func (PySem.W.fnOf "_law_alike" "_law_alike" (defArgs sLawAlike) (defBody sLawAlike) (defScope sLawAlike) .none kVAl dcAl pmAl anAl cdAl ctAl), slAl⟩)
    (cAl : PySem.W.codeIn K cdAl "_law_alike" = true)
    (kAl : PySem.W.keepIn K (.ref fAl) = true)
    (aRa : PySem.W.nsIn K mainGlobals "_law_raised" = some (some (.ref fRa)))
    (lRa : K.lookup fRa = some ⟨ocRa, odRa, .func (PySem.W.fnOf "_law_raised" "_law_raised" (defArgs sLawRaised) (defBody sLawRaised) (defScope sLawRaised) .none kVRa dcRa pmRa anRa cdRa ctRa), slRa⟩)
    (cRa : PySem.W.codeIn K cdRa "_law_raised" = true)
    (kRa : PySem.W.keepIn K (.ref fRa) = true)
    (aRw : PySem.W.nsIn K mainGlobals "_law_rows" = some (some (.ref fRw)))
    (lRw : K.lookup fRw = some ⟨ocRw, odRw, .func (PySem.W.fnOf "_law_rows" "_law_rows" (defArgs sLawRows) (defBody sLawRows) (defScope sLawRows) .none kVRw dcRw pmRw anRw cdRw ctRw), slRw⟩)
    (cRw : PySem.W.codeIn K cdRw "_law_rows" = true)
    (kRw : PySem.W.keepIn K (.ref fRw) = true)
    (aTl : PySem.W.nsIn K mainGlobals "_law_tilted" = some (some (.ref fTl)))
    (lTl : K.lookup fTl = some ⟨ocTl, odTl, .func (PySem.W.fnOf "_law_tilted" "_law_tilted" (defArgs sLawTilted) (defBody sLawTilted) (defScope sLawTilted) .none kVTl dcTl pmTl anTl cdTl ctTl), slTl⟩)
    (cTl : PySem.W.codeIn K cdTl "_law_tilted" = true)
    (kTl : PySem.W.keepIn K (.ref fTl) = true)
    (aPs : PySem.W.nsIn K mainGlobals "_law_places" = some (some (.ref fPs)))
    (lPs : K.lookup fPs = some ⟨ocPs, odPs, .func (PySem.W.fnOf "_law_places" "_law_places" (defArgs sLawPlaces) (defBody sLawPlaces) (defScope sLawPlaces) .none kVPs dcPs pmPs anPs cdPs ctPs), slPs⟩)
    (cPs : PySem.W.codeIn K cdPs "_law_places" = true)
    (kPs : PySem.W.keepIn K (.ref fPs) = true)
    (aLv : PySem.W.nsIn K mainGlobals "_law_levels" = some (some (.ref fLv)))
    (lLv : K.lookup fLv = some ⟨ocLv, odLv, .func (PySem.W.fnOf "_law_levels" "_law_levels" (defArgs sLawLevels) (defBody sLawLevels) (defScope sLawLevels) .none kVLv dcLv pmLv anLv cdLv ctLv), slLv⟩)
    (cLv : PySem.W.codeIn K cdLv "_law_levels" = true)
    (kLv : PySem.W.keepIn K (.ref fLv) = true)
    (aBs : PySem.W.nsIn K mainGlobals "_law_best" = some (some (.ref fBs)))
    (lBs : K.lookup fBs = some ⟨ocBs, odBs, .func (PySem.W.fnOf "_law_best" "_law_best" (defArgs sLawBest) (defBody sLawBest) (defScope sLawBest) .none kVBs dcBs pmBs anBs cdBs ctBs), slBs⟩)
    (cBs : PySem.W.codeIn K cdBs "_law_best" = true)
    (kBs : PySem.W.keepIn K (.ref fBs) = true)
    (aBe : PySem.W.nsIn K mainGlobals "_law_are_beside" = some (some (.ref fBe)))
    (lBe : K.lookup fBe = some ⟨ocBe, odBe, .func (PySem.W.fnOf "_law_are_beside" "_law_are_beside" (defArgs sLawAreBeside) (defBody sLawAreBeside) (defScope sLawAreBeside) .none kVBe dcBe pmBe anBe cdBe ctBe), slBe⟩)
    (cBe : PySem.W.codeIn K cdBe "_law_are_beside" = true)
    (kBe : PySem.W.keepIn K (.ref fBe) = true)
    (aRj : PySem.W.nsIn K mainGlobals "_law_are_rejected" = some (some (.ref fRj)))
    (lRj : K.lookup fRj = some ⟨ocRj, odRj, .func (PySem.W.fnOf "_law_are_rejected" "_law_are_rejected" (defArgs sLawAreRejected) (defBody sLawAreRejected) (defScope sLawAreRejected) .none kVRj dcRj pmRj anRj (.ref cdRj) ctRj), slRj⟩)
    (cRj : PySem.W.codeIn K (.ref cdRj) "_law_are_rejected" = true)
    (kRj : PySem.W.keepIn K (.ref fRj) = true)
    (aLw : PySem.W.nsIn K mainGlobals "law" = some (some (.ref fLw)))
    (lLw : K.lookup fLw = some ⟨ocLw, odLw, .func (PySem.W.fnOf "law" "law" (defArgs sLaw) (defBody sLaw) (defScope sLaw) .none kVLw dcLw pmLw anLw cdLw ctLw), slLw⟩)
    (cLw : PySem.W.codeIn K cdLw "law" = true)
    (kLw : PySem.W.keepIn K (.ref fLw) = true)
    (ge2 : PySem.W.nsIn K mainGlobals "UnknownMarble" = some (some (.ref e2)))
    (xL2 : K.lookup e2 = some (excClassObj nm2 q2 e2 N2 bs2 bm2 true sn2 sub2 ab2 col2 dd2 m02 m12 m22 m32 m52 "ValueError.__new__"))
    (xb2 : PySem.HandSPX.refsVE bm2 = true)
    (xsa2 : PySem.W.findIn K (.ref e2) "__setattr__" = some (some (.builtin "object.__setattr__")))
    (xex2 : PySem.W.subIn K (.ref e2) (.type "BaseException") = some true)
    (xty2 : PySem.W.typeIn K (.ref e2) = some (.type "type"))
    (xk2 : PySem.W.keepIn K (.ref e2) = true)
    (aIx2 : PySem.W.findIn K (.ref e2) "__init__" = some (some (.ref fIx2)))
    (tIx2 : PySem.W.typeIn K (.ref fIx2) = some (.type "function"))
    (lIx2 : K.lookup fIx2 = some ⟨ocIx2, odIx2, .func (PySem.W.fnX "__init__" "UnknownMarble.__init__" (defArgs sUnknownMarbleInit) (defBody sUnknownMarbleInit) (defScope sUnknownMarbleInit) [("__class__", cc2)] .none kVIx2 dcIx2 pmIx2 anIx2 (.ref cdIx2) ctIx2), slIx2⟩)
    (cIx2 : PySem.W.codeIn K (.ref cdIx2) "UnknownMarble.__init__" = true)
    (kx12 : K.lookup cdIx2 = some ⟨ccl2, cdd2, .fields vsx2, ccs2⟩)
    (kx22 : vsx2[2]? = some (.str fileX2 tfX2))
    (kx32 : ((P.main.file : Str) == fileX2) = true)
    (kx42 : K.lookup cc2 = some ⟨cl02, cld02, .cell (some (.ref e2)), csl02⟩)
    (kx52 : PySem.W.mroIn K e2 (.ref e2) = some true)
    (kx62 : PySem.W.ks_superIn K e2 e2 "__init__" = some (some (.builtin "ValueError.__init__")))
    (kx72 : PySem.W.subIn K (.ref e2) (.type "ValueError") = some true)
    (nI3 : PySem.W.findIn K (.ref e2) "marble" = some none)
    (kx8 : PySem.W.nsIn K cStatics "thirdparty.any" = some none)
    (kx9 : (P.main.scope.names.lookup ("super" : Str)).isSome = false)
    (ge3 : PySem.W.nsIn K mainGlobals "InvalidPlace" = some (some (.ref e3)))
    (q3 : PySem.W.excIn K e3 [.type "ValueError", .type "Exception", .type "BaseException", .type "object"] "ValueError.__new__" = true)
    (k3 : PySem.W.keepIn K (.ref e3) = true)
    (t3 : PySem.W.typeIn K (.ref e3) = some (.type "type"))
    (hs_3 : PySem.W.subIn K (.ref e3) (.type "BaseException") = some true)
    (ge5 : PySem.W.nsIn K mainGlobals "SameMarble" = some (some (.ref e5)))
    (q5 : PySem.W.excIn K e5 [.type "ValueError", .type "Exception", .type "BaseException", .type "object"] "ValueError.__new__" = true)
    (k5 : PySem.W.keepIn K (.ref e5) = true)
    (t5 : PySem.W.typeIn K (.ref e5) = some (.type "type"))
    (hs_5 : PySem.W.subIn K (.ref e5) (.type "BaseException") = some true)
    (geT : PySem.W.nsIn K mainGlobals "TrayError" = some (some (.ref eT)))
    (ge0 : PySem.W.nsIn K mainGlobals "InvalidWord" = some (some (.ref e0)))
    (ge1 : PySem.W.nsIn K mainGlobals "InvalidTray" = some (some (.ref e1)))
    (ge4 : PySem.W.nsIn K mainGlobals "InvalidNumber" = some (some (.ref e4)))
    (nI0 : PySem.W.findIn K (.ref e0) "index" = some none)
    (nI1 : PySem.W.findIn K (.ref e1) "row" = some none)
    (nI2 : PySem.W.findIn K (.ref e1) "column" = some none)
    (hg0 : PySem.W.findIn K (.ref e0) "__getattribute__" = some (some (.builtin "BaseException.__getattribute__")))
    (hk0 : PySem.W.findIn K (.ref e0) "__getattr__" = some none)
    (hs0 : PySem.W.subIn K (.ref e0) (.type "BaseException") = some true)
    (hd0 : PySem.W.hasDictIn K e0 = true)
    (ha0 : PySem.W.findIn K (.ref e0) "__class__" = some (some (.builtin "object.__class__")))
    (hm0 : PySem.W.mroIn K e0 (.type "object") = some true)
    (hv0 : PySem.W.kitOne K (.ref e0) (.type "ValueError") = some true)
    (ht0 : PySem.W.exmOne K (.ref e0) (.ref eT) = some true)
    (o00 : PySem.W.kitOne K (.ref e0) (.ref e0) = some true)
    (o01 : PySem.W.kitOne K (.ref e0) (.ref e1) = some false)
    (o02 : PySem.W.kitOne K (.ref e0) (.ref e2) = some false)
    (o03 : PySem.W.kitOne K (.ref e0) (.ref e3) = some false)
    (o04 : PySem.W.kitOne K (.ref e0) (.ref e4) = some false)
    (o05 : PySem.W.kitOne K (.ref e0) (.ref e5) = some false)
    (hg1 : PySem.W.findIn K (.ref e1) "__getattribute__" = some (some (.builtin "BaseException.__getattribute__")))
    (hk1 : PySem.W.findIn K (.ref e1) "__getattr__" = some none)
    (hs1 : PySem.W.subIn K (.ref e1) (.type "BaseException") = some true)
    (hd1 : PySem.W.hasDictIn K e1 = true)
    (ha1 : PySem.W.findIn K (.ref e1) "__class__" = some (some (.builtin "object.__class__")))
    (hm1 : PySem.W.mroIn K e1 (.type "object") = some true)
    (hv1 : PySem.W.kitOne K (.ref e1) (.type "ValueError") = some true)
    (ht1 : PySem.W.exmOne K (.ref e1) (.ref eT) = some true)
    (o10 : PySem.W.kitOne K (.ref e1) (.ref e0) = some false)
    (o11 : PySem.W.kitOne K (.ref e1) (.ref e1) = some true)
    (o12 : PySem.W.kitOne K (.ref e1) (.ref e2) = some false)
    (o13 : PySem.W.kitOne K (.ref e1) (.ref e3) = some false)
    (o14 : PySem.W.kitOne K (.ref e1) (.ref e4) = some false)
    (o15 : PySem.W.kitOne K (.ref e1) (.ref e5) = some false)
    (hg2 : PySem.W.findIn K (.ref e2) "__getattribute__" = some (some (.builtin "BaseException.__getattribute__")))
    (hk2 : PySem.W.findIn K (.ref e2) "__getattr__" = some none)
    (hs2 : PySem.W.subIn K (.ref e2) (.type "BaseException") = some true)
    (hd2 : PySem.W.hasDictIn K e2 = true)
    (ha2 : PySem.W.findIn K (.ref e2) "__class__" = some (some (.builtin "object.__class__")))
    (hm2 : PySem.W.mroIn K e2 (.type "object") = some true)
    (hv2 : PySem.W.kitOne K (.ref e2) (.type "ValueError") = some true)
    (ht2 : PySem.W.exmOne K (.ref e2) (.ref eT) = some true)
    (o20 : PySem.W.kitOne K (.ref e2) (.ref e0) = some false)
    (o21 : PySem.W.kitOne K (.ref e2) (.ref e1) = some false)
    (o22 : PySem.W.kitOne K (.ref e2) (.ref e2) = some true)
    (o23 : PySem.W.kitOne K (.ref e2) (.ref e3) = some false)
    (o24 : PySem.W.kitOne K (.ref e2) (.ref e4) = some false)
    (o25 : PySem.W.kitOne K (.ref e2) (.ref e5) = some false)
    (hg3 : PySem.W.findIn K (.ref e3) "__getattribute__" = some (some (.builtin "BaseException.__getattribute__")))
    (hk3 : PySem.W.findIn K (.ref e3) "__getattr__" = some none)
    (hs3 : PySem.W.subIn K (.ref e3) (.type "BaseException") = some true)
    (hd3 : PySem.W.hasDictIn K e3 = true)
    (ha3 : PySem.W.findIn K (.ref e3) "__class__" = some (some (.builtin "object.__class__")))
    (hm3 : PySem.W.mroIn K e3 (.type "object") = some true)
    (hv3 : PySem.W.kitOne K (.ref e3) (.type "ValueError") = some true)
    (ht3 : PySem.W.exmOne K (.ref e3) (.ref eT) = some true)
    (o30 : PySem.W.kitOne K (.ref e3) (.ref e0) = some false)
    (o31 : PySem.W.kitOne K (.ref e3) (.ref e1) = some false)
    (o32 : PySem.W.kitOne K (.ref e3) (.ref e2) = some false)
    (o33 : PySem.W.kitOne K (.ref e3) (.ref e3) = some true)
    (o34 : PySem.W.kitOne K (.ref e3) (.ref e4) = some false)
    (o35 : PySem.W.kitOne K (.ref e3) (.ref e5) = some false)
    (hg4 : PySem.W.findIn K (.ref e4) "__getattribute__" = some (some (.builtin "BaseException.__getattribute__")))
    (hk4 : PySem.W.findIn K (.ref e4) "__getattr__" = some none)
    (hs4 : PySem.W.subIn K (.ref e4) (.type "BaseException") = some true)
    (hd4 : PySem.W.hasDictIn K e4 = true)
    (ha4 : PySem.W.findIn K (.ref e4) "__class__" = some (some (.builtin "object.__class__")))
    (hm4 : PySem.W.mroIn K e4 (.type "object") = some true)
    (hv4 : PySem.W.kitOne K (.ref e4) (.type "ValueError") = some true)
    (ht4 : PySem.W.exmOne K (.ref e4) (.ref eT) = some true)
    (o40 : PySem.W.kitOne K (.ref e4) (.ref e0) = some false)
    (o41 : PySem.W.kitOne K (.ref e4) (.ref e1) = some false)
    (o42 : PySem.W.kitOne K (.ref e4) (.ref e2) = some false)
    (o43 : PySem.W.kitOne K (.ref e4) (.ref e3) = some false)
    (o44 : PySem.W.kitOne K (.ref e4) (.ref e4) = some true)
    (o45 : PySem.W.kitOne K (.ref e4) (.ref e5) = some false)
    (hg5 : PySem.W.findIn K (.ref e5) "__getattribute__" = some (some (.builtin "BaseException.__getattribute__")))
    (hk5 : PySem.W.findIn K (.ref e5) "__getattr__" = some none)
    (hs5 : PySem.W.subIn K (.ref e5) (.type "BaseException") = some true)
    (hd5 : PySem.W.hasDictIn K e5 = true)
    (ha5 : PySem.W.findIn K (.ref e5) "__class__" = some (some (.builtin "object.__class__")))
    (hm5 : PySem.W.mroIn K e5 (.type "object") = some true)
    (hv5 : PySem.W.kitOne K (.ref e5) (.type "ValueError") = some true)
    (ht5 : PySem.W.exmOne K (.ref e5) (.ref eT) = some true)
    (o50 : PySem.W.kitOne K (.ref e5) (.ref e0) = some false)
    (o51 : PySem.W.kitOne K (.ref e5) (.ref e1) = some false)
    (o52 : PySem.W.kitOne K (.ref e5) (.ref e2) = some false)
    (o53 : PySem.W.kitOne K (.ref e5) (.ref e3) = some false)
    (o54 : PySem.W.kitOne K (.ref e5) (.ref e4) = some false)
    (o55 : PySem.W.kitOne K (.ref e5) (.ref e5) = some true)
    (caO : PySem.W.nsIn K mainGlobals "OPPOSITES" = some (some (.ref aO)))
    (lO : K.lookup aO = some ⟨.type "dict", none, .dict esO nO, #[]⟩)
    (hO : PySem.W.KeysLit w.params esO.toList)
    (Ol : PySem.W.nsIn K aO "l" = some (some (.str zOl tOl)))
    (Or : PySem.W.nsIn K aO "r" = some (some (.str zOr tOr)))
    (Ou : PySem.W.nsIn K aO "u" = some (some (.str zOu tOu)))
    (Od : PySem.W.nsIn K aO "d" = some (some (.str zOd tOd)))
    (dFpFm : PFp ≠ PFm)
    (dFpFt : PFp ≠ PFt)
    (dFpRj : PFp ≠ PRj)
    (dFmFt : PFm ≠ PFt)
    (dFmRj : PFm ≠ PRj)
    (dFtRj : PFt ≠ PRj)
    (eAR : zAR = S [108, 114])
    (eAC : zAC = S [117, 100])
    (eEM : zEM = S [46])
    (eLE : zLE = S letters)
    (eMS : iMS = 8)
    (eMX : iMX = 60)
    (eOl : zOl = S [114])
    (eOr : zOr = S [108])
    (eOu : zOu = S [100])
    (eOd : zOd = S [117])
    (hDC : D ≠ C)
    (h0 : t0 ≠ 0)
    : ∀ base : Heap, K.In base → base.Ns mainGlobals mg → (∀ p ∈ [(cdFp, PFp), (cdFm, PFm), (cdFt, PFt), (cdRj, PRj)], LamX.TabB base mg p.1 p.2) → FnRn (t0 + 1) P w K mg base CX0 11 fa (spLaw7 K [(PFp, "fewest_to_place.<locals>.<lambda>"), (PFm, "fewest_to_meet.<locals>.<lambda>"), (PFt, "fewest_to_tray.<locals>.<lambda>"), (PRj, "_law_are_rejected.<locals>.<lambda>")]) := by
  intro base _ _ TB
  subst eAR eAC eEM eLE eMS eMX eOl eOr eOu eOd
  have g : ∀ {n : Str} {v : Value}, PySem.W.nsIn K mainGlobals n = some (some v) → mg n = some v := fun e => PySem.W.mg_of X G e
  have g0 : ∀ {n : Str}, PySem.W.nsIn K mainGlobals n = some none → mg n = none := fun e => PySem.W.mg_none_of X G e
  obtain rfl : fLw = fa := by
    have e := hfa.symm.trans (g aLw)
    cases e
    rfl
  have raw0 : ∀ {CX : CXT} {k : Nat} {f : Addr} {fd : FuncData} {ps : List Str} {sp : Sp}, FnOk P w K mg base CX k f fd ps sp → Binds K fd ps [] → FnR P w K mg base CX k f sp := fun F b => (F.raw b .nil).imp fun vs H Q E h => by rw [List.append_nil]; exact h
  have T : TxtW K mg := ⟨g0 b_len, g0 b_isinstance, g0 b_str, g0 b_enumerate, ⟨_, g cAR, _, rfl⟩, ⟨_, g cAC, _, rfl⟩⟩
  have U : TxtT K mg t0 := ⟨g cEM, ⟨_, g cLE, _, rfl⟩, ⟨_, g cMS, _, rfl⟩, g0 b_set, g0 b_zip, g0 b_tuple⟩
  have L : TxtL K mg := ⟨g0 b_int, g0 b_range, g0 b_min⟩
  have clC : Cls K C := ⟨pgC, hdC, poC, saC⟩
  have clD : Cls K D := ⟨pgD, hdD, poD, saD⟩
  have CW : ClsW K mg C := ⟨clC, nT, g aC, .type "type", _, ⟨rdC, gaC⟩, mx, _, rfl⟩
  have CT : ClsT K mg D := ⟨clD, nR, g aD⟩
  have IC : C8.InsC K C := ⟨clC, ih, in_, itk, im, if_pos (by simp)⟩
  have ID : C8.InsC K D := ⟨clD, ihD, in_, itk, imD, if_pos (by simp)⟩
  have FIt := fun_mk (st := sIsTilt) lIt cIt kIt
  have BIt := FIt.binds (ps := ["value"]) fun _ _ _ _ _ _ us hl => match us, hl with | [_], _ => rfl
  have FFw := fun_mk (st := sFirstWrongIndex) lFw cFw kFw
  have BFw := FFw.binds (ps := ["text"]) fun _ _ _ _ _ _ us hl => match us, hl with | [_], _ => rfl
  have FWi := fun_mk (st := sWordInit) lWi cWi kWi
  have BWi := FWi.binds (ps := ["self", "text"]) fun _ _ _ _ _ _ us hl => match us, hl with | [_, _], _ => rfl
  have FWt := fun_mk (st := sWordText) lWt cWt kWt
  have BWt := FWt.binds (ps := ["self"]) fun _ _ _ _ _ _ us hl => match us, hl with | [_], _ => rfl
  have FTo := fun_mk (st := sTrayOfText) lTo cTo kTo
  have BTo := FTo.binds (ps := ["cls", "text"]) fun _ _ _ _ _ _ us hl => match us, hl with | [_, _], _ => rfl
  have FRs := fun_mk (st := sTrayRshift) lRs cRs kRs
  have BRs := FRs.binds (ps := ["self", "other"]) fun _ _ _ _ _ _ us hl => match us, hl with | [_, _], _ => rfl
  have FFc := fun_mk (st := sFirstWrongCell) lFc cFc kFc
  have BFc := FFc.binds (ps := ["rows"]) fun _ _ _ _ _ _ us hl => match us, hl with | [_], _ => rfl
  have FIr := fun_mk (st := sIsRow) lIr cIr kIr
  have BIr := FIr.binds (ps := ["row"]) fun _ _ _ _ _ _ us hl => match us, hl with | [_], _ => rfl
  have FTd := fun_mk (st := sTilted) lTd cTd kTd
  have BTd := FTd.binds (ps := ["rows", "tilt"]) fun _ _ _ _ _ _ us hl => match us, hl with | [_, _], _ => rfl
  have FSl := fun_mk (st := sSlid) lSl cSl kSl
  have BSl := FSl.binds (ps := ["line", "to_beginning"]) fun _ _ _ _ _ _ us hl => match us, hl with | [_, _], _ => rfl
  have FTr := fun_mk (st := sTrayRows) lTr cTr kTr
  have BTr := FTr.binds (ps := ["self"]) fun _ _ _ _ _ _ us hl => match us, hl with | [_], _ => rfl
  have FTe := fun_mk (st := sTrayEq) lTe cTe kTe
  have BTe := FTe.binds (ps := ["self", "other"]) fun _ _ _ _ _ _ us hl => match us, hl with | [_, _], _ => rfl
  have FMb := fun_mk (st := sTrayMarbles) lMb cMb kMb
  have BMb := FMb.binds (ps := ["self"]) fun _ _ _ _ _ _ us hl => match us, hl with | [_], _ => rfl
  have FWd := fun_mk (st := sTrayWidth) lWd cWd kWd
  have BWd := FWd.binds (ps := ["self"]) fun _ _ _ _ _ _ us hl => match us, hl with | [_], _ => rfl
  have FHt := fun_mk (st := sTrayHeight) lHt cHt kHt
  have BHt := FHt.binds (ps := ["self"]) fun _ _ _ _ _ _ us hl => match us, hl with | [_], _ => rfl
  have FTc := fun_mk (st := sTrayContains) lTc cTc kTc
  have BTc := FTc.binds (ps := ["self", "x"]) fun _ _ _ _ _ _ us hl => match us, hl with | [_, _], _ => rfl
  have FCl := fun_mk (st := sTrayCall) lCl cCl kCl
  have BCl := FCl.binds (ps := ["self", "marble"]) fun _ _ _ _ _ _ us hl => match us, hl with | [_, _], _ => rfl
  have FNu := fun_mk (st := sIsNumber) lNu cNu kNu
  have BNu := FNu.binds (ps := ["value", "limit"]) fun _ _ _ _ _ _ us hl => match us, hl with | [_, _], _ => rfl
  have FPl := fun_mk (st := sIsPlace) lPl cPl kPl
  have BPl := FPl.binds (ps := ["value", "height", "width"]) fun _ _ _ _ _ _ us hl => match us, hl with | [_, _, _], _ => rfl
  have FCv := fun_mk (st := sCheckPlace) lCv cCv kCv
  have BCv := FCv.binds (ps := ["tray", "place"]) fun _ _ _ _ _ _ us hl => match us, hl with | [_, _], _ => rfl
  have FAt := fun_mk (st := sTrayAt) lAt cAt kAt
  have BAt := FAt.binds (ps := ["self", "place"]) fun _ _ _ _ _ _ us hl => match us, hl with | [_, _], _ => rfl
  have FCm := fun_mk (st := sCheckMarble) lCm cCm kCm
  have BCm := FCm.binds (ps := ["tray", "marble"]) fun _ _ _ _ _ _ us hl => match us, hl with | [_, _], _ => rfl
  have FNx := fun_mk (st := sNextTilts) lNx cNx kNx
  have BNx := FNx.binds (ps := ["tilts"]) fun _ _ _ _ _ _ us hl => match us, hl with | [_], _ => rfl
  have FSw := fun_mk (st := sShortestWays) lSw cSw kSw
  have BSw := FSw.binds (ps := ["tray"]) fun _ _ _ _ _ _ us hl => match us, hl with | [_], _ => rfl
  have FFy := fun_mk (st := sFirstWay) lFy cFy kFy
  have BFy := FFy.binds (ps := ["tray", "is_goal"]) fun _ _ _ _ _ _ us hl => match us, hl with | [_, _], _ => rfl
  have FAn := fun_mk (st := sAreNeighbours) lAn cAn kAn
  have BAn := FAn.binds (ps := ["place", "other"]) fun _ _ _ _ _ _ us hl => match us, hl with | [_, _], _ => rfl
  have FFp := fun_mk (st := sFewestToPlace) lFp cFp kFp
  have BFp := FFp.binds (ps := ["tray", "marble", "place"]) fun _ _ _ _ _ _ us hl => match us, hl with | [_, _, _], _ => rfl
  have FFm := fun_mk (st := sFewestToMeet) lFm cFm kFm
  have BFm := FFm.binds (ps := ["tray", "one", "other"]) fun _ _ _ _ _ _ us hl => match us, hl with | [_, _, _], _ => rfl
  have FFt := fun_mk (st := sFewestToTray) lFt cFt kFt
  have BFt := FFt.binds (ps := ["tray", "goal"]) fun _ _ _ _ _ _ us hl => match us, hl with | [_, _], _ => rfl
  have FTk := fun_mk (st := sLawTaken) lTk cTk kTk
  have BTk := FTk.binds (ps := ["_law_row", "_law_many"]) fun _ _ _ _ _ _ us hl => match us, hl with | [_, _], _ => rfl
  have FAl := fun_mk (st := sLawAlike) lAl cAl kAl
  have BAl := FAl.binds (ps := ["_law_one", "_law_due"]) fun _ _ _ _ _ _ us hl => match us, hl with | [_, _], _ => rfl
  have FRa := fun_mk (st := sLawRaised) lRa cRa kRa
  have BRa := FRa.binds (ps := ["_law_work"]) fun _ _ _ _ _ _ us hl => match us, hl with | [_], _ => rfl
  have FRw := fun_mk (st := sLawRows) lRw cRw kRw
  have BRw := FRw.binds (ps := ["_law_row", "_law_most"]) fun _ _ _ _ _ _ us hl => match us, hl with | [_, _], _ => rfl
  have FTl := fun_mk (st := sLawTilted) lTl cTl kTl
  have BTl := FTl.binds (ps := ["_law_rows_here", "_law_tilt"]) fun _ _ _ _ _ _ us hl => match us, hl with | [_, _], _ => rfl
  have FPs := fun_mk (st := sLawPlaces) lPs cPs kPs
  have BPs := FPs.binds (ps := ["_law_rows_here"]) fun _ _ _ _ _ _ us hl => match us, hl with | [_], _ => rfl
  have FLv := fun_mk (st := sLawLevels) lLv cLv kLv
  have BLv := FLv.binds (ps := ["_law_rows_here"]) fun _ _ _ _ _ _ us hl => match us, hl with | [_], _ => rfl
  have FBs := fun_mk (st := sLawBest) lBs cBs kBs
  have BBs := FBs.binds (ps := ["_law_paths"]) fun _ _ _ _ _ _ us hl => match us, hl with | [_], _ => rfl
  have FBe := fun_mk (st := sLawAreBeside) lBe cBe kBe
  have BBe := FBe.binds (ps := ["_law_text", "_law_one", "_law_other"]) fun _ _ _ _ _ _ us hl => match us, hl with | [_, _, _], _ => rfl
  have FRj := fun_mk (st := sLawAreRejected) lRj cRj kRj
  have BRj := FRj.binds (ps := ["_law_tray", "_law_name"]) fun _ _ _ _ _ _ us hl => match us, hl with | [_, _], _ => rfl
  have FLw := fun_mk (st := sLaw) lLw cLw kLw
  have BLw := FLw.binds (ps := ["_law_script"]) fun _ _ _ _ _ _ us hl => match us, hl with | [_], _ => rfl
  have FTi := fun_mk (st := sTrayInit) lTi cTi kTi
  have ox2 : OexC K e2 := ⟨⟨nm2, q2, N2, bs2, bm2, sn2, sub2, ab2, col2, dd2, m02, m12, m22, m32, m52, xL2, xb2⟩, xsa2, xex2, xty2, xk2⟩
  have XT2 : ExcT K mg "UnknownMarble" e2 fIx2 := ⟨ox2, g ge2, aIx2, tIx2⟩
  have GIx2 := ok_um (P := P) (w := w) (base := base) (mg := mg) (CX := CX0) lIx2 cIx2 ⟨⟨_, _, _, lIx2⟩, rfl, ⟨_, _, _, _, _, _, kx12, kx22, kx32⟩, ⟨_, _, _, kx42⟩, kx52, kx62, kx72, kx8, kx9⟩ rfl ox2 (g0 b_super) nI3
  have BIx2 : Binds K (PySem.W.fnX "__init__" "UnknownMarble.__init__" (defArgs sUnknownMarbleInit) (defBody sUnknownMarbleInit) (defScope sUnknownMarbleInit) [("__class__", cc2)] .none kVIx2 dcIx2 pmIx2 anIx2 (.ref cdIx2) ctIx2) ["self", "marble"] [] := Binds.all fun us hl => match us, hl with | [_, _], _ => rfl
  have GIt : FnOk P w K mg base CX0 1 fIt _ ["value"] spIt := ok_it FIt T
  have GFw : FnOk P w K mg base CX0 2 fFw _ ["text"] spFwi := ok_fwi FFw T CW FIt BIt (g aIt)
  have GWi : FnOk P w K mg base CX0 3 fWi _ ["self", "text"] (spWi C) := ok_wi FWi CW GFw kFw BFw (g aFw)
  have MC : Mk K C fWi := ⟨mkC, aWi, iWi, kcC⟩
  have scWt : FnScope ["self"] ["self"] (defScope sWordText) := ⟨rfl, rfl, rfl, by decide +kernel, rfl, by decide +kernel, by decide +kernel⟩
  have GWg : FnOk P w K mg base CX0 1 fWt _ ["self"] (getSp C "_text") := fn_getter (k := 0) lWt cWt scWt rfl rfl clC nT
  have PWt : PropOf K C "text" qWt fWt := ⟨pWt, pgtWt, ptkWt, _, aWt⟩
  have GFc : FnOk P w K mg base CX0 2 fFc _ ["rows"] (spFc K) := ok_fc FFc T U FIr BIr (g aIr)
  have GTi := ok_ti (P := P) (w := w) (base := base) FTi CT GFc kFc BFc (g aFc)
  have MD : Mk K D fTi := ⟨mkD, aTi, iTi, kcD⟩
  have GTo : FnOk P w K mg base CX0 5 fTo _ ["cls", "text"] (spOt K D) := ok_ot FTo T MD GTi
  have GSl : FnRn (t0 + 1) P w K mg base CX0 1 fSl spSl := ok_sl FSl T U BSl h0 (Nat.lt_succ_self _)
  have GTd : FnRn (t0 + 1) P w K mg base CX0 2 fTd (spTd K) := ok_td FTd T U BTd GSl kSl (g aSl)
  have eR1 : PySem.dunder Operator.RShift.info.2 = ("__rshift__" : Str) := by decide +kernel
  have eR2 : PySem.dunderR Operator.RShift.info.2 = ("__rrshift__" : Str) := by decide +kernel
  have NO : NoOp K C Operator.RShift.info.2 := ⟨⟨_, nc, nm⟩, by rw [eR1]; exact n1, by rw [eR2]; exact n2, by rw [eR1]; exact n3, by rw [eR2]; exact n4⟩
  have hs : PySem.W.findIn K (.ref D) (PySem.dunder Operator.RShift.info.2) = some (some (.ref fRs)) := by rw [eR1]; exact aRs
  have GRs : FnRn (t0 + 1) P w K mg base CX0 5 fRs (spRs K C D) := ok_rs FRs T CW CT IC BRs PWt GWg BWt GTd kTd (g aTd) MD GTi
  have scTr : FnScope ["self"] ["self"] (defScope sTrayRows) := ⟨rfl, rfl, rfl, by decide +kernel, rfl, by decide +kernel, by decide +kernel⟩
  have GTr : FnOk P w K mg base CX0 1 fTr _ ["self"] (getSp D "_rows") := fn_getter (k := 0) lTr cTr scTr rfl rfl clD nR
  have PTr : PropOf K D "rows" qTr fTr := ⟨pTr, pgtTr, ptkTr, _, aTr⟩
  have GTe : FnOk P w K mg base CX0 1 fTe _ ["self", "other"] (TW.spTe K D) := TW.ok_te FTe T CT ID
  have GTf := raw0 GTe BTe
  have TM_ : TxtM K mg := ⟨⟨_, g cEM, _, rfl⟩, g0 b_sorted, g0 b_len⟩
  have PMb : PropOf K D "marbles" qMb fMb := ⟨pMb, pgtMb, ptkMb, _, aMb⟩
  have PHt : PropOf K D "height" qHt fHt := ⟨pHt, pgtHt, ptkHt, _, aHt⟩
  have PWd : PropOf K D "width" qWd fWd := ⟨pWd, pgtWd, ptkWd, _, aWd⟩
  have GMb : FnOk P w K mg base CX0 1 fMb _ ["self"] (spMb K D) := ok_mb FMb TM_ CT
  have GHt : FnOk P w K mg base CX0 1 fHt _ ["self"] (spHt K D) := ok_ht FHt TM_ CT
  have GWd : FnOk P w K mg base CX0 1 fWd _ ["self"] (spWd K D) := ok_wd FWd TM_ CT
  have GTc : FnOk P w K mg base CX0 3 fTc _ ["self", "x"] (spTc K D) := ok_tc FTc T CT PMb GMb BMb
  have GCl : FnOk P w K mg base (L2.CX P w) 4 fCl _ ["self", "marble"] (spCl K D e2) := ok_cl FCl CT (g0 b_divmod) aTc iTc (raw0 GTc BTc) PWd GWd BWd XT2 GIx2 BIx2
  have CO : StX.CallO K D fCl := ⟨aCl, iCl, fnCl⟩
  have GC := raw0 GCl BCl
  have N : TA.TxtN K mg := ⟨g0 b_isinstance, g0 b_bool, g0 b_int⟩
  have TP_ : TxtP K mg := ⟨g0 b_isinstance, g0 b_tuple, g0 b_len⟩
  have XN3 : TA.ExN K mg "InvalidPlace" e3 := ⟨q3, g ge3, k3, hs_3, t3⟩
  have GNu : FnOk P w K mg base CX0 1 fNu _ ["value", "limit"] (TA.spNum K) := TA.ok_num FNu N
  have GPl : FnOk P w K mg base CX0 2 fPl _ ["value", "height", "width"] (spPl K) := ok_pl FPl TP_ GNu kNu BNu (g aNu)
  have GCv : FnOk P w K mg base (L2.CX P w) 3 fCv _ ["tray", "place"] (spCp K D e3) := ok_cp FCv CT GPl kPl BPl (g aPl) PHt GHt BHt PWd GWd BWd XN3
  have GAt : FnOk P w K mg base (L2.CX P w) 4 fAt _ ["self", "place"] (spAt K D e3) := ok_at FAt TM_ CT GCv kCv BCv (g aCv)
  have GTk : ∀ a ns, FnOk P w K mg base CX0 1 fTk _ ["_law_row", "_law_many"] (spTk K a ns) := fun a ns => ok_tk FTk T L
  have GRw : ∀ a ns, FnOk P w K mg base CX0 2 fRw _ ["_law_row", "_law_most"] (spRw K a ns) := fun a ns => ok_rw FRw T L (GTk a ns) kTk BTk (g aTk)
  have GRwN : ∀ a ns, FnOk P w K mg base CX0 2 fRw _ ["_law_row", "_law_most"] (spRwN K a ns) := fun a ns => ok_rwN FRw T L (GTk a ns) kTk BTk (g aTk)
  have A : TA.TxtA K mg := by constructor <;> first | exact g0 b_isinstance | exact g0 b_tuple | exact g0 b_list | exact g0 b_bool | exact g0 b_len | exact g0 b_range
  have E : TA.TxtE K mg (TK.ceF e0 e1 e2 e3 e4 e5) eT := { g0 := g ge0, g1 := g ge1, g2 := g ge2, g3 := g ge3, g4 := g ge4, g5 := g ge5, gT := g geT, isi := g0 b_isinstance, ve := g0 b_ValueError, x0 := ⟨hg0, hk0, hs0, hd0⟩, x1 := ⟨hg1, hk1, hs1, hd1⟩, x2 := ⟨hg2, hk2, hs2, hd2⟩, n0 := nI0, n1 := nI1, n2 := nI2, n3 := nI3, xc := TA.six_all ⟨hg0, hk0, hs0, hd0, ha0, in_, itk, hm0⟩ ⟨hg1, hk1, hs1, hd1, ha1, in_, itk, hm1⟩ ⟨hg2, hk2, hs2, hd2, ha2, in_, itk, hm2⟩ ⟨hg3, hk3, hs3, hd3, ha3, in_, itk, hm3⟩ ⟨hg4, hk4, hs4, hd4, ha4, in_, itk, hm4⟩ ⟨hg5, hk5, hs5, hd5, ha5, in_, itk, hm5⟩, one := TK.six_two (TA.six_all o00 o01 o02 o03 o04 o05) (TA.six_all o10 o11 o12 o13 o14 o15) (TA.six_all o20 o21 o22 o23 o24 o25) (TA.six_all o30 o31 o32 o33 o34 o35) (TA.six_all o40 o41 o42 o43 o44 o45) (TA.six_all o50 o51 o52 o53 o54 o55), isv := TA.six_all hv0 hv1 hv2 hv3 hv4 hv5, ism := TA.six_all ht0 ht1 ht2 ht3 ht4 ht5 }
  have XN5 : TA.ExN K mg "SameMarble" e5 := ⟨q5, g ge5, k5, hs_5, t5⟩
  have GCm : FnOk P w K mg base CX0 4 fCm _ ["tray", "marble"] (spCm K D) := ok_cm FCm aTc iTc (raw0 GTc BTc)
  have GCmX : FnOk P w K mg base (L2.CX P w) 4 fCm _ ["tray", "marble"] (spCmX K D e2) := ok_cmX FCm aTc iTc (raw0 GTc BTc) XT2 GIx2 BIx2
  have GFpX : FnOk P w K mg base (L2.CX P w) 5 fFp _ ["tray", "marble", "place"] (spFpX K D e2 e3) := ok_fpX FFp GCmX kCm BCm (g aCm) GCv kCv BCv (g aCv)
  have GFmX : FnOk P w K mg base (L2.CX P w) 5 fFm _ ["tray", "one", "other"] (spFmX K D e2 e5) := ok_fmX FFm XN5 GCmX kCm BCm (g aCm)
  have dO : ∀ c, isT c = true → KDct K w aO (S [c]) (sg (TA.opp c)) := fun c hc => by
    have h4 : c = 108 ∨ c = 114 ∨ c = 117 ∨ c = 100 := by
      simp only [isT, decide_eq_true_eq, List.mem_cons, List.not_mem_nil, or_false] at hc
      omega
    rcases h4 with rfl | rfl | rfl | rfl
    · exact ⟨_, _, _, lO, hO, Ol, _, rfl⟩
    · exact ⟨_, _, _, lO, hO, Or, _, rfl⟩
    · exact ⟨_, _, _, lO, hO, Ou, _, rfl⟩
    · exact ⟨_, _, _, lO, hO, Od, _, rfl⟩
  have GNx : FnOk P w K mg base CX0 1 fNx _ ["tilts"] spNx := ok_nx FNx T (g caO) dO
  have GSw : TG.FnG (t0 + 1) P w K mg base 6 fSw (spSw K D) := ok_sw lSw cSw BSw CW CT hDC sf NO hs iRs GRs GNx kNx BNx (g aNx) PTr GTr BTr MC GWi BWi (g0 b_set)
  have FW : FwF P w K mg base (t0 + 1) D e2 e3 := ⟨⟨_, _, FFy, BFy, g aFy⟩, ⟨_, GSw, g aSw, kSw⟩, ⟨_, _, GCm, kCm, BCm, g aCm⟩, ⟨_, _, GCv, kCv, BCv, g aCv⟩, ⟨_, CO, GC⟩⟩
  have TEFp : TabE base mg [(PFp, "fewest_to_place.<locals>.<lambda>"), (PFm, "fewest_to_meet.<locals>.<lambda>"), (PFt, "fewest_to_tray.<locals>.<lambda>"), (PRj, "_law_are_rejected.<locals>.<lambda>")] "fewest_to_place.<locals>.<lambda>" cdFp PFp := ⟨TB _ (List.mem_cons_self), List.mem_cons_self, fun p hp e => by
    simp only [List.mem_cons, List.not_mem_nil, or_false] at hp
    rcases hp with rfl | rfl | rfl | rfl <;> first | rfl | exact absurd e dFpFm | exact absurd e.symm dFpFm | exact absurd e dFpFt | exact absurd e.symm dFpFt | exact absurd e dFpRj | exact absurd e.symm dFpRj | exact absurd e dFmFt | exact absurd e.symm dFmFt | exact absurd e dFmRj | exact absurd e.symm dFmRj | exact absurd e dFtRj | exact absurd e.symm dFtRj⟩
  have TEFm : TabE base mg [(PFp, "fewest_to_place.<locals>.<lambda>"), (PFm, "fewest_to_meet.<locals>.<lambda>"), (PFt, "fewest_to_tray.<locals>.<lambda>"), (PRj, "_law_are_rejected.<locals>.<lambda>")] "fewest_to_meet.<locals>.<lambda>" cdFm PFm := ⟨TB _ (List.mem_cons_of_mem _ (List.mem_cons_self)), List.mem_cons_of_mem _ (List.mem_cons_self), fun p hp e => by
    simp only [List.mem_cons, List.not_mem_nil, or_false] at hp
    rcases hp with rfl | rfl | rfl | rfl <;> first | rfl | exact absurd e dFpFm | exact absurd e.symm dFpFm | exact absurd e dFpFt | exact absurd e.symm dFpFt | exact absurd e dFpRj | exact absurd e.symm dFpRj | exact absurd e dFmFt | exact absurd e.symm dFmFt | exact absurd e dFmRj | exact absurd e.symm dFmRj | exact absurd e dFtRj | exact absurd e.symm dFtRj⟩
  have TEFt : TabE base mg [(PFp, "fewest_to_place.<locals>.<lambda>"), (PFm, "fewest_to_meet.<locals>.<lambda>"), (PFt, "fewest_to_tray.<locals>.<lambda>"), (PRj, "_law_are_rejected.<locals>.<lambda>")] "fewest_to_tray.<locals>.<lambda>" cdFt PFt := ⟨TB _ (List.mem_cons_of_mem _ (List.mem_cons_of_mem _ (List.mem_cons_self))), List.mem_cons_of_mem _ (List.mem_cons_of_mem _ (List.mem_cons_self)), fun p hp e => by
    simp only [List.mem_cons, List.not_mem_nil, or_false] at hp
    rcases hp with rfl | rfl | rfl | rfl <;> first | rfl | exact absurd e dFpFm | exact absurd e.symm dFpFm | exact absurd e dFpFt | exact absurd e.symm dFpFt | exact absurd e dFpRj | exact absurd e.symm dFpRj | exact absurd e dFmFt | exact absurd e.symm dFmFt | exact absurd e dFmRj | exact absurd e.symm dFmRj | exact absurd e dFtRj | exact absurd e.symm dFtRj⟩
  have TERj : TabE base mg [(PFp, "fewest_to_place.<locals>.<lambda>"), (PFm, "fewest_to_meet.<locals>.<lambda>"), (PFt, "fewest_to_tray.<locals>.<lambda>"), (PRj, "_law_are_rejected.<locals>.<lambda>")] "_law_are_rejected.<locals>.<lambda>" cdRj PRj := ⟨TB _ (List.mem_cons_of_mem _ (List.mem_cons_of_mem _ (List.mem_cons_of_mem _ (List.mem_cons_self)))), List.mem_cons_of_mem _ (List.mem_cons_of_mem _ (List.mem_cons_of_mem _ (List.mem_cons_self))), fun p hp e => by
    simp only [List.mem_cons, List.not_mem_nil, or_false] at hp
    rcases hp with rfl | rfl | rfl | rfl <;> first | rfl | exact absurd e dFpFm | exact absurd e.symm dFpFm | exact absurd e dFpFt | exact absurd e.symm dFpFt | exact absurd e dFpRj | exact absurd e.symm dFpRj | exact absurd e dFmFt | exact absurd e.symm dFmFt | exact absurd e dFmRj | exact absurd e.symm dFmRj | exact absurd e dFtRj | exact absurd e.symm dFtRj⟩
  have GFp : FnRn (t0 + 1) P w K mg base CX0 9 fFp (spFp K D [(PFp, "fewest_to_place.<locals>.<lambda>"), (PFm, "fewest_to_meet.<locals>.<lambda>"), (PFt, "fewest_to_tray.<locals>.<lambda>"), (PRj, "_law_are_rejected.<locals>.<lambda>")]) := ok_fp lFp cFp BFp FW TEFp
  have GAn : FnOk P w K mg base CX0 1 fAn _ ["place", "other"] spAn := ok_an FAn (g0 b_abs)
  have GFm : FnRn (t0 + 1) P w K mg base CX0 9 fFm (spFm K D [(PFp, "fewest_to_place.<locals>.<lambda>"), (PFm, "fewest_to_meet.<locals>.<lambda>"), (PFt, "fewest_to_tray.<locals>.<lambda>"), (PRj, "_law_are_rejected.<locals>.<lambda>")]) := ok_fm lFm cFm BFm FW TEFm GAn kAn BAn (g aAn)
  have GFt : FnRn (t0 + 1) P w K mg base CX0 9 fFt (spFt K D [(PFp, "fewest_to_place.<locals>.<lambda>"), (PFm, "fewest_to_meet.<locals>.<lambda>"), (PFt, "fewest_to_tray.<locals>.<lambda>"), (PRj, "_law_are_rejected.<locals>.<lambda>")]) := ok_ft lFt cFt BFt FW TEFt aTe iTe GTf
  have TS_ : TxtS K mg := by constructor <;> first | exact g0 b_len | exact g0 b_range | exact g0 b_list
  have GTl := ok_tl (P := P) (w := w) (base := base) FTl TS_
  have TQ_ : TxtQ mg := ⟨g0 b_len, g0 b_range⟩
  have GPs : FnOk P w K mg base CX0 1 fPs _ ["_law_rows_here"] (spPs K) := ok_ps FPs TQ_
  have GLv : FnOk P w K mg base CX0 2 fLv _ ["_law_rows_here"] (spLv7 K) := ok_lv7 FLv (g0 b_len) (g0 b_list) GTl kTl BTl (g aTl)
  have GBs : FnOk P w K mg base CX0 1 fBs _ ["_law_paths"] (spBs7 K) := ok_bs7 FBs (g0 b_len) (g0 b_sorted)
  have GBe : FnOk P w K mg base CX0 2 fBe _ ["_law_text", "_law_one", "_law_other"] (spBe7 K) := ok_be7 FBe (g0 b_abs) GPs kPs BPs (g aPs)
  have GAl : FnOk P w K mg base CX0 1 fAl _ ["_law_one", "_law_due"] (TA.spAl K 0) := TA.ok_al FAl A BAl (g aAl) 0
  have RJ : Rj7 P w K mg base (t0 + 1) D e2 e3 e5 (TK.ceF e0 e1 e2 e3 e4 e5) eT [(PFp, "fewest_to_place.<locals>.<lambda>"), (PFm, "fewest_to_meet.<locals>.<lambda>"), (PFt, "fewest_to_tray.<locals>.<lambda>"), (PRj, "_law_are_rejected.<locals>.<lambda>")] cdRj PRj := { te := E, cu := rfl, cp := rfl, cs := rfl, fR := ⟨_, _, FRa, BRa, g aRa⟩, tb := TERj.tb, tm := TERj.tm, tu := TERj.tu, fFp := ⟨_, _, GFpX, kFp, BFp, g aFp⟩, fFm := ⟨_, _, GFmX, kFm, BFm, g aFm⟩ }
  have GRj : FnRn (t0 + 1) P w K mg base CX0 8 fRj (spRj7 K D [(PFp, "fewest_to_place.<locals>.<lambda>"), (PFm, "fewest_to_meet.<locals>.<lambda>"), (PFt, "fewest_to_tray.<locals>.<lambda>"), (PRj, "_law_are_rejected.<locals>.<lambda>")]) := ok_rj7 lRj cRj BRj RJ
  have J : L7 P w K mg base (t0 + 1) D [(PFp, "fewest_to_place.<locals>.<lambda>"), (PFm, "fewest_to_meet.<locals>.<lambda>"), (PFt, "fewest_to_tray.<locals>.<lambda>"), (PRj, "_law_are_rejected.<locals>.<lambda>")] := { rng := g0 b_range, srt := g0 b_sorted, lst := g0 b_list, len := g0 b_len, ct := CT, fTk := ⟨_, _, GTk, kTk, BTk, g aTk⟩, fRw := ⟨_, _, GRwN, kRw, BRw, g aRw⟩, fPs := ⟨_, _, GPs, kPs, BPs, g aPs⟩, fLv := ⟨_, _, GLv, kLv, BLv, g aLv⟩, fBs := ⟨_, _, GBs, kBs, BBs, g aBs⟩, fBe := ⟨_, _, GBe, kBe, BBe, g aBe⟩, fAl := ⟨_, _, GAl, kAl, BAl, g aAl⟩, fFp := ⟨_, GFp, kFp, g aFp⟩, fFm := ⟨_, GFm, kFm, g aFm⟩, fFt := ⟨_, GFt, kFt, g aFt⟩, fRj := ⟨_, GRj, kRj, g aRj⟩, ot := ⟨_, _, _, ⟨rdD, gaD⟩, ⟨pTo, ⟨_, aTo⟩, fiTo⟩, raw0 GTo BTo⟩, pRw := ⟨_, _, _, PTr, GTr, BTr⟩ }
  exact ok_law7 FLw BLw J
end TR
end
set_option Elab.async false
open PySem PySem.W PySem.W.X PySem.W.ZRun PyProof.Rows
set_option maxRecDepth 100000 in
set_option maxHeartbeats 0 in
theorem PySem.Challenge.cw_tiltheap_k07_fewest_tilts_holds : PySem.Challenge.rw_tiltheap_k07_fewest_tilts.Holds := by
  w_on; o_law; z_head; (case hw => w_witness2)
  k_fill
  intro w s₀ s₁ mg mb G y fa o pm cd doc dV kV ho hd hcd hD hmg hg args vals as L hpre hlay hrd hwl hlo
  z_open y L KX ZH ZN ZT
  have hmg' : mg (PySem.Str.ofString "law") = some (Value.ref fa) := hmg
  clear y ZH ZN hlay hrd hlo hd hcd hD ho hmg
  refine' TK.end_nkT (k := 11) (cs := [(_, _), (_, _), (_, _), (_, _)]) (l := PySem.Challenge.rw_tiltheap_k07_fewest_tilts) ⟨rfl, by decide, by decide⟩ (fun a ns H hT hS => ⟨a, ns, rfl, hS, TK.tabs_all ["fewest_to_place.<locals>.<lambda>", "fewest_to_meet.<locals>.<lambda>", "fewest_to_tray.<locals>.<lambda>", "_law_are_rejected.<locals>.<lambda>"] hT rfl, fun _ => rfl⟩) rfl (TK.lessT_in (ts := [?PPFp, ?PPFm, ?PPFt, ?PPRj]) KX) G.T.g G.T.b G.T.builtins G.T.nolimit hg G.T.bmain (TK.tabs_cons (n := "fewest_to_place") (q := "fewest_to_place") (st := TK.sFewestToPlace) (P := ?PPFp) KX ?taFp ?tlFp ?tvFp ?tpFp ?tzFp ?tHFp ?ttFp (TK.tabs_cons (n := "fewest_to_meet") (q := "fewest_to_meet") (st := TK.sFewestToMeet) (P := ?PPFm) KX ?taFm ?tlFm ?tvFm ?tpFm ?tzFm ?tHFm ?ttFm (TK.tabs_cons (n := "fewest_to_tray") (q := "fewest_to_tray") (st := TK.sFewestToTray) (P := ?PPFt) KX ?taFt ?tlFt ?tvFt ?tpFt ?tzFt ?tHFt ?ttFt (TK.tabs_cons (n := "_law_are_rejected") (q := "_law_are_rejected") (st := TK.sLawAreRejected) (P := ?PPRj) KX ?taRj ?tlRj ?tvRj ?tpRj ?tzRj ?tHRj ?ttRj TK.tabs_nil)))) L ZT ?hn hpre hwl (TR.all_mk (TK.lessT_in (ts := [?PPFp, ?PPFm, ?PPFt, ?PPRj]) KX) G.T.g hmg' ?aC ?pgC ?hdC ?poC ?saC ?mkC ?kcC ?rdC ?gaC ?aD ?pgD ?hdD ?poD ?saD ?mkD ?kcD ?rdD ?gaD ?cAR ?cAC ?cEM ?cLE ?cMS ?nT ?nR ?ih ?in_ ?itk ?im ?ihD ?imD ?mx ?b_len ?b_isinstance ?b_str ?b_enumerate ?b_set ?b_zip ?b_tuple ?b_int ?b_range ?b_min ?b_list ?b_bool ?b_sorted ?b_divmod ?b_super ?b_abs ?b_ValueError ?aIt ?lIt ?cIt ?kIt ?aFw ?lFw ?cFw ?kFw ?aWi ?iWi ?lWi ?cWi ?kWi ?pWt ?pgtWt ?ptkWt ?aWt ?lWt ?cWt ?kWt ?aTi ?iTi ?lTi ?cTi ?kTi ?pTo ?aTo ?fiTo ?lTo ?cTo ?kTo ?aRs ?iRs ?lRs ?cRs ?kRs ?aFc ?lFc ?cFc ?kFc ?aIr ?lIr ?cIr ?kIr ?aTd ?lTd ?cTd ?kTd ?aSl ?lSl ?cSl ?kSl ?pTr ?pgtTr ?ptkTr ?aTr ?lTr ?cTr ?kTr ?aTe ?iTe ?lTe ?cTe ?kTe ?pMb ?pgtMb ?ptkMb ?aMb ?lMb ?cMb ?kMb ?pWd ?pgtWd ?ptkWd ?aWd ?lWd ?cWd ?kWd ?pHt ?pgtHt ?ptkHt ?aHt ?lHt ?cHt ?kHt ?aTc ?iTc ?lTc ?cTc ?kTc ?aCl ?iCl ?lCl ?cCl ?kCl ?fnCl ?aNu ?lNu ?cNu ?kNu ?aPl ?lPl ?cPl ?kPl ?aCv ?lCv ?cCv ?kCv ?aAt ?iAt ?lAt ?cAt ?kAt ?aCm ?lCm ?cCm ?kCm ?sf ?nc ?nm ?n1 ?n2 ?n3 ?n4 ?aNx ?lNx ?cNx ?kNx ?aSw ?lSw ?cSw ?kSw ?aFy ?lFy ?cFy ?kFy ?aAn ?lAn ?cAn ?kAn ?aFp ?lFp ?cFp ?kFp ?aFm ?lFm ?cFm ?kFm ?aFt ?lFt ?cFt ?kFt ?aTk ?lTk ?cTk ?kTk ?aAl ?lAl ?cAl ?kAl ?aRa ?lRa ?cRa ?kRa ?aRw ?lRw ?cRw ?kRw ?aTl ?lTl ?cTl ?kTl ?aPs ?lPs ?cPs ?kPs ?aLv ?lLv ?cLv ?kLv ?aBs ?lBs ?cBs ?kBs ?aBe ?lBe ?cBe ?kBe ?aRj ?lRj ?cRj ?kRj ?aLw ?lLw ?cLw ?kLw ?ge2 ?xL2 ?xb2 ?xsa2 ?xex2 ?xty2 ?xk2 ?aIx2 ?tIx2 ?lIx2 ?cIx2 ?kx12 ?kx22 ?kx32 ?kx42 ?kx52 ?kx62 ?kx72 ?nI3 ?kx8 ?kx9 ?ge3 ?q3 ?k3 ?t3 ?hs_3 ?ge5 ?q5 ?k5 ?t5 ?hs_5 ?geT ?ge0 ?ge1 ?ge4 ?nI0 ?nI1 ?nI2 ?hg0 ?hk0 ?hs0 ?hd0 ?ha0 ?hm0 ?hv0 ?ht0 ?o00 ?o01 ?o02 ?o03 ?o04 ?o05 ?hg1 ?hk1 ?hs1 ?hd1 ?ha1 ?hm1 ?hv1 ?ht1 ?o10 ?o11 ?o12 ?o13 ?o14 ?o15 ?hg2 ?hk2 ?hs2 ?hd2 ?ha2 ?hm2 ?hv2 ?ht2 ?o20 ?o21 ?o22 ?o23 ?o24 ?o25 ?hg3 ?hk3 ?hs3 ?hd3 ?ha3 ?hm3 ?hv3 ?ht3 ?o30 ?o31 ?o32 ?o33 ?o34 ?o35 ?hg4 ?hk4 ?hs4 ?hd4 ?ha4 ?hm4 ?hv4 ?ht4 ?o40 ?o41 ?o42 ?o43 ?o44 ?o45 ?hg5 ?hk5 ?hs5 ?hd5 ?ha5 ?hm5 ?hv5 ?ht5 ?o50 ?o51 ?o52 ?o53 ?o54 ?o55 ?caO ?lO ?hO ?Ol ?Or ?Ou ?Od ?dFpFm ?dFpFt ?dFpRj ?dFmFt ?dFmRj ?dFtRj ?eAR ?eAC ?eEM ?eLE ?eMS ?eMX ?eOl ?eOr ?eOu ?eOd ?hDC ?h0)
  (case taFp => k_is)
  (case tlFp => k_is)
  (case tvFp => k_is)
  (case tpFp => rfl)
  (case tzFp => k_is)
  (case tHFp => kernel_rfl)
  (case taFm => k_is)
  (case tlFm => k_is)
  (case tvFm => k_is)
  (case tpFm => rfl)
  (case tzFm => k_is)
  (case tHFm => kernel_rfl)
  (case taFt => k_is)
  (case tlFt => k_is)
  (case tvFt => k_is)
  (case tpFt => rfl)
  (case tzFt => k_is)
  (case tHFt => kernel_rfl)
  (case taRj => k_is)
  (case tlRj => k_is)
  (case tvRj => k_is)
  (case tpRj => rfl)
  (case tzRj => k_is)
  (case tHRj => kernel_rfl)
  (case ttFp => first | rfl | decide)
  (case ttFm => first | rfl | decide)
  (case ttFt => first | rfl | decide)
  (case ttRj => first | rfl | decide)
  (case aC => exact TK.via KX (f := fun K => PySem.W.nsIn K mainGlobals "Word") (by k_is : PySem.W.nsIn _ mainGlobals "Word" = _) (by kernel_rfl))
  (case pgC => exact TK.via KX (f := fun K => PySem.W.plainGet K _ Str.empty) (by k_is : PySem.W.plainGet _ _ Str.empty = _) (by kernel_rfl))
  (case hdC => exact TK.via KX (f := fun K => PySem.W.hasDictIn K _) (by k_is : PySem.W.hasDictIn _ _ = _) (by kernel_rfl))
  (case poC => exact TK.via KX (f := fun K => PySem.W.plainOver K _) (by k_is : PySem.W.plainOver _ _ = _) (by kernel_rfl))
  (case saC => exact TK.via KX (f := fun K => PySem.W.findIn K (.ref _) "__setattr__") (by k_is : PySem.W.findIn _ (.ref _) "__setattr__" = _) (by kernel_rfl))
  (case mkC => exact TK.via KX (f := fun K => PySem.W.makesIn K _) (by k_is : PySem.W.makesIn _ _ = _) (by kernel_rfl))
  (case kcC => exact TK.via KX (f := fun K => PySem.W.keepIn K (.ref _)) (by k_is : PySem.W.keepIn _ (.ref _) = _) (by kernel_rfl))
  (case rdC => exact TK.via KX (f := fun K => PySem.W.readsIn K _ (.type "type")) (by k_is : PySem.W.readsIn _ _ (.type "type") = _) (by kernel_rfl))
  (case gaC => exact TK.via KX (f := fun K => PySem.W.specialIn K (.ref _) "__getattribute__") (by k_is : PySem.W.specialIn _ (.ref _) "__getattribute__" = _) (by kernel_rfl))
  (case aD => exact TK.via KX (f := fun K => PySem.W.nsIn K mainGlobals "Tray") (by k_is : PySem.W.nsIn _ mainGlobals "Tray" = _) (by kernel_rfl))
  (case pgD => exact TK.via KX (f := fun K => PySem.W.plainGet K _ Str.empty) (by k_is : PySem.W.plainGet _ _ Str.empty = _) (by kernel_rfl))
  (case hdD => exact TK.via KX (f := fun K => PySem.W.hasDictIn K _) (by k_is : PySem.W.hasDictIn _ _ = _) (by kernel_rfl))
  (case poD => exact TK.via KX (f := fun K => PySem.W.plainOver K _) (by k_is : PySem.W.plainOver _ _ = _) (by kernel_rfl))
  (case saD => exact TK.via KX (f := fun K => PySem.W.findIn K (.ref _) "__setattr__") (by k_is : PySem.W.findIn _ (.ref _) "__setattr__" = _) (by kernel_rfl))
  (case mkD => exact TK.via KX (f := fun K => PySem.W.makesIn K _) (by k_is : PySem.W.makesIn _ _ = _) (by kernel_rfl))
  (case kcD => exact TK.via KX (f := fun K => PySem.W.keepIn K (.ref _)) (by k_is : PySem.W.keepIn _ (.ref _) = _) (by kernel_rfl))
  (case rdD => exact TK.via KX (f := fun K => PySem.W.readsIn K _ (.type "type")) (by k_is : PySem.W.readsIn _ _ (.type "type") = _) (by kernel_rfl))
  (case gaD => exact TK.via KX (f := fun K => PySem.W.specialIn K (.ref _) "__getattribute__") (by k_is : PySem.W.specialIn _ (.ref _) "__getattribute__" = _) (by kernel_rfl))
  (case cAR => exact TK.via KX (f := fun K => PySem.W.nsIn K mainGlobals "ALONG_ROWS") (by k_is : PySem.W.nsIn _ mainGlobals "ALONG_ROWS" = _) (by kernel_rfl))
  (case cAC => exact TK.via KX (f := fun K => PySem.W.nsIn K mainGlobals "ALONG_COLUMNS") (by k_is : PySem.W.nsIn _ mainGlobals "ALONG_COLUMNS" = _) (by kernel_rfl))
  (case cEM => exact TK.via KX (f := fun K => PySem.W.nsIn K mainGlobals "EMPTY") (by k_is : PySem.W.nsIn _ mainGlobals "EMPTY" = _) (by kernel_rfl))
  (case cLE => exact TK.via KX (f := fun K => PySem.W.nsIn K mainGlobals "LETTERS") (by k_is : PySem.W.nsIn _ mainGlobals "LETTERS" = _) (by kernel_rfl))
  (case cMS => exact TK.via KX (f := fun K => PySem.W.nsIn K mainGlobals "MAX_SIDE") (by k_is : PySem.W.nsIn _ mainGlobals "MAX_SIDE" = _) (by kernel_rfl))
  (case nT => exact TK.via KX (f := fun K => PySem.W.findIn K (.ref _) "_text") (by k_is : PySem.W.findIn _ (.ref _) "_text" = _) (by kernel_rfl))
  (case nR => exact TK.via KX (f := fun K => PySem.W.findIn K (.ref _) "_rows") (by k_is : PySem.W.findIn _ (.ref _) "_rows" = _) (by kernel_rfl))
  (case ih => exact TK.via KX (f := fun K => PySem.W.findIn K (.ref _) "__class__") (by k_is : PySem.W.findIn _ (.ref _) "__class__" = _) (by kernel_rfl))
  (case in_ => exact TK.via KX (f := fun K => PySem.W.specialIn K (.builtin "object.__class__") "__get__") (by k_is : PySem.W.specialIn _ (.builtin "object.__class__") "__get__" = _) (by kernel_rfl))
  (case itk => exact TK.via KX (f := fun K => PySem.W.takesIn K (.builtin "object.__class__")) (by k_is : PySem.W.takesIn _ (.builtin "object.__class__") = _) (by kernel_rfl))
  (case im => exact TK.via KX (f := fun K => PySem.W.mroIn K _ (.type "object")) (by k_is : PySem.W.mroIn _ _ (.type "object") = _) (by kernel_rfl))
  (case ihD => exact TK.via KX (f := fun K => PySem.W.findIn K (.ref _) "__class__") (by k_is : PySem.W.findIn _ (.ref _) "__class__" = _) (by kernel_rfl))
  (case imD => exact TK.via KX (f := fun K => PySem.W.mroIn K _ (.type "object")) (by k_is : PySem.W.mroIn _ _ (.type "object") = _) (by kernel_rfl))
  (case mx => exact TK.via KX (f := fun K => PySem.W.findCls K (.ref _) (.type "type") "MAX_TILTS") (by k_is : PySem.W.findCls _ (.ref _) (.type "type") "MAX_TILTS" = _) (by kernel_rfl))
  (case b_len => exact TK.via KX (f := fun K => PySem.W.nsIn K mainGlobals "len") (by k_is : PySem.W.nsIn _ mainGlobals "len" = _) (by kernel_rfl))
  (case b_isinstance => exact TK.via KX (f := fun K => PySem.W.nsIn K mainGlobals "isinstance") (by k_is : PySem.W.nsIn _ mainGlobals "isinstance" = _) (by kernel_rfl))
  (case b_str => exact TK.via KX (f := fun K => PySem.W.nsIn K mainGlobals "str") (by k_is : PySem.W.nsIn _ mainGlobals "str" = _) (by kernel_rfl))
  (case b_enumerate => exact TK.via KX (f := fun K => PySem.W.nsIn K mainGlobals "enumerate") (by k_is : PySem.W.nsIn _ mainGlobals "enumerate" = _) (by kernel_rfl))
  (case b_set => exact TK.via KX (f := fun K => PySem.W.nsIn K mainGlobals "set") (by k_is : PySem.W.nsIn _ mainGlobals "set" = _) (by kernel_rfl))
  (case b_zip => exact TK.via KX (f := fun K => PySem.W.nsIn K mainGlobals "zip") (by k_is : PySem.W.nsIn _ mainGlobals "zip" = _) (by kernel_rfl))
  (case b_tuple => exact TK.via KX (f := fun K => PySem.W.nsIn K mainGlobals "tuple") (by k_is : PySem.W.nsIn _ mainGlobals "tuple" = _) (by kernel_rfl))
  (case b_int => exact TK.via KX (f := fun K => PySem.W.nsIn K mainGlobals "int") (by k_is : PySem.W.nsIn _ mainGlobals "int" = _) (by kernel_rfl))
  (case b_range => exact TK.via KX (f := fun K => PySem.W.nsIn K mainGlobals "range") (by k_is : PySem.W.nsIn _ mainGlobals "range" = _) (by kernel_rfl))
  (case b_min => exact TK.via KX (f := fun K => PySem.W.nsIn K mainGlobals "min") (by k_is : PySem.W.nsIn _ mainGlobals "min" = _) (by kernel_rfl))
  (case b_list => exact TK.via KX (f := fun K => PySem.W.nsIn K mainGlobals "list") (by k_is : PySem.W.nsIn _ mainGlobals "list" = _) (by kernel_rfl))
  (case b_bool => exact TK.via KX (f := fun K => PySem.W.nsIn K mainGlobals "bool") (by k_is : PySem.W.nsIn _ mainGlobals "bool" = _) (by kernel_rfl))
  (case b_sorted => exact TK.via KX (f := fun K => PySem.W.nsIn K mainGlobals "sorted") (by k_is : PySem.W.nsIn _ mainGlobals "sorted" = _) (by kernel_rfl))
  (case b_divmod => exact TK.via KX (f := fun K => PySem.W.nsIn K mainGlobals "divmod") (by k_is : PySem.W.nsIn _ mainGlobals "divmod" = _) (by kernel_rfl))
  (case b_super => exact TK.via KX (f := fun K => PySem.W.nsIn K mainGlobals "super") (by k_is : PySem.W.nsIn _ mainGlobals "super" = _) (by kernel_rfl))
  (case b_abs => exact TK.via KX (f := fun K => PySem.W.nsIn K mainGlobals "abs") (by k_is : PySem.W.nsIn _ mainGlobals "abs" = _) (by kernel_rfl))
  (case b_ValueError => exact TK.via KX (f := fun K => PySem.W.nsIn K mainGlobals "ValueError") (by k_is : PySem.W.nsIn _ mainGlobals "ValueError" = _) (by kernel_rfl))
  (case aIt => exact TK.via KX (f := fun K => PySem.W.nsIn K mainGlobals "is_tilt") (by k_is : PySem.W.nsIn _ mainGlobals "is_tilt" = _) (by kernel_rfl))
  (case lIt => exact TK.via KX (f := fun K => K.lookup _) (by k_is : List.lookup _ _ = _) (by kernel_rfl))
  (case cIt => exact TK.via KX (f := fun K => PySem.W.codeIn K _ "is_tilt") (by k_is : PySem.W.codeIn _ _ "is_tilt" = _) (by kernel_rfl))
  (case kIt => exact TK.via KX (f := fun K => PySem.W.keepIn K (.ref _)) (by k_is : PySem.W.keepIn _ (.ref _) = _) (by kernel_rfl))
  (case aFw => exact TK.via KX (f := fun K => PySem.W.nsIn K mainGlobals "_first_wrong_index") (by k_is : PySem.W.nsIn _ mainGlobals "_first_wrong_index" = _) (by kernel_rfl))
  (case lFw => exact TK.via KX (f := fun K => K.lookup _) (by k_is : List.lookup _ _ = _) (by kernel_rfl))
  (case cFw => exact TK.via KX (f := fun K => PySem.W.codeIn K _ "_first_wrong_index") (by k_is : PySem.W.codeIn _ _ "_first_wrong_index" = _) (by kernel_rfl))
  (case kFw => exact TK.via KX (f := fun K => PySem.W.keepIn K (.ref _)) (by k_is : PySem.W.keepIn _ (.ref _) = _) (by kernel_rfl))
  (case aWi => exact TK.via KX (f := fun K => PySem.W.findIn K (.ref _) "__init__") (by k_is : PySem.W.findIn _ (.ref _) "__init__" = _) (by kernel_rfl))
  (case iWi => exact TK.via KX (f := fun K => PySem.W.isFn K (.ref _)) (by k_is : PySem.W.isFn _ (.ref _) = _) (by kernel_rfl))
  (case lWi => exact TK.via KX (f := fun K => K.lookup _) (by k_is : List.lookup _ _ = _) (by kernel_rfl))
  (case cWi => exact TK.via KX (f := fun K => PySem.W.codeIn K _ "Word.__init__") (by k_is : PySem.W.codeIn _ _ "Word.__init__" = _) (by kernel_rfl))
  (case kWi => exact TK.via KX (f := fun K => PySem.W.keepIn K (.ref _)) (by k_is : PySem.W.keepIn _ (.ref _) = _) (by kernel_rfl))
  (case pWt => exact TK.via KX (f := fun K => PySem.W.findIn K (.ref _) "text") (by k_is : PySem.W.findIn _ (.ref _) "text" = _) (by kernel_rfl))
  (case pgtWt => exact TK.via KX (f := fun K => PySem.W.specialIn K (.ref _) "__get__") (by k_is : PySem.W.specialIn _ (.ref _) "__get__" = _) (by kernel_rfl))
  (case ptkWt => exact TK.via KX (f := fun K => PySem.W.takesIn K (.ref _)) (by k_is : PySem.W.takesIn _ (.ref _) = _) (by kernel_rfl))
  (case aWt => exact TK.via KX (f := fun K => PySem.W.recIn K _ "property") (by k_is : PySem.W.recIn _ _ "property" = _) (by kernel_rfl))
  (case lWt => exact TK.via KX (f := fun K => K.lookup _) (by k_is : List.lookup _ _ = _) (by kernel_rfl))
  (case cWt => exact TK.via KX (f := fun K => PySem.W.codeIn K _ "Word.text") (by k_is : PySem.W.codeIn _ _ "Word.text" = _) (by kernel_rfl))
  (case kWt => exact TK.via KX (f := fun K => PySem.W.keepIn K (.ref _)) (by k_is : PySem.W.keepIn _ (.ref _) = _) (by kernel_rfl))
  (case aTi => exact TK.via KX (f := fun K => PySem.W.findIn K (.ref _) "__init__") (by k_is : PySem.W.findIn _ (.ref _) "__init__" = _) (by kernel_rfl))
  (case iTi => exact TK.via KX (f := fun K => PySem.W.isFn K (.ref _)) (by k_is : PySem.W.isFn _ (.ref _) = _) (by kernel_rfl))
  (case lTi => exact TK.via KX (f := fun K => K.lookup _) (by k_is : List.lookup _ _ = _) (by kernel_rfl))
  (case cTi => exact TK.via KX (f := fun K => PySem.W.codeIn K _ "Tray.__init__") (by k_is : PySem.W.codeIn _ _ "Tray.__init__" = _) (by kernel_rfl))
  (case kTi => exact TK.via KX (f := fun K => PySem.W.keepIn K (.ref _)) (by k_is : PySem.W.keepIn _ (.ref _) = _) (by kernel_rfl))
  (case pTo => exact TK.via KX (f := fun K => PySem.W.findCls K (.ref _) (.type "type") "of_text") (by k_is : PySem.W.findCls _ (.ref _) (.type "type") "of_text" = _) (by kernel_rfl))
  (case aTo => exact TK.via KX (f := fun K => PySem.W.recIn K _ "classmethod") (by k_is : PySem.W.recIn _ _ "classmethod" = _) (by kernel_rfl))
  (case fiTo => exact TK.via KX (f := fun K => PySem.W.fnIn K _) (by k_is : PySem.W.fnIn _ _ = _) (by kernel_rfl))
  (case lTo => exact TK.via KX (f := fun K => K.lookup _) (by k_is : List.lookup _ _ = _) (by kernel_rfl))
  (case cTo => exact TK.via KX (f := fun K => PySem.W.codeIn K _ "Tray.of_text") (by k_is : PySem.W.codeIn _ _ "Tray.of_text" = _) (by kernel_rfl))
  (case kTo => exact TK.via KX (f := fun K => PySem.W.keepIn K (.ref _)) (by k_is : PySem.W.keepIn _ (.ref _) = _) (by kernel_rfl))
  (case aRs => exact TK.via KX (f := fun K => PySem.W.findIn K (.ref _) "__rshift__") (by k_is : PySem.W.findIn _ (.ref _) "__rshift__" = _) (by kernel_rfl))
  (case iRs => exact TK.via KX (f := fun K => PySem.W.isFn K (.ref _)) (by k_is : PySem.W.isFn _ (.ref _) = _) (by kernel_rfl))
  (case lRs => exact TK.via KX (f := fun K => K.lookup _) (by k_is : List.lookup _ _ = _) (by kernel_rfl))
  (case cRs => exact TK.via KX (f := fun K => PySem.W.codeIn K _ "Tray.__rshift__") (by k_is : PySem.W.codeIn _ _ "Tray.__rshift__" = _) (by kernel_rfl))
  (case kRs => exact TK.via KX (f := fun K => PySem.W.keepIn K (.ref _)) (by k_is : PySem.W.keepIn _ (.ref _) = _) (by kernel_rfl))
  (case aFc => exact TK.via KX (f := fun K => PySem.W.nsIn K mainGlobals "_first_wrong_cell") (by k_is : PySem.W.nsIn _ mainGlobals "_first_wrong_cell" = _) (by kernel_rfl))
  (case lFc => exact TK.via KX (f := fun K => K.lookup _) (by k_is : List.lookup _ _ = _) (by kernel_rfl))
  (case cFc => exact TK.via KX (f := fun K => PySem.W.codeIn K _ "_first_wrong_cell") (by k_is : PySem.W.codeIn _ _ "_first_wrong_cell" = _) (by kernel_rfl))
  (case kFc => exact TK.via KX (f := fun K => PySem.W.keepIn K (.ref _)) (by k_is : PySem.W.keepIn _ (.ref _) = _) (by kernel_rfl))
  (case aIr => exact TK.via KX (f := fun K => PySem.W.nsIn K mainGlobals "_is_row") (by k_is : PySem.W.nsIn _ mainGlobals "_is_row" = _) (by kernel_rfl))
  (case lIr => exact TK.via KX (f := fun K => K.lookup _) (by k_is : List.lookup _ _ = _) (by kernel_rfl))
  (case cIr => exact TK.via KX (f := fun K => PySem.W.codeIn K _ "_is_row") (by k_is : PySem.W.codeIn _ _ "_is_row" = _) (by kernel_rfl))
  (case kIr => exact TK.via KX (f := fun K => PySem.W.keepIn K (.ref _)) (by k_is : PySem.W.keepIn _ (.ref _) = _) (by kernel_rfl))
  (case aTd => exact TK.via KX (f := fun K => PySem.W.nsIn K mainGlobals "_tilted") (by k_is : PySem.W.nsIn _ mainGlobals "_tilted" = _) (by kernel_rfl))
  (case lTd => exact TK.via KX (f := fun K => K.lookup _) (by k_is : List.lookup _ _ = _) (by kernel_rfl))
  (case cTd => exact TK.via KX (f := fun K => PySem.W.codeIn K _ "_tilted") (by k_is : PySem.W.codeIn _ _ "_tilted" = _) (by kernel_rfl))
  (case kTd => exact TK.via KX (f := fun K => PySem.W.keepIn K (.ref _)) (by k_is : PySem.W.keepIn _ (.ref _) = _) (by kernel_rfl))
  (case aSl => exact TK.via KX (f := fun K => PySem.W.nsIn K mainGlobals "_slid") (by k_is : PySem.W.nsIn _ mainGlobals "_slid" = _) (by kernel_rfl))
  (case lSl => exact TK.via KX (f := fun K => K.lookup _) (by k_is : List.lookup _ _ = _) (by kernel_rfl))
  (case cSl => exact TK.via KX (f := fun K => PySem.W.codeIn K _ "_slid") (by k_is : PySem.W.codeIn _ _ "_slid" = _) (by kernel_rfl))
  (case kSl => exact TK.via KX (f := fun K => PySem.W.keepIn K (.ref _)) (by k_is : PySem.W.keepIn _ (.ref _) = _) (by kernel_rfl))
  (case pTr => exact TK.via KX (f := fun K => PySem.W.findIn K (.ref _) "rows") (by k_is : PySem.W.findIn _ (.ref _) "rows" = _) (by kernel_rfl))
  (case pgtTr => exact TK.via KX (f := fun K => PySem.W.specialIn K (.ref _) "__get__") (by k_is : PySem.W.specialIn _ (.ref _) "__get__" = _) (by kernel_rfl))
  (case ptkTr => exact TK.via KX (f := fun K => PySem.W.takesIn K (.ref _)) (by k_is : PySem.W.takesIn _ (.ref _) = _) (by kernel_rfl))
  (case aTr => exact TK.via KX (f := fun K => PySem.W.recIn K _ "property") (by k_is : PySem.W.recIn _ _ "property" = _) (by kernel_rfl))
  (case lTr => exact TK.via KX (f := fun K => K.lookup _) (by k_is : List.lookup _ _ = _) (by kernel_rfl))
  (case cTr => exact TK.via KX (f := fun K => PySem.W.codeIn K _ "Tray.rows") (by k_is : PySem.W.codeIn _ _ "Tray.rows" = _) (by kernel_rfl))
  (case kTr => exact TK.via KX (f := fun K => PySem.W.keepIn K (.ref _)) (by k_is : PySem.W.keepIn _ (.ref _) = _) (by kernel_rfl))
  (case aTe => exact TK.via KX (f := fun K => PySem.W.findIn K (.ref _) "__eq__") (by k_is : PySem.W.findIn _ (.ref _) "__eq__" = _) (by kernel_rfl))
  (case iTe => exact TK.via KX (f := fun K => PySem.W.isFn K (.ref _)) (by k_is : PySem.W.isFn _ (.ref _) = _) (by kernel_rfl))
  (case lTe => exact TK.via KX (f := fun K => K.lookup _) (by k_is : List.lookup _ _ = _) (by kernel_rfl))
  (case cTe => exact TK.via KX (f := fun K => PySem.W.codeIn K _ "Tray.__eq__") (by k_is : PySem.W.codeIn _ _ "Tray.__eq__" = _) (by kernel_rfl))
  (case kTe => exact TK.via KX (f := fun K => PySem.W.keepIn K (.ref _)) (by k_is : PySem.W.keepIn _ (.ref _) = _) (by kernel_rfl))
  (case pMb => exact TK.via KX (f := fun K => PySem.W.findIn K (.ref _) "marbles") (by k_is : PySem.W.findIn _ (.ref _) "marbles" = _) (by kernel_rfl))
  (case pgtMb => exact TK.via KX (f := fun K => PySem.W.specialIn K (.ref _) "__get__") (by k_is : PySem.W.specialIn _ (.ref _) "__get__" = _) (by kernel_rfl))
  (case ptkMb => exact TK.via KX (f := fun K => PySem.W.takesIn K (.ref _)) (by k_is : PySem.W.takesIn _ (.ref _) = _) (by kernel_rfl))
  (case aMb => exact TK.via KX (f := fun K => PySem.W.recIn K _ "property") (by k_is : PySem.W.recIn _ _ "property" = _) (by kernel_rfl))
  (case lMb => exact TK.via KX (f := fun K => K.lookup _) (by k_is : List.lookup _ _ = _) (by kernel_rfl))
  (case cMb => exact TK.via KX (f := fun K => PySem.W.codeIn K _ "Tray.marbles") (by k_is : PySem.W.codeIn _ _ "Tray.marbles" = _) (by kernel_rfl))
  (case kMb => exact TK.via KX (f := fun K => PySem.W.keepIn K (.ref _)) (by k_is : PySem.W.keepIn _ (.ref _) = _) (by kernel_rfl))
  (case pWd => exact TK.via KX (f := fun K => PySem.W.findIn K (.ref _) "width") (by k_is : PySem.W.findIn _ (.ref _) "width" = _) (by kernel_rfl))
  (case pgtWd => exact TK.via KX (f := fun K => PySem.W.specialIn K (.ref _) "__get__") (by k_is : PySem.W.specialIn _ (.ref _) "__get__" = _) (by kernel_rfl))
  (case ptkWd => exact TK.via KX (f := fun K => PySem.W.takesIn K (.ref _)) (by k_is : PySem.W.takesIn _ (.ref _) = _) (by kernel_rfl))
  (case aWd => exact TK.via KX (f := fun K => PySem.W.recIn K _ "property") (by k_is : PySem.W.recIn _ _ "property" = _) (by kernel_rfl))
  (case lWd => exact TK.via KX (f := fun K => K.lookup _) (by k_is : List.lookup _ _ = _) (by kernel_rfl))
  (case cWd => exact TK.via KX (f := fun K => PySem.W.codeIn K _ "Tray.width") (by k_is : PySem.W.codeIn _ _ "Tray.width" = _) (by kernel_rfl))
  (case kWd => exact TK.via KX (f := fun K => PySem.W.keepIn K (.ref _)) (by k_is : PySem.W.keepIn _ (.ref _) = _) (by kernel_rfl))
  (case pHt => exact TK.via KX (f := fun K => PySem.W.findIn K (.ref _) "height") (by k_is : PySem.W.findIn _ (.ref _) "height" = _) (by kernel_rfl))
  (case pgtHt => exact TK.via KX (f := fun K => PySem.W.specialIn K (.ref _) "__get__") (by k_is : PySem.W.specialIn _ (.ref _) "__get__" = _) (by kernel_rfl))
  (case ptkHt => exact TK.via KX (f := fun K => PySem.W.takesIn K (.ref _)) (by k_is : PySem.W.takesIn _ (.ref _) = _) (by kernel_rfl))
  (case aHt => exact TK.via KX (f := fun K => PySem.W.recIn K _ "property") (by k_is : PySem.W.recIn _ _ "property" = _) (by kernel_rfl))
  (case lHt => exact TK.via KX (f := fun K => K.lookup _) (by k_is : List.lookup _ _ = _) (by kernel_rfl))
  (case cHt => exact TK.via KX (f := fun K => PySem.W.codeIn K _ "Tray.height") (by k_is : PySem.W.codeIn _ _ "Tray.height" = _) (by kernel_rfl))
  (case kHt => exact TK.via KX (f := fun K => PySem.W.keepIn K (.ref _)) (by k_is : PySem.W.keepIn _ (.ref _) = _) (by kernel_rfl))
  (case aTc => exact TK.via KX (f := fun K => PySem.W.findIn K (.ref _) "__contains__") (by k_is : PySem.W.findIn _ (.ref _) "__contains__" = _) (by kernel_rfl))
  (case iTc => exact TK.via KX (f := fun K => PySem.W.isFn K (.ref _)) (by k_is : PySem.W.isFn _ (.ref _) = _) (by kernel_rfl))
  (case lTc => exact TK.via KX (f := fun K => K.lookup _) (by k_is : List.lookup _ _ = _) (by kernel_rfl))
  (case cTc => exact TK.via KX (f := fun K => PySem.W.codeIn K _ "Tray.__contains__") (by k_is : PySem.W.codeIn _ _ "Tray.__contains__" = _) (by kernel_rfl))
  (case kTc => exact TK.via KX (f := fun K => PySem.W.keepIn K (.ref _)) (by k_is : PySem.W.keepIn _ (.ref _) = _) (by kernel_rfl))
  (case aCl => exact TK.via KX (f := fun K => PySem.W.findIn K (.ref _) "__call__") (by k_is : PySem.W.findIn _ (.ref _) "__call__" = _) (by kernel_rfl))
  (case iCl => exact TK.via KX (f := fun K => PySem.W.isFn K (.ref _)) (by k_is : PySem.W.isFn _ (.ref _) = _) (by kernel_rfl))
  (case lCl => exact TK.via KX (f := fun K => K.lookup _) (by k_is : List.lookup _ _ = _) (by kernel_rfl))
  (case cCl => exact TK.via KX (f := fun K => PySem.W.codeIn K _ "Tray.__call__") (by k_is : PySem.W.codeIn _ _ "Tray.__call__" = _) (by kernel_rfl))
  (case kCl => exact TK.via KX (f := fun K => PySem.W.keepIn K (.ref _)) (by k_is : PySem.W.keepIn _ (.ref _) = _) (by kernel_rfl))
  (case fnCl => exact TK.via KX (f := fun K => PySem.W.fnIn K _) (by k_is : PySem.W.fnIn _ _ = _) (by kernel_rfl))
  (case aNu => exact TK.via KX (f := fun K => PySem.W.nsIn K mainGlobals "is_number") (by k_is : PySem.W.nsIn _ mainGlobals "is_number" = _) (by kernel_rfl))
  (case lNu => exact TK.via KX (f := fun K => K.lookup _) (by k_is : List.lookup _ _ = _) (by kernel_rfl))
  (case cNu => exact TK.via KX (f := fun K => PySem.W.codeIn K _ "is_number") (by k_is : PySem.W.codeIn _ _ "is_number" = _) (by kernel_rfl))
  (case kNu => exact TK.via KX (f := fun K => PySem.W.keepIn K (.ref _)) (by k_is : PySem.W.keepIn _ (.ref _) = _) (by kernel_rfl))
  (case aPl => exact TK.via KX (f := fun K => PySem.W.nsIn K mainGlobals "is_place") (by k_is : PySem.W.nsIn _ mainGlobals "is_place" = _) (by kernel_rfl))
  (case lPl => exact TK.via KX (f := fun K => K.lookup _) (by k_is : List.lookup _ _ = _) (by kernel_rfl))
  (case cPl => exact TK.via KX (f := fun K => PySem.W.codeIn K _ "is_place") (by k_is : PySem.W.codeIn _ _ "is_place" = _) (by kernel_rfl))
  (case kPl => exact TK.via KX (f := fun K => PySem.W.keepIn K (.ref _)) (by k_is : PySem.W.keepIn _ (.ref _) = _) (by kernel_rfl))
  (case aCv => exact TK.via KX (f := fun K => PySem.W.nsIn K mainGlobals "check_place") (by k_is : PySem.W.nsIn _ mainGlobals "check_place" = _) (by kernel_rfl))
  (case lCv => exact TK.via KX (f := fun K => K.lookup _) (by k_is : List.lookup _ _ = _) (by kernel_rfl))
  (case cCv => exact TK.via KX (f := fun K => PySem.W.codeIn K _ "check_place") (by k_is : PySem.W.codeIn _ _ "check_place" = _) (by kernel_rfl))
  (case kCv => exact TK.via KX (f := fun K => PySem.W.keepIn K (.ref _)) (by k_is : PySem.W.keepIn _ (.ref _) = _) (by kernel_rfl))
  (case aAt => exact TK.via KX (f := fun K => PySem.W.findIn K (.ref _) "at") (by k_is : PySem.W.findIn _ (.ref _) "at" = _) (by kernel_rfl))
  (case iAt => exact TK.via KX (f := fun K => PySem.W.isFn K (.ref _)) (by k_is : PySem.W.isFn _ (.ref _) = _) (by kernel_rfl))
  (case lAt => exact TK.via KX (f := fun K => K.lookup _) (by k_is : List.lookup _ _ = _) (by kernel_rfl))
  (case cAt => exact TK.via KX (f := fun K => PySem.W.codeIn K _ "Tray.at") (by k_is : PySem.W.codeIn _ _ "Tray.at" = _) (by kernel_rfl))
  (case kAt => exact TK.via KX (f := fun K => PySem.W.keepIn K (.ref _)) (by k_is : PySem.W.keepIn _ (.ref _) = _) (by kernel_rfl))
  (case aCm => exact TK.via KX (f := fun K => PySem.W.nsIn K mainGlobals "check_marble") (by k_is : PySem.W.nsIn _ mainGlobals "check_marble" = _) (by kernel_rfl))
  (case lCm => exact TK.via KX (f := fun K => K.lookup _) (by k_is : List.lookup _ _ = _) (by kernel_rfl))
  (case cCm => exact TK.via KX (f := fun K => PySem.W.codeIn K _ "check_marble") (by k_is : PySem.W.codeIn _ _ "check_marble" = _) (by kernel_rfl))
  (case kCm => exact TK.via KX (f := fun K => PySem.W.keepIn K (.ref _)) (by k_is : PySem.W.keepIn _ (.ref _) = _) (by kernel_rfl))
  (case sf => exact TK.via KX (f := fun K => PySem.W.selfFirst K _) (by k_is : PySem.W.selfFirst _ _ = _) (by kernel_rfl))
  (case nc => exact TK.via KX (f := fun K => PySem.W.clsIn K _) (by k_is : PySem.W.clsIn _ _ = _) (by kernel_rfl))
  (case nm => rfl)
  (case n1 => exact TK.via KX (f := fun K => PySem.W.findIn K (.ref _) "__rshift__") (by k_is : PySem.W.findIn _ (.ref _) "__rshift__" = _) (by kernel_rfl))
  (case n2 => exact TK.via KX (f := fun K => PySem.W.findIn K (.ref _) "__rrshift__") (by k_is : PySem.W.findIn _ (.ref _) "__rrshift__" = _) (by kernel_rfl))
  (case n3 => exact TK.via KX (f := fun K => PySem.W.findIn K (.type "object") "__rshift__") (by k_is : PySem.W.findIn _ (.type "object") "__rshift__" = _) (by kernel_rfl))
  (case n4 => exact TK.via KX (f := fun K => PySem.W.findIn K (.type "object") "__rrshift__") (by k_is : PySem.W.findIn _ (.type "object") "__rrshift__" = _) (by kernel_rfl))
  (case aNx => exact TK.via KX (f := fun K => PySem.W.nsIn K mainGlobals "_next_tilts") (by k_is : PySem.W.nsIn _ mainGlobals "_next_tilts" = _) (by kernel_rfl))
  (case lNx => exact TK.via KX (f := fun K => K.lookup _) (by k_is : List.lookup _ _ = _) (by kernel_rfl))
  (case cNx => exact TK.via KX (f := fun K => PySem.W.codeIn K _ "_next_tilts") (by k_is : PySem.W.codeIn _ _ "_next_tilts" = _) (by kernel_rfl))
  (case kNx => exact TK.via KX (f := fun K => PySem.W.keepIn K (.ref _)) (by k_is : PySem.W.keepIn _ (.ref _) = _) (by kernel_rfl))
  (case aSw => exact TK.via KX (f := fun K => PySem.W.nsIn K mainGlobals "_shortest_ways") (by k_is : PySem.W.nsIn _ mainGlobals "_shortest_ways" = _) (by kernel_rfl))
  (case lSw => exact TK.via KX (f := fun K => K.lookup _) (by k_is : List.lookup _ _ = _) (by kernel_rfl))
  (case cSw => exact TK.via KX (f := fun K => PySem.W.codeIn K _ "_shortest_ways") (by k_is : PySem.W.codeIn _ _ "_shortest_ways" = _) (by kernel_rfl))
  (case kSw => exact TK.via KX (f := fun K => PySem.W.keepIn K (.ref _)) (by k_is : PySem.W.keepIn _ (.ref _) = _) (by kernel_rfl))
  (case aFy => exact TK.via KX (f := fun K => PySem.W.nsIn K mainGlobals "_first_way") (by k_is : PySem.W.nsIn _ mainGlobals "_first_way" = _) (by kernel_rfl))
  (case lFy => exact TK.via KX (f := fun K => K.lookup _) (by k_is : List.lookup _ _ = _) (by kernel_rfl))
  (case cFy => exact TK.via KX (f := fun K => PySem.W.codeIn K _ "_first_way") (by k_is : PySem.W.codeIn _ _ "_first_way" = _) (by kernel_rfl))
  (case kFy => exact TK.via KX (f := fun K => PySem.W.keepIn K (.ref _)) (by k_is : PySem.W.keepIn _ (.ref _) = _) (by kernel_rfl))
  (case aAn => exact TK.via KX (f := fun K => PySem.W.nsIn K mainGlobals "_are_neighbours") (by k_is : PySem.W.nsIn _ mainGlobals "_are_neighbours" = _) (by kernel_rfl))
  (case lAn => exact TK.via KX (f := fun K => K.lookup _) (by k_is : List.lookup _ _ = _) (by kernel_rfl))
  (case cAn => exact TK.via KX (f := fun K => PySem.W.codeIn K _ "_are_neighbours") (by k_is : PySem.W.codeIn _ _ "_are_neighbours" = _) (by kernel_rfl))
  (case kAn => exact TK.via KX (f := fun K => PySem.W.keepIn K (.ref _)) (by k_is : PySem.W.keepIn _ (.ref _) = _) (by kernel_rfl))
  (case aFp => exact TK.via KX (f := fun K => PySem.W.nsIn K mainGlobals "fewest_to_place") (by k_is : PySem.W.nsIn _ mainGlobals "fewest_to_place" = _) (by kernel_rfl))
  (case lFp => exact TK.via KX (f := fun K => K.lookup _) (by k_is : List.lookup _ _ = _) (by kernel_rfl))
  (case cFp => exact TK.via KX (f := fun K => PySem.W.codeIn K (.ref _) "fewest_to_place") (by k_is : PySem.W.codeIn _ (.ref _) "fewest_to_place" = _) (by kernel_rfl))
  (case kFp => exact TK.via KX (f := fun K => PySem.W.keepIn K (.ref _)) (by k_is : PySem.W.keepIn _ (.ref _) = _) (by kernel_rfl))
  (case aFm => exact TK.via KX (f := fun K => PySem.W.nsIn K mainGlobals "fewest_to_meet") (by k_is : PySem.W.nsIn _ mainGlobals "fewest_to_meet" = _) (by kernel_rfl))
  (case lFm => exact TK.via KX (f := fun K => K.lookup _) (by k_is : List.lookup _ _ = _) (by kernel_rfl))
  (case cFm => exact TK.via KX (f := fun K => PySem.W.codeIn K (.ref _) "fewest_to_meet") (by k_is : PySem.W.codeIn _ (.ref _) "fewest_to_meet" = _) (by kernel_rfl))
  (case kFm => exact TK.via KX (f := fun K => PySem.W.keepIn K (.ref _)) (by k_is : PySem.W.keepIn _ (.ref _) = _) (by kernel_rfl))
  (case aFt => exact TK.via KX (f := fun K => PySem.W.nsIn K mainGlobals "fewest_to_tray") (by k_is : PySem.W.nsIn _ mainGlobals "fewest_to_tray" = _) (by kernel_rfl))
  (case lFt => exact TK.via KX (f := fun K => K.lookup _) (by k_is : List.lookup _ _ = _) (by kernel_rfl))
  (case cFt => exact TK.via KX (f := fun K => PySem.W.codeIn K (.ref _) "fewest_to_tray") (by k_is : PySem.W.codeIn _ (.ref _) "fewest_to_tray" = _) (by kernel_rfl))
  (case kFt => exact TK.via KX (f := fun K => PySem.W.keepIn K (.ref _)) (by k_is : PySem.W.keepIn _ (.ref _) = _) (by kernel_rfl))
  (case aTk => exact TK.via KX (f := fun K => PySem.W.nsIn K mainGlobals "_law_taken") (by k_is : PySem.W.nsIn _ mainGlobals "_law_taken" = _) (by kernel_rfl))
  (case lTk => exact TK.via KX (f := fun K => K.lookup _) (by k_is : List.lookup _ _ = _) (by kernel_rfl))
  (case cTk => exact TK.via KX (f := fun K => PySem.W.codeIn K _ "_law_taken") (by k_is : PySem.W.codeIn _ _ "_law_taken" = _) (by kernel_rfl))
  (case kTk => exact TK.via KX (f := fun K => PySem.W.keepIn K (.ref _)) (by k_is : PySem.W.keepIn _ (.ref _) = _) (by kernel_rfl))
  (case aAl => exact TK.via KX (f := fun K => PySem.W.nsIn K mainGlobals "_law_alike") (by k_is : PySem.W.nsIn _ mainGlobals "_law_alike" = _) (by kernel_rfl))
  (case lAl => exact TK.via KX (f := fun K => K.lookup _) (by k_is : List.lookup _ _ = _) (by kernel_rfl))
  (case cAl => exact TK.via KX (f := fun K => PySem.W.codeIn K _ "_law_alike") (by k_is : PySem.W.codeIn _ _ "_law_alike" = _) (by kernel_rfl))
  (case kAl => exact TK.via KX (f := fun K => PySem.W.keepIn K (.ref _)) (by k_is : PySem.W.keepIn _ (.ref _) = _) (by kernel_rfl))
  (case aRa => exact TK.via KX (f := fun K => PySem.W.nsIn K mainGlobals "_law_raised") (by k_is : PySem.W.nsIn _ mainGlobals "_law_raised" = _) (by kernel_rfl))
  (case lRa => exact TK.via KX (f := fun K => K.lookup _) (by k_is : List.lookup _ _ = _) (by kernel_rfl))
  (case cRa => exact TK.via KX (f := fun K => PySem.W.codeIn K _ "_law_raised") (by k_is : PySem.W.codeIn _ _ "_law_raised" = _) (by kernel_rfl))
  (case kRa => exact TK.via KX (f := fun K => PySem.W.keepIn K (.ref _)) (by k_is : PySem.W.keepIn _ (.ref _) = _) (by kernel_rfl))
  (case aRw => exact TK.via KX (f := fun K => PySem.W.nsIn K mainGlobals "_law_rows") (by k_is : PySem.W.nsIn _ mainGlobals "_law_rows" = _) (by kernel_rfl))
  (case lRw => exact TK.via KX (f := fun K => K.lookup _) (by k_is : List.lookup _ _ = _) (by kernel_rfl))
  (case cRw => exact TK.via KX (f := fun K => PySem.W.codeIn K _ "_law_rows") (by k_is : PySem.W.codeIn _ _ "_law_rows" = _) (by kernel_rfl))
  (case kRw => exact TK.via KX (f := fun K => PySem.W.keepIn K (.ref _)) (by k_is : PySem.W.keepIn _ (.ref _) = _) (by kernel_rfl))
  (case aTl => exact TK.via KX (f := fun K => PySem.W.nsIn K mainGlobals "_law_tilted") (by k_is : PySem.W.nsIn _ mainGlobals "_law_tilted" = _) (by kernel_rfl))
  (case lTl => exact TK.via KX (f := fun K => K.lookup _) (by k_is : List.lookup _ _ = _) (by kernel_rfl))
  (case cTl => exact TK.via KX (f := fun K => PySem.W.codeIn K _ "_law_tilted") (by k_is : PySem.W.codeIn _ _ "_law_tilted" = _) (by kernel_rfl))
  (case kTl => exact TK.via KX (f := fun K => PySem.W.keepIn K (.ref _)) (by k_is : PySem.W.keepIn _ (.ref _) = _) (by kernel_rfl))
  (case aPs => exact TK.via KX (f := fun K => PySem.W.nsIn K mainGlobals "_law_places") (by k_is : PySem.W.nsIn _ mainGlobals "_law_places" = _) (by kernel_rfl))
  (case lPs => exact TK.via KX (f := fun K => K.lookup _) (by k_is : List.lookup _ _ = _) (by kernel_rfl))
  (case cPs => exact TK.via KX (f := fun K => PySem.W.codeIn K _ "_law_places") (by k_is : PySem.W.codeIn _ _ "_law_places" = _) (by kernel_rfl))
  (case kPs => exact TK.via KX (f := fun K => PySem.W.keepIn K (.ref _)) (by k_is : PySem.W.keepIn _ (.ref _) = _) (by kernel_rfl))
  (case aLv => exact TK.via KX (f := fun K => PySem.W.nsIn K mainGlobals "_law_levels") (by k_is : PySem.W.nsIn _ mainGlobals "_law_levels" = _) (by kernel_rfl))
  (case lLv => exact TK.via KX (f := fun K => K.lookup _) (by k_is : List.lookup _ _ = _) (by kernel_rfl))
  (case cLv => exact TK.via KX (f := fun K => PySem.W.codeIn K _ "_law_levels") (by k_is : PySem.W.codeIn _ _ "_law_levels" = _) (by kernel_rfl))
  (case kLv => exact TK.via KX (f := fun K => PySem.W.keepIn K (.ref _)) (by k_is : PySem.W.keepIn _ (.ref _) = _) (by kernel_rfl))
  (case aBs => exact TK.via KX (f := fun K => PySem.W.nsIn K mainGlobals "_law_best") (by k_is : PySem.W.nsIn _ mainGlobals "_law_best" = _) (by kernel_rfl))
  (case lBs => exact TK.via KX (f := fun K => K.lookup _) (by k_is : List.lookup _ _ = _) (by kernel_rfl))
  (case cBs => exact TK.via KX (f := fun K => PySem.W.codeIn K _ "_law_best") (by k_is : PySem.W.codeIn _ _ "_law_best" = _) (by kernel_rfl))
  (case kBs => exact TK.via KX (f := fun K => PySem.W.keepIn K (.ref _)) (by k_is : PySem.W.keepIn _ (.ref _) = _) (by kernel_rfl))
  (case aBe => exact TK.via KX (f := fun K => PySem.W.nsIn K mainGlobals "_law_are_beside") (by k_is : PySem.W.nsIn _ mainGlobals "_law_are_beside" = _) (by kernel_rfl))
  (case lBe => exact TK.via KX (f := fun K => K.lookup _) (by k_is : List.lookup _ _ = _) (by kernel_rfl))
  (case cBe => exact TK.via KX (f := fun K => PySem.W.codeIn K _ "_law_are_beside") (by k_is : PySem.W.codeIn _ _ "_law_are_beside" = _) (by kernel_rfl))
  (case kBe => exact TK.via KX (f := fun K => PySem.W.keepIn K (.ref _)) (by k_is : PySem.W.keepIn _ (.ref _) = _) (by kernel_rfl))
  (case aRj => exact TK.via KX (f := fun K => PySem.W.nsIn K mainGlobals "_law_are_rejected") (by k_is : PySem.W.nsIn _ mainGlobals "_law_are_rejected" = _) (by kernel_rfl))
  (case lRj => exact TK.via KX (f := fun K => K.lookup _) (by k_is : List.lookup _ _ = _) (by kernel_rfl))
  (case cRj => exact TK.via KX (f := fun K => PySem.W.codeIn K (.ref _) "_law_are_rejected") (by k_is : PySem.W.codeIn _ (.ref _) "_law_are_rejected" = _) (by kernel_rfl))
  (case kRj => exact TK.via KX (f := fun K => PySem.W.keepIn K (.ref _)) (by k_is : PySem.W.keepIn _ (.ref _) = _) (by kernel_rfl))
  (case aLw => exact TK.via KX (f := fun K => PySem.W.nsIn K mainGlobals "law") (by k_is : PySem.W.nsIn _ mainGlobals "law" = _) (by kernel_rfl))
  (case lLw => exact TK.via KX (f := fun K => K.lookup _) (by k_is : List.lookup _ _ = _) (by kernel_rfl))
  (case cLw => exact TK.via KX (f := fun K => PySem.W.codeIn K _ "law") (by k_is : PySem.W.codeIn _ _ "law" = _) (by kernel_rfl))
  (case kLw => exact TK.via KX (f := fun K => PySem.W.keepIn K (.ref _)) (by k_is : PySem.W.keepIn _ (.ref _) = _) (by kernel_rfl))
  (case ge2 => exact TK.via KX (f := fun K => PySem.W.nsIn K mainGlobals "UnknownMarble") (by k_is : PySem.W.nsIn _ mainGlobals "UnknownMarble" = _) (by kernel_rfl))
  (case xL2 => exact TK.via KX (f := fun K => K.lookup _) (by k_is : List.lookup _ _ = _) (by kernel_rfl))
  (case xb2 => first | rfl | decide +kernel)
  (case xsa2 => exact TK.via KX (f := fun K => PySem.W.findIn K (.ref _) "__setattr__") (by k_is : PySem.W.findIn _ (.ref _) "__setattr__" = _) (by kernel_rfl))
  (case xex2 => exact TK.via KX (f := fun K => PySem.W.subIn K (.ref _) (.type "BaseException")) (by k_is : PySem.W.subIn _ (.ref _) (.type "BaseException") = _) (by kernel_rfl))
  (case xty2 => exact TK.via KX (f := fun K => PySem.W.typeIn K (.ref _)) (by k_is : PySem.W.typeIn _ (.ref _) = _) (by kernel_rfl))
  (case xk2 => exact TK.via KX (f := fun K => PySem.W.keepIn K (.ref _)) (by k_is : PySem.W.keepIn _ (.ref _) = _) (by kernel_rfl))
  (case aIx2 => exact TK.via KX (f := fun K => PySem.W.findIn K (.ref _) "__init__") (by k_is : PySem.W.findIn _ (.ref _) "__init__" = _) (by kernel_rfl))
  (case tIx2 => exact TK.via KX (f := fun K => PySem.W.typeIn K (.ref _)) (by k_is : PySem.W.typeIn _ (.ref _) = _) (by kernel_rfl))
  (case lIx2 => exact TK.via KX (f := fun K => K.lookup _) (by k_is : List.lookup _ _ = _) (by kernel_rfl))
  (case cIx2 => exact TK.via KX (f := fun K => PySem.W.codeIn K (.ref _) "UnknownMarble.__init__") (by k_is : PySem.W.codeIn _ (.ref _) "UnknownMarble.__init__" = _) (by kernel_rfl))
  (case kx12 => exact TK.via KX (f := fun K => K.lookup _) (by k_is : List.lookup _ _ = _) (by kernel_rfl))
  (case kx22 => rfl)
  (case kx32 => first | rfl | decide +kernel)
  (case kx42 => exact TK.via KX (f := fun K => K.lookup _) (by k_is : List.lookup _ _ = _) (by kernel_rfl))
  (case kx52 => exact TK.via KX (f := fun K => PySem.W.mroIn K _ (.ref _)) (by k_is : PySem.W.mroIn _ _ (.ref _) = _) (by kernel_rfl))
  (case kx62 => exact TK.via KX (f := fun K => PySem.W.ks_superIn K _ _ "__init__") (by kernel_rfl : PySem.W.ks_superIn _ _ _ "__init__" = _) (by kernel_rfl))
  (case kx72 => exact TK.via KX (f := fun K => PySem.W.subIn K (.ref _) (.type "ValueError")) (by k_is : PySem.W.subIn _ (.ref _) (.type "ValueError") = _) (by kernel_rfl))
  (case nI3 => exact TK.via KX (f := fun K => PySem.W.findIn K (.ref _) "marble") (by k_is : PySem.W.findIn _ (.ref _) "marble" = _) (by kernel_rfl))
  (case kx8 => exact TK.via KX (f := fun K => PySem.W.nsIn K cStatics "thirdparty.any") (by k_is : PySem.W.nsIn _ cStatics "thirdparty.any" = _) (by kernel_rfl))
  (case kx9 => first | rfl | decide +kernel)
  (case ge3 => exact TK.via KX (f := fun K => PySem.W.nsIn K mainGlobals "InvalidPlace") (by k_is : PySem.W.nsIn _ mainGlobals "InvalidPlace" = _) (by kernel_rfl))
  (case q3 => exact TK.via KX (f := fun K => PySem.W.excIn K _ [.type "ValueError", .type "Exception", .type "BaseException", .type "object"] "ValueError.__new__") (by kernel_rfl : PySem.W.excIn _ _ [.type "ValueError", .type "Exception", .type "BaseException", .type "object"] "ValueError.__new__" = _) (by kernel_rfl))
  (case k3 => exact TK.via KX (f := fun K => PySem.W.keepIn K (.ref _)) (by k_is : PySem.W.keepIn _ (.ref _) = _) (by kernel_rfl))
  (case t3 => exact TK.via KX (f := fun K => PySem.W.typeIn K (.ref _)) (by k_is : PySem.W.typeIn _ (.ref _) = _) (by kernel_rfl))
  (case hs_3 => exact TK.via KX (f := fun K => PySem.W.subIn K (.ref _) (.type "BaseException")) (by k_is : PySem.W.subIn _ (.ref _) (.type "BaseException") = _) (by kernel_rfl))
  (case ge5 => exact TK.via KX (f := fun K => PySem.W.nsIn K mainGlobals "SameMarble") (by k_is : PySem.W.nsIn _ mainGlobals "SameMarble" = _) (by kernel_rfl))
  (case q5 => exact TK.via KX (f := fun K => PySem.W.excIn K _ [.type "ValueError", .type "Exception", .type "BaseException", .type "object"] "ValueError.__new__") (by kernel_rfl : PySem.W.excIn _ _ [.type "ValueError", .type "Exception", .type "BaseException", .type "object"] "ValueError.__new__" = _) (by kernel_rfl))
  (case k5 => exact TK.via KX (f := fun K => PySem.W.keepIn K (.ref _)) (by k_is : PySem.W.keepIn _ (.ref _) = _) (by kernel_rfl))
  (case t5 => exact TK.via KX (f := fun K => PySem.W.typeIn K (.ref _)) (by k_is : PySem.W.typeIn _ (.ref _) = _) (by kernel_rfl))
  (case hs_5 => exact TK.via KX (f := fun K => PySem.W.subIn K (.ref _) (.type "BaseException")) (by k_is : PySem.W.subIn _ (.ref _) (.type "BaseException") = _) (by kernel_rfl))
  (case geT => exact TK.via KX (f := fun K => PySem.W.nsIn K mainGlobals "TrayError") (by k_is : PySem.W.nsIn _ mainGlobals "TrayError" = _) (by kernel_rfl))
  (case ge0 => exact TK.via KX (f := fun K => PySem.W.nsIn K mainGlobals "InvalidWord") (by k_is : PySem.W.nsIn _ mainGlobals "InvalidWord" = _) (by kernel_rfl))
  (case ge1 => exact TK.via KX (f := fun K => PySem.W.nsIn K mainGlobals "InvalidTray") (by k_is : PySem.W.nsIn _ mainGlobals "InvalidTray" = _) (by kernel_rfl))
  (case ge4 => exact TK.via KX (f := fun K => PySem.W.nsIn K mainGlobals "InvalidNumber") (by k_is : PySem.W.nsIn _ mainGlobals "InvalidNumber" = _) (by kernel_rfl))
  (case nI0 => exact TK.via KX (f := fun K => PySem.W.findIn K (.ref _) "index") (by k_is : PySem.W.findIn _ (.ref _) "index" = _) (by kernel_rfl))
  (case nI1 => exact TK.via KX (f := fun K => PySem.W.findIn K (.ref _) "row") (by k_is : PySem.W.findIn _ (.ref _) "row" = _) (by kernel_rfl))
  (case nI2 => exact TK.via KX (f := fun K => PySem.W.findIn K (.ref _) "column") (by k_is : PySem.W.findIn _ (.ref _) "column" = _) (by kernel_rfl))
  (case hg0 => exact TK.via KX (f := fun K => PySem.W.findIn K (.ref _) "__getattribute__") (by k_is : PySem.W.findIn _ (.ref _) "__getattribute__" = _) (by kernel_rfl))
  (case hk0 => exact TK.via KX (f := fun K => PySem.W.findIn K (.ref _) "__getattr__") (by k_is : PySem.W.findIn _ (.ref _) "__getattr__" = _) (by kernel_rfl))
  (case hs0 => exact TK.via KX (f := fun K => PySem.W.subIn K (.ref _) (.type "BaseException")) (by k_is : PySem.W.subIn _ (.ref _) (.type "BaseException") = _) (by kernel_rfl))
  (case hd0 => exact TK.via KX (f := fun K => PySem.W.hasDictIn K _) (by k_is : PySem.W.hasDictIn _ _ = _) (by kernel_rfl))
  (case ha0 => exact TK.via KX (f := fun K => PySem.W.findIn K (.ref _) "__class__") (by k_is : PySem.W.findIn _ (.ref _) "__class__" = _) (by kernel_rfl))
  (case hm0 => exact TK.via KX (f := fun K => PySem.W.mroIn K _ (.type "object")) (by k_is : PySem.W.mroIn _ _ (.type "object") = _) (by kernel_rfl))
  (case hv0 => exact TK.via KX (f := fun K => PySem.W.kitOne K (.ref _) (.type "ValueError")) (by kernel_rfl : PySem.W.kitOne _ (.ref _) (.type "ValueError") = _) (by kernel_rfl))
  (case ht0 => exact TK.via KX (f := fun K => PySem.W.exmOne K (.ref _) (.ref _)) (by kernel_rfl : PySem.W.exmOne _ (.ref _) (.ref _) = _) (by kernel_rfl))
  (case o00 => exact TK.via KX (f := fun K => PySem.W.kitOne K (.ref _) (.ref _)) (by kernel_rfl : PySem.W.kitOne _ (.ref _) (.ref _) = _) (by kernel_rfl))
  (case o01 => exact TK.via KX (f := fun K => PySem.W.kitOne K (.ref _) (.ref _)) (by kernel_rfl : PySem.W.kitOne _ (.ref _) (.ref _) = _) (by kernel_rfl))
  (case o02 => exact TK.via KX (f := fun K => PySem.W.kitOne K (.ref _) (.ref _)) (by kernel_rfl : PySem.W.kitOne _ (.ref _) (.ref _) = _) (by kernel_rfl))
  (case o03 => exact TK.via KX (f := fun K => PySem.W.kitOne K (.ref _) (.ref _)) (by kernel_rfl : PySem.W.kitOne _ (.ref _) (.ref _) = _) (by kernel_rfl))
  (case o04 => exact TK.via KX (f := fun K => PySem.W.kitOne K (.ref _) (.ref _)) (by kernel_rfl : PySem.W.kitOne _ (.ref _) (.ref _) = _) (by kernel_rfl))
  (case o05 => exact TK.via KX (f := fun K => PySem.W.kitOne K (.ref _) (.ref _)) (by kernel_rfl : PySem.W.kitOne _ (.ref _) (.ref _) = _) (by kernel_rfl))
  (case hg1 => exact TK.via KX (f := fun K => PySem.W.findIn K (.ref _) "__getattribute__") (by k_is : PySem.W.findIn _ (.ref _) "__getattribute__" = _) (by kernel_rfl))
  (case hk1 => exact TK.via KX (f := fun K => PySem.W.findIn K (.ref _) "__getattr__") (by k_is : PySem.W.findIn _ (.ref _) "__getattr__" = _) (by kernel_rfl))
  (case hs1 => exact TK.via KX (f := fun K => PySem.W.subIn K (.ref _) (.type "BaseException")) (by k_is : PySem.W.subIn _ (.ref _) (.type "BaseException") = _) (by kernel_rfl))
  (case hd1 => exact TK.via KX (f := fun K => PySem.W.hasDictIn K _) (by k_is : PySem.W.hasDictIn _ _ = _) (by kernel_rfl))
  (case ha1 => exact TK.via KX (f := fun K => PySem.W.findIn K (.ref _) "__class__") (by k_is : PySem.W.findIn _ (.ref _) "__class__" = _) (by kernel_rfl))
  (case hm1 => exact TK.via KX (f := fun K => PySem.W.mroIn K _ (.type "object")) (by k_is : PySem.W.mroIn _ _ (.type "object") = _) (by kernel_rfl))
  (case hv1 => exact TK.via KX (f := fun K => PySem.W.kitOne K (.ref _) (.type "ValueError")) (by kernel_rfl : PySem.W.kitOne _ (.ref _) (.type "ValueError") = _) (by kernel_rfl))
  (case ht1 => exact TK.via KX (f := fun K => PySem.W.exmOne K (.ref _) (.ref _)) (by kernel_rfl : PySem.W.exmOne _ (.ref _) (.ref _) = _) (by kernel_rfl))
  (case o10 => exact TK.via KX (f := fun K => PySem.W.kitOne K (.ref _) (.ref _)) (by kernel_rfl : PySem.W.kitOne _ (.ref _) (.ref _) = _) (by kernel_rfl))
  (case o11 => exact TK.via KX (f := fun K => PySem.W.kitOne K (.ref _) (.ref _)) (by kernel_rfl : PySem.W.kitOne _ (.ref _) (.ref _) = _) (by kernel_rfl))
  (case o12 => exact TK.via KX (f := fun K => PySem.W.kitOne K (.ref _) (.ref _)) (by kernel_rfl : PySem.W.kitOne _ (.ref _) (.ref _) = _) (by kernel_rfl))
  (case o13 => exact TK.via KX (f := fun K => PySem.W.kitOne K (.ref _) (.ref _)) (by kernel_rfl : PySem.W.kitOne _ (.ref _) (.ref _) = _) (by kernel_rfl))
  (case o14 => exact TK.via KX (f := fun K => PySem.W.kitOne K (.ref _) (.ref _)) (by kernel_rfl : PySem.W.kitOne _ (.ref _) (.ref _) = _) (by kernel_rfl))
  (case o15 => exact TK.via KX (f := fun K => PySem.W.kitOne K (.ref _) (.ref _)) (by kernel_rfl : PySem.W.kitOne _ (.ref _) (.ref _) = _) (by kernel_rfl))
  (case hg2 => exact TK.via KX (f := fun K => PySem.W.findIn K (.ref _) "__getattribute__") (by k_is : PySem.W.findIn _ (.ref _) "__getattribute__" = _) (by kernel_rfl))
  (case hk2 => exact TK.via KX (f := fun K => PySem.W.findIn K (.ref _) "__getattr__") (by k_is : PySem.W.findIn _ (.ref _) "__getattr__" = _) (by kernel_rfl))
  (case hs2 => exact TK.via KX (f := fun K => PySem.W.subIn K (.ref _) (.type "BaseException")) (by k_is : PySem.W.subIn _ (.ref _) (.type "BaseException") = _) (by kernel_rfl))
  (case hd2 => exact TK.via KX (f := fun K => PySem.W.hasDictIn K _) (by k_is : PySem.W.hasDictIn _ _ = _) (by kernel_rfl))
  (case ha2 => exact TK.via KX (f := fun K => PySem.W.findIn K (.ref _) "__class__") (by k_is : PySem.W.findIn _ (.ref _) "__class__" = _) (by kernel_rfl))
  (case hm2 => exact TK.via KX (f := fun K => PySem.W.mroIn K _ (.type "object")) (by k_is : PySem.W.mroIn _ _ (.type "object") = _) (by kernel_rfl))
  (case hv2 => exact TK.via KX (f := fun K => PySem.W.kitOne K (.ref _) (.type "ValueError")) (by kernel_rfl : PySem.W.kitOne _ (.ref _) (.type "ValueError") = _) (by kernel_rfl))
  (case ht2 => exact TK.via KX (f := fun K => PySem.W.exmOne K (.ref _) (.ref _)) (by kernel_rfl : PySem.W.exmOne _ (.ref _) (.ref _) = _) (by kernel_rfl))
  (case o20 => exact TK.via KX (f := fun K => PySem.W.kitOne K (.ref _) (.ref _)) (by kernel_rfl : PySem.W.kitOne _ (.ref _) (.ref _) = _) (by kernel_rfl))
  (case o21 => exact TK.via KX (f := fun K => PySem.W.kitOne K (.ref _) (.ref _)) (by kernel_rfl : PySem.W.kitOne _ (.ref _) (.ref _) = _) (by kernel_rfl))
  (case o22 => exact TK.via KX (f := fun K => PySem.W.kitOne K (.ref _) (.ref _)) (by kernel_rfl : PySem.W.kitOne _ (.ref _) (.ref _) = _) (by kernel_rfl))
  (case o23 => exact TK.via KX (f := fun K => PySem.W.kitOne K (.ref _) (.ref _)) (by kernel_rfl : PySem.W.kitOne _ (.ref _) (.ref _) = _) (by kernel_rfl))
  (case o24 => exact TK.via KX (f := fun K => PySem.W.kitOne K (.ref _) (.ref _)) (by kernel_rfl : PySem.W.kitOne _ (.ref _) (.ref _) = _) (by kernel_rfl))
  (case o25 => exact TK.via KX (f := fun K => PySem.W.kitOne K (.ref _) (.ref _)) (by kernel_rfl : PySem.W.kitOne _ (.ref _) (.ref _) = _) (by kernel_rfl))
  (case hg3 => exact TK.via KX (f := fun K => PySem.W.findIn K (.ref _) "__getattribute__") (by k_is : PySem.W.findIn _ (.ref _) "__getattribute__" = _) (by kernel_rfl))
  (case hk3 => exact TK.via KX (f := fun K => PySem.W.findIn K (.ref _) "__getattr__") (by k_is : PySem.W.findIn _ (.ref _) "__getattr__" = _) (by kernel_rfl))
  (case hs3 => exact TK.via KX (f := fun K => PySem.W.subIn K (.ref _) (.type "BaseException")) (by k_is : PySem.W.subIn _ (.ref _) (.type "BaseException") = _) (by kernel_rfl))
  (case hd3 => exact TK.via KX (f := fun K => PySem.W.hasDictIn K _) (by k_is : PySem.W.hasDictIn _ _ = _) (by kernel_rfl))
  (case ha3 => exact TK.via KX (f := fun K => PySem.W.findIn K (.ref _) "__class__") (by k_is : PySem.W.findIn _ (.ref _) "__class__" = _) (by kernel_rfl))
  (case hm3 => exact TK.via KX (f := fun K => PySem.W.mroIn K _ (.type "object")) (by k_is : PySem.W.mroIn _ _ (.type "object") = _) (by kernel_rfl))
  (case hv3 => exact TK.via KX (f := fun K => PySem.W.kitOne K (.ref _) (.type "ValueError")) (by kernel_rfl : PySem.W.kitOne _ (.ref _) (.type "ValueError") = _) (by kernel_rfl))
  (case ht3 => exact TK.via KX (f := fun K => PySem.W.exmOne K (.ref _) (.ref _)) (by kernel_rfl : PySem.W.exmOne _ (.ref _) (.ref _) = _) (by kernel_rfl))
  (case o30 => exact TK.via KX (f := fun K => PySem.W.kitOne K (.ref _) (.ref _)) (by kernel_rfl : PySem.W.kitOne _ (.ref _) (.ref _) = _) (by kernel_rfl))
  (case o31 => exact TK.via KX (f := fun K => PySem.W.kitOne K (.ref _) (.ref _)) (by kernel_rfl : PySem.W.kitOne _ (.ref _) (.ref _) = _) (by kernel_rfl))
  (case o32 => exact TK.via KX (f := fun K => PySem.W.kitOne K (.ref _) (.ref _)) (by kernel_rfl : PySem.W.kitOne _ (.ref _) (.ref _) = _) (by kernel_rfl))
  (case o33 => exact TK.via KX (f := fun K => PySem.W.kitOne K (.ref _) (.ref _)) (by kernel_rfl : PySem.W.kitOne _ (.ref _) (.ref _) = _) (by kernel_rfl))
  (case o34 => exact TK.via KX (f := fun K => PySem.W.kitOne K (.ref _) (.ref _)) (by kernel_rfl : PySem.W.kitOne _ (.ref _) (.ref _) = _) (by kernel_rfl))
  (case o35 => exact TK.via KX (f := fun K => PySem.W.kitOne K (.ref _) (.ref _)) (by kernel_rfl : PySem.W.kitOne _ (.ref _) (.ref _) = _) (by kernel_rfl))
  (case hg4 => exact TK.via KX (f := fun K => PySem.W.findIn K (.ref _) "__getattribute__") (by k_is : PySem.W.findIn _ (.ref _) "__getattribute__" = _) (by kernel_rfl))
  (case hk4 => exact TK.via KX (f := fun K => PySem.W.findIn K (.ref _) "__getattr__") (by k_is : PySem.W.findIn _ (.ref _) "__getattr__" = _) (by kernel_rfl))
  (case hs4 => exact TK.via KX (f := fun K => PySem.W.subIn K (.ref _) (.type "BaseException")) (by k_is : PySem.W.subIn _ (.ref _) (.type "BaseException") = _) (by kernel_rfl))
  (case hd4 => exact TK.via KX (f := fun K => PySem.W.hasDictIn K _) (by k_is : PySem.W.hasDictIn _ _ = _) (by kernel_rfl))
  (case ha4 => exact TK.via KX (f := fun K => PySem.W.findIn K (.ref _) "__class__") (by k_is : PySem.W.findIn _ (.ref _) "__class__" = _) (by kernel_rfl))
  (case hm4 => exact TK.via KX (f := fun K => PySem.W.mroIn K _ (.type "object")) (by k_is : PySem.W.mroIn _ _ (.type "object") = _) (by kernel_rfl))
  (case hv4 => exact TK.via KX (f := fun K => PySem.W.kitOne K (.ref _) (.type "ValueError")) (by kernel_rfl : PySem.W.kitOne _ (.ref _) (.type "ValueError") = _) (by kernel_rfl))
  (case ht4 => exact TK.via KX (f := fun K => PySem.W.exmOne K (.ref _) (.ref _)) (by kernel_rfl : PySem.W.exmOne _ (.ref _) (.ref _) = _) (by kernel_rfl))
  (case o40 => exact TK.via KX (f := fun K => PySem.W.kitOne K (.ref _) (.ref _)) (by kernel_rfl : PySem.W.kitOne _ (.ref _) (.ref _) = _) (by kernel_rfl))
  (case o41 => exact TK.via KX (f := fun K => PySem.W.kitOne K (.ref _) (.ref _)) (by kernel_rfl : PySem.W.kitOne _ (.ref _) (.ref _) = _) (by kernel_rfl))
  (case o42 => exact TK.via KX (f := fun K => PySem.W.kitOne K (.ref _) (.ref _)) (by kernel_rfl : PySem.W.kitOne _ (.ref _) (.ref _) = _) (by kernel_rfl))
  (case o43 => exact TK.via KX (f := fun K => PySem.W.kitOne K (.ref _) (.ref _)) (by kernel_rfl : PySem.W.kitOne _ (.ref _) (.ref _) = _) (by kernel_rfl))
  (case o44 => exact TK.via KX (f := fun K => PySem.W.kitOne K (.ref _) (.ref _)) (by kernel_rfl : PySem.W.kitOne _ (.ref _) (.ref _) = _) (by kernel_rfl))
  (case o45 => exact TK.via KX (f := fun K => PySem.W.kitOne K (.ref _) (.ref _)) (by kernel_rfl : PySem.W.kitOne _ (.ref _) (.ref _) = _) (by kernel_rfl))
  (case hg5 => exact TK.via KX (f := fun K => PySem.W.findIn K (.ref _) "__getattribute__") (by k_is : PySem.W.findIn _ (.ref _) "__getattribute__" = _) (by kernel_rfl))
  (case hk5 => exact TK.via KX (f := fun K => PySem.W.findIn K (.ref _) "__getattr__") (by k_is : PySem.W.findIn _ (.ref _) "__getattr__" = _) (by kernel_rfl))
  (case hs5 => exact TK.via KX (f := fun K => PySem.W.subIn K (.ref _) (.type "BaseException")) (by k_is : PySem.W.subIn _ (.ref _) (.type "BaseException") = _) (by kernel_rfl))
  (case hd5 => exact TK.via KX (f := fun K => PySem.W.hasDictIn K _) (by k_is : PySem.W.hasDictIn _ _ = _) (by kernel_rfl))
  (case ha5 => exact TK.via KX (f := fun K => PySem.W.findIn K (.ref _) "__class__") (by k_is : PySem.W.findIn _ (.ref _) "__class__" = _) (by kernel_rfl))
  (case hm5 => exact TK.via KX (f := fun K => PySem.W.mroIn K _ (.type "object")) (by k_is : PySem.W.mroIn _ _ (.type "object") = _) (by kernel_rfl))
  (case hv5 => exact TK.via KX (f := fun K => PySem.W.kitOne K (.ref _) (.type "ValueError")) (by kernel_rfl : PySem.W.kitOne _ (.ref _) (.type "ValueError") = _) (by kernel_rfl))
  (case ht5 => exact TK.via KX (f := fun K => PySem.W.exmOne K (.ref _) (.ref _)) (by kernel_rfl : PySem.W.exmOne _ (.ref _) (.ref _) = _) (by kernel_rfl))
  (case o50 => exact TK.via KX (f := fun K => PySem.W.kitOne K (.ref _) (.ref _)) (by kernel_rfl : PySem.W.kitOne _ (.ref _) (.ref _) = _) (by kernel_rfl))
  (case o51 => exact TK.via KX (f := fun K => PySem.W.kitOne K (.ref _) (.ref _)) (by kernel_rfl : PySem.W.kitOne _ (.ref _) (.ref _) = _) (by kernel_rfl))
  (case o52 => exact TK.via KX (f := fun K => PySem.W.kitOne K (.ref _) (.ref _)) (by kernel_rfl : PySem.W.kitOne _ (.ref _) (.ref _) = _) (by kernel_rfl))
  (case o53 => exact TK.via KX (f := fun K => PySem.W.kitOne K (.ref _) (.ref _)) (by kernel_rfl : PySem.W.kitOne _ (.ref _) (.ref _) = _) (by kernel_rfl))
  (case o54 => exact TK.via KX (f := fun K => PySem.W.kitOne K (.ref _) (.ref _)) (by kernel_rfl : PySem.W.kitOne _ (.ref _) (.ref _) = _) (by kernel_rfl))
  (case o55 => exact TK.via KX (f := fun K => PySem.W.kitOne K (.ref _) (.ref _)) (by kernel_rfl : PySem.W.kitOne _ (.ref _) (.ref _) = _) (by kernel_rfl))
  (case caO => exact TK.via KX (f := fun K => PySem.W.nsIn K mainGlobals "OPPOSITES") (by k_is : PySem.W.nsIn _ mainGlobals "OPPOSITES" = _) (by kernel_rfl))
  (case lO => exact TK.via KX (f := fun K => K.lookup _) (by k_is : List.lookup _ _ = _) (by kernel_rfl))
  (case hO => exact ⟨⟨_, _, rfl, rfl⟩, ⟨_, _, rfl, rfl⟩, ⟨_, _, rfl, rfl⟩, ⟨_, _, rfl, rfl⟩, trivial⟩)
  (case Ol => exact TK.via KX (f := fun K => PySem.W.nsIn K _ "l") (by k_is : PySem.W.nsIn _ _ "l" = _) (by kernel_rfl))
  (case Or => exact TK.via KX (f := fun K => PySem.W.nsIn K _ "r") (by k_is : PySem.W.nsIn _ _ "r" = _) (by kernel_rfl))
  (case Ou => exact TK.via KX (f := fun K => PySem.W.nsIn K _ "u") (by k_is : PySem.W.nsIn _ _ "u" = _) (by kernel_rfl))
  (case Od => exact TK.via KX (f := fun K => PySem.W.nsIn K _ "d") (by k_is : PySem.W.nsIn _ _ "d" = _) (by kernel_rfl))
  (case dFpFm => first | decide | omega)
  (case dFpFt => first | decide | omega)
  (case dFpRj => first | decide | omega)
  (case dFmFt => first | decide | omega)
  (case dFmRj => first | decide | omega)
  (case dFtRj => first | decide | omega)
  (case eAR => first | rfl | decide +kernel)
  (case eAC => first | rfl | decide +kernel)
  (case eEM => first | rfl | decide +kernel)
  (case eLE => first | rfl | decide +kernel)
  (case eMS => first | rfl | decide +kernel)
  (case eMX => first | rfl | decide +kernel)
  (case eOl => first | rfl | decide +kernel)
  (case eOr => first | rfl | decide +kernel)
  (case eOu => first | rfl | decide +kernel)
  (case eOd => first | rfl | decide +kernel)
  (case hDC => first | decide | omega)
  (case h0 => first | decide | omega)
  (case hn => first | decide | omega)
