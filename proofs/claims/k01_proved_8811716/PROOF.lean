import PyProof.Rows.All
import Wide.All
import OpenK.AllK
import Wide.FinOn
import KE.GoesMore
import KE.KStar
import HandS.ForMost
import HandS.Star
import HandS.Walk
import HandS.SlotsOwn
import HandS.ClsMeth
import HandS.Property
import HandS.OwnEq
import KE.KOpsOwn
import HandS.Text
import HandS.Replace
import HandS.Codes
import HandS.IsInst
import HandS.SetKeys
import PyProof.Rows.StrPadFill
import PyProof.Rows.StrStrike
import HandS.ExcInit
import HandS.Nested
import HandS.FStr
import KE.KExcSuper
import KE.KSuper
import HandS.WordsExc
import HandS.ExcIs
import HandS.ExcField
import HandS.Lambda
import KE.KExcIs
import HandS.TupSets
import PyProof.InstNe
import HandS.ExcOwn
import PyProof.ExcBaseAll.ValueError
import PyProof.StrBlock2
import PyProof.ListStr
import HandS.EndTab
import KE.KNestM
import PySem.Challenge.RW_tiltheap_k01_words_of_tilts
namespace TH
end TH
namespace TH
end TH
section
set_option Elab.async false
set_option maxRecDepth 100000
set_option maxHeartbeats 4000000
namespace TH
open PySem PySem.Spec PyProof.Rows L2
section
variable {prog : Program} {w : World} {A : Around} {E : Value → Shared → Prop}
theorem strIter_other {h h' : Heap} {a c : Addr} {ty : String} {x : Str} {t : Tok} {i : Nat} (q : h.IsStrIter a ty x t i) (sb : Heap.SameBut c h h') (hne : a ≠ c) : h'.IsStrIter a ty x t i := by
  obtain ⟨o, ho, r⟩ := q
  exact ⟨o, (sb.2 a hne).trans ho, r⟩
end
end TH
end
namespace TH
end TH
namespace TH
end TH
section
set_option Elab.async false
set_option maxRecDepth 100000
set_option maxHeartbeats 4000000
namespace TH
open PySem PySem.Spec PyProof.Rows L2
theorem sgn_vals : ∀ (us : List Value) (cs : List Nat), us.length = cs.length → (∀ (k c : Nat), cs[k]? = some c → ∃ u, us[k]? = some (Value.str ⟨#[c]⟩ u)) → Vals (cs.map fun c => V.str ⟨#[c]⟩) us
  | [], [], _, _ => .nil
  | [], _ :: _, e, _ => by simp at e
  | _ :: _, [], e, _ => by simp at e
  | x :: us, c :: cs, e, h => by
    obtain ⟨u, hu⟩ := h 0 c rfl
    have hx : x = Value.str ⟨#[c]⟩ u := by simpa using hu
    refine .cons ⟨u, hx⟩ (sgn_vals us cs (by simpa using e) fun k c' hk => ?_)
    simpa using h (k + 1) c' (by simpa using hk)
end TH
end
section
set_option Elab.async false
set_option maxRecDepth 100000
set_option maxHeartbeats 4000000
set_option linter.all false
namespace TH
open PySem PySem.Spec PyProof.Rows L2
theorem meets_enum_any {v : Value} {o : Obj} {H : Heap → Prop} (B : Begins v o H) :
    Meets (Builtin.«enumerate.__new__» ⟨[.type "enumerate", v], []⟩) (fun _ R s => H s.heap ∧
      R (.ok (.ret (.ref (s.heap.push o).objs.size))) { s with heap := (s.heap.push o).push { cls := .type "enumerate", data := .fields #[.none, .bool false, .ref s.heap.objs.size, rawInt 0, .none, .none] } }) :=
  .of_wp fun prog w A R s hR => by
    obtain ⟨hp, g, d, tk, os⟩ := s
    obtain ⟨hH, hR⟩ := hR
    have hsub := sub_enumerate
    have it1 : ∀ {A' : Around} {E : Value → Shared → Prop} {Q : Value → Shared → Prop}, Q (.ref hp.objs.size) ⟨hp.push o, g, d, tk, os⟩ → wpAny (model prog w) A' (pyIter v) Q E ⟨hp, g, d, tk, os⟩ :=
      fun q => B.iter prog w _ _ ⟨hp, g, d, tk, os⟩ _ hH q
    wp_walk using it1
    refine wpAny_stack_any fun st => wpAny_pure ?_
    split
    · rename_i c _ _ _ _ _
      cases (c == Value.type "enumerate")
      all_goals
        wp_walk using it1
        exact ⟨_, rfl, hR⟩
    · wp_walk using it1
      exact ⟨_, rfl, hR⟩
theorem enum_any {prog : Program} {w : World} {A : Around} {E : Value → Shared → Prop} {s : Shared} {v : Value} {o : Obj} {H : Heap → Prop} {Q : Value → Shared → Prop} (B : Begins v o H) (hH : H s.heap)
    (h : ∀ h', IsEnum h' (s.heap.objs.size + 1) s.heap.objs.size 0 .none → h'.get? s.heap.objs.size = some o → (∀ b o, s.heap.get? b = some o → h'.get? b = some o) → Q (.ref (s.heap.objs.size + 1)) { s with heap := h' }) :
    wpAny (model prog w) A (call (.type "enumerate") [v]) Q E s := by
  refine callType_new F.called_enumerate (by decide) (F.typeCall_enumerate_1 _) (F.newCall_enumerate_1 _) (fun obj => F.args_object_init_2 obj _) F.entry_enumerate_new (meets_enum_any B) ⟨hH, ?_⟩
  have sz : (s.heap.push o).objs.size = s.heap.objs.size + 1 := Heap.size_push ..
  have at1 := Heap.get?_push_size (s.heap.push o) (o := { cls := .type "enumerate", data := .fields #[.none, .bool false, .ref s.heap.objs.size, rawInt 0, .none, .none] }) rfl
  rw [sz] at at1
  show _ ∧ _
  rw [sz]
  exact ⟨⟨_, at1, rfl⟩, h _ at1 (Heap.get?_push_of_some _ (Heap.get?_push_size _ B.free)) fun b o x => Heap.get?_push_of_some _ (Heap.get?_push_of_some _ x)⟩

/-- the signs of a text with their places -/
def Ites (x : Str) : It := ⟨fun i _ => i < x.cps.size, fun i H v H' => ∃ (T : Addr) (c : Nat), v = .ref T ∧ H T = none ∧ H' = upd H T (.tup [.int (i : Nat), .str ⟨#[c]⟩]) ∧ x.cps[i]? = some c, fun i _ => i = x.cps.size⟩
section
variable {P : Program} {w : World} {K : PySem.W.Frag} {elts : List Expr} {kk : Nat} {tpos : Pos}
theorem turn_enums {x : Str} {t : Tok} (e it : Addr) (hne : e ≠ it) :
    Turn P w K (.Tuple elts kk tpos) (Ites x) [e, it] e (fun i h => (∃ old, IsEnum h e it ((i : Nat) : Int) old) ∧ h.IsStrIter it (strIterType x) x t i) where
  mem := by simp
  obj := fun i h st b hb => by
    obtain ⟨⟨old, he⟩, ⟨o, ho, hc, hd⟩⟩ := st
    rcases (show b = e ∨ b = it by simpa using hb) with z | z
    · rw [z]
      exact ⟨_, he, fun v q => nomatch q⟩
    · rw [z]
      exact ⟨o, ho, fun v q => by rw [hd] at q; cases q⟩
  keep := fun i h h' st k => by
    obtain ⟨⟨old, he⟩, ⟨o, ho, r⟩⟩ := st
    exact ⟨⟨old, k e (by simp) _ he⟩, ⟨o, k it (by simp) _ ho, r⟩⟩
  item := by
    intro X hP hw hK hc i pins s σ H E I hf st hg
    subst hP hw hK
    obtain ⟨⟨old, he⟩, hit⟩ := st
    have hel : e < s.heap.objs.size := Heap.lt_size he
    have hil : it < s.heap.objs.size := by obtain ⟨_, q, _⟩ := hit; exact Heap.lt_size q
    refine wpAny_pyNext_enum_itemD (Draws.text (A := X.A.in1) (I.ok.hd hc) it x t) he hit hg hne (by simpa using hne) fun y h' tk hy ho hit' hT hsz hk => ?_
    obtain ⟨c, u, hcx, rfl⟩ := hy
    refine ⟨_, rfl, wpAny_letOwnedTupleGo_enum (s := { s with heap := h', toks := tk + 1 }) ho fun h'' he' sb => ?_⟩
    have hT2 : h''.get? s.heap.objs.size = some { cls := .type "tuple", data := .seq #[.int i tk, .str ⟨#[c]⟩ u] } := (sb.2 _ (Nat.ne_of_gt hel)).trans hT
    have new : ObjOk X.prog X.w (upd H s.heap.objs.size (.tup [.int (i : Nat), .str ⟨#[c]⟩])) h'' s.heap.objs.size (.tup [.int (i : Nat), .str ⟨#[c]⟩]) :=
      ⟨by show 2 ≤ sizeLine; decide, [.int i tk, .str ⟨#[c]⟩ u], .cons ⟨_, rfl⟩ (.cons ⟨_, rfl⟩ .nil), ⟨_, hT2, rfl, _, rfl⟩⟩
    have I1 : Inv X pins σ (upd H s.heap.objs.size (.tup [.int (i : Nat), .str ⟨#[c]⟩])) { s with heap := h'', toks := tk + 1 } :=
      I.turnedNew (ch := [e, it]) (fun b ob hb q => (sb.2 b (fun z => hb (by simp [z]))).trans (hk b ob (fun z => hb (by simp [z])) (fun z => hb (by simp [z])) q)) hf (Nat.le_refl _) new
    refine ⟨.ref s.heap.objs.size, _, I1, rfl, ⟨_, c, rfl, I.hok.fresh (Nat.le_refl _), rfl, hcx⟩, ⟨⟨Value.str ⟨#[c]⟩ u, ?_⟩, strIter_other hit' sb (Ne.symm hne)⟩, fun b hb => ?_⟩
    · have e1 : ((i + 1 : Nat) : Int) = (i : Int) + 1 := by omega
      rw [e1]
      exact he'
    · have hb' : b < s.heap.objs.size := by
        rcases (show b = e ∨ b = it by simpa using hb) with z | z
        · rw [z]; exact hel
        · rw [z]; exact hil
      rw [upd_ne (Nat.ne_of_lt hb')]
      exact (hf b hb).1
  done := by
    intro X hP hw hK hc i pins s σ H E I hf st hg
    subst hP hw hK
    obtain ⟨⟨old, he⟩, hit⟩ := st
    obtain ⟨f0, f1, f2, f3, f4, f5⟩ := hf it (by simp)
    have hi : i = x.cps.size := hg
    subst hi
    exact wpAny_pyNext_enum_endD (Draws.text (A := X.A.in1) (I.ok.hd hc) it x t) he hit fun h' eb => ⟨rfl, I.turned (t' := s.toks) (fun b o hb q => eb b o hb q) f0 f1 f3 f4 f5⟩
  self := fun A i s Q E st h => by
    obtain ⟨⟨_, he⟩, _⟩ := st
    exact wpAny_pyIter_enum he h
end
def iEnumS (ta : TA) : TI := fun σ H R => ta σ H fun vs H1 => ∃ x, vs = [.str x] ∧ R (Ites x) H1
section
variable {X : Cx} {e : Expr} {ta : TA} {p pos tpos : Pos} {elts : List Expr} {kk : Nat}
theorem pi_enumS (hg : Gl X "enumerate") (hm : X.mg "enumerate" = none) (ha : PA X [e] ta) (hs : starEach [e] X.env = [(false, eval e X.env)] := by rfl) : PI X (.Tuple elts kk tpos) (.Call (.Name "enumerate" p) [e] [] pos) (iEnumS ta) := by
  refine ⟨fun pins s σ H R I h => ?_⟩
  refine Call_ (ld_blt I hg hm boot_enumerate (PyProof.Rows.callWith_type1 (thn (ha.run pos pins s σ H _ I h) fun us s1 ⟨vs, H1, I1, r1, x, ex, q⟩ => ?_) hs rfl))
  subst ex
  cases r1 with
  | @cons _ u _ _ r rr =>
    cases rr
    obtain ⟨t, rfl⟩ := r
    refine enum_any (begins_text x t) trivial fun h' he hit hk => wpAny_pyIter_enum he ?_
    have I2 : Inv X pins σ H1 { s1 with heap := h' } := I1.kept (t' := s1.toks) hk
    refine ⟨s1.heap.objs.size + 1, [s1.heap.objs.size + 1, s1.heap.objs.size], _, _, H1, rfl, I2, turn_enums (x := x) (t := t) _ _ (Nat.succ_ne_self _), ⟨⟨.none, he⟩, ⟨_, hit, rfl, rfl⟩⟩, fun b hb => ?_, q⟩
    have hle : s1.heap.objs.size ≤ b := by
      rcases (show b = s1.heap.objs.size + 1 ∨ b = s1.heap.objs.size by simpa using hb) with z | z
      · rw [z]; exact Nat.le_add_right _ _
      · rw [z]; exact Nat.le_refl _
    exact I1.fpOk hle (I1.hok.fresh hle)
end
/-- enumerate in a for: an instance of Walk -/
theorem walk_enumS {x : Str} : Walk (Ites x) x.cps.size (fun _ => True) (fun i H v H' => ∃ (T : Addr) (c : Nat), v = .ref T ∧ H T = none ∧ H' = upd H T (.tup [.int (i : Nat), .str ⟨#[c]⟩]) ∧ x.cps[i]? = some c) :=
  ⟨fun i H hi _ => hi, fun H _ => rfl, fun i H v H' hi _ y => y⟩
end TH
end
namespace TH
end TH
namespace TH
end TH
namespace TH
end TH
namespace TM
end TM
namespace TM
end TM
section
set_option Elab.async false
set_option maxRecDepth 100000
set_option linter.all false
namespace TK
open PySem L2
/-- a text by its signs; one sign -/
abbrev S (t : List Nat) : Str := ⟨t.toArray⟩
abbrev sg (c : Nat) : V := .str ⟨#[c]⟩
theorem S_len (t : List Nat) : (S t).length = t.length := SX.S_len t
theorem S_size (t : List Nat) : (S t).cps.size = t.length := by simp [S]
theorem S_at (t : List Nat) (i : Nat) : (S t).cps[i]? = t[i]? := by simp [S]
theorem S_list (t : List Nat) : (S t).cps.toList = t := by simp [S]
theorem S_inj {a b : List Nat} (h : S a = S b) : a = b := SX.S_inj h
theorem join_S (a : List Nat) (ys : List (List Nat)) : Txt.join (S a) (ys.map S) = S (TL.joinL a ys) := SX.join_S a ys
theorem joinL_nil : ∀ l : List (List Nat), TL.joinL [] l = l.flatten
  | [] => rfl
  | [p] => by simp [TL.joinL]
  | p :: q :: r => by
    have := joinL_nil (q :: r)
    simp only [TL.joinL, List.nil_append, this, List.flatten_cons]
theorem flat_ones : ∀ l : List Nat, (l.map fun c => [c]).flatten = l
  | [] => rfl
  | c :: r => by simp [flat_ones r]
theorem join_signs (l : List Nat) : Txt.join (Str.ofString "") (l.map fun c => S [c]) = S l := by
  have e := join_S [] (l.map fun c => [c])
  rw [List.map_map, joinL_nil, flat_ones] at e
  exact e
theorem sum_ones (l : List Nat) : ((l.map fun c => S [c]).map (·.length)).sum = l.length := by
  induction l with
  | nil => rfl
  | cons c r ih =>
    rw [List.map_cons, List.map_cons, List.sum_cons, ih]
    show 1 + r.length = r.length + 1
    omega
theorem Sd (a b : List Nat) : decide (V.str (S a) = V.str (S b)) = decide (a = b) := by
  by_cases h : a = b
  · subst h; simp
  · rw [decide_eq_false h, decide_eq_false]
    intro e
    exact h (S_inj (V.str.inj e))
/-- a store at an address that was new -/
theorem same_put {H H1 : Hp} {l : Addr} {o : HO} (s : Same H H1) (h : H l = none) : Same H (upd H1 l o) := fun b o' e => by
  rw [upd_ne (ne_of_none e h)]
  exact s b o' e
end TK
end
section
set_option Elab.async false
set_option maxRecDepth 100000
set_option linter.all false
namespace TK
open PySem L2 TM
/-- what is written about words -/
structure TxtW (K : PySem.W.Frag) (mg : Str → Option Value) : Prop where
  len : mg "len" = none
  isi : mg "isinstance" = none
  str : mg "str" = none
  enum : mg "enumerate" = none
  AR : ∃ u, mg "ALONG_ROWS" = some u ∧ RelV (.str (S [108, 114])) u
  AC : ∃ u, mg "ALONG_COLUMNS" = some u ∧ RelV (.str (S [117, 100])) u
section
variable {P : Program} {w : World} {K : PySem.W.Frag} {mg : Str → Option Value} {base : Heap}
end
end TK
end
section
set_option Elab.async false
set_option maxRecDepth 100000
set_option linter.all false
namespace TK
open PySem L2 TM
/-- is it a tilt's letter -/
def isT (c : Nat) : Bool := decide (c ∈ [108, 114, 117, 100])
/-- a word's text: tilts, so many at most -/
def Good (t : List Nat) : Prop := t.length ≤ 60 ∧ ∀ c ∈ t, isT c = true
def WordAt (C : Addr) (H : Hp) (a : Addr) (t : List Nat) : Prop := ∃ dx, H a = some (.ins C dx [("_text", .str (S t))])
theorem WordAt.same {C a : Addr} {H H' : Hp} {t : List Nat} (h : WordAt C H a t) (s : Same H H') : WordAt C H' a t := by
  obtain ⟨dx, h⟩ := h
  exact ⟨dx, s _ _ h⟩
/-- the class Word as the top has made it -/
structure ClsW (K : PySem.W.Frag) (mg : Str → Option Value) (C : Addr) : Prop where
  cl : Cls K C
  nT : NoAttr K C "_text"
  mgC : mg "Word" = some (.ref C)
  mx : ∃ mc u, ClX.CRead K C mc ∧ ClX.CVal K C mc "MAX_TILTS" (.int 60) u
section
variable {P : Program} {w : World} {K : PySem.W.Frag} {mg : Str → Option Value} {base : Heap} {C fT : Addr} {fdT : FuncData}
def spIt : Sp := fun vs H Q _ => ∃ c : Nat, vs = [sg c] ∧ Q (.bl (isT c)) H
end
end TK
end
namespace TK
end TK
namespace TK
end TK
namespace TK
end TK
namespace TK
end TK
namespace TK
end TK
section
set_option Elab.async false
set_option maxRecDepth 100000
set_option linter.all false
namespace TX
open PySem PySem.Spec PyProof.Rows L2
section
variable {X : Cx} {pins : List (Addr × Obj)} {σ : L2.St} {H : Hp} {s : Shared} {A : Around} {E : Value → Shared → Prop}
/-- the bound ValueError.__init__ is called -/
theorem mw_call {u a C : Addr} {us : List Value} {Q : Value → Shared → Prop} (T : OexC X.K C) (I : Inv X pins σ H s) (e : H a = some (exo a C none)) (hu : s.heap.get? u = some (PySem.W.kxs_mw "ValueError.__init__" a)) (hl : us.length ≤ sizeLine)
    (h : ∀ s', Inv X pins σ H s' → Q .none s') : wpAny (model X.prog X.w) A (call (.ref u) us) Q E s := by
  obtain ⟨nm, q, N, bs, bm, sn, sub, ab, col, dd, k0, k1, k2, k3, k5, hC, hbm⟩ := T.cls
  obtain ⟨t1, ho⟩ := exo_at I.hok e
  have hC := I.kIn _ _ hC
  obtain ⟨hp, g, d, t, os⟩ := s
  refine wpAny_call (codeAny_of_tree ?_)
  show wpAny _ A.in1 (callAny (.ref u) ⟨us, []⟩) _ _ _
  simp only [callAny]
  refine wpAny_bind (wpAny_load hu ?_)
  simp only [PySem.W.kxs_mw, show (Value.type "method-wrapper" == Value.type "method" || Value.type "method-wrapper" == Value.type "builtin_function_or_method" || Value.type "method-wrapper" == Value.type "method-wrapper") = true from by decide, if_true]
  refine PySem.W.KFB.if_so (by decide) ?_
  refine wpAny_bind (PySem.W.check_bound_init F.excBase_ValueError.toExcCallFacts hC ho rfl ?_)
  refine wpAny_bind (wpAny_pure (wpAny_pure ?_))
  refine ⟨plainId_quiet F.excBase_ValueError.init.plain _, ?_⟩
  refine codeAny_builtin F.excBase_ValueError.initEntry ?_
  refine PySem.W.exc_init_tree (cls := .ref C) (t0 := t1) (dv := none) (c2 := .none) (c3 := .none) (b4 := .bool false) ho hl fun h' k hx _ => ?_
  have J := I.write (t' := t) (x := a) (e := a) (o := exo a C none) (by rw [e]; exact True.intro) (.inl rfl) k ⟨_, hx⟩ (exo_ok hx)
  have eu : upd H a (exo a C none) = H := by
    funext b
    by_cases hb : b = a
    · rw [hb, upd_same, e]
    · rw [upd_ne hb]
  rw [eu] at J
  exact h _ J
end
/-- what is written of an __init__ at f that says super().__init__(..): its class at C, its cell at cc, its code at cda -/
structure SupI (P : Program) (K : PySem.W.Frag) (C f cc cda : Addr) (fd : FuncData) (ar : Arg) : Prop where
  fn : ∃ oc od osl, K.lookup f = some ⟨oc, od, .func fd, osl⟩
  hd : (fd.params.posonlyargs ++ fd.params.args).head? = some ar
  code : ∃ ccl cdd vs ccs file tf, K.lookup cda = some ⟨ccl, cdd, .fields vs, ccs⟩ ∧ vs[2]? = some (.str file tf) ∧ ((P.main.file : Str) == file) = true
  cell : ∃ cl cld csl, K.lookup cc = some ⟨cl, cld, .cell (some (.ref C)), csl⟩
  sub : PySem.W.mroIn K C (.ref C) = some true
  sup : PySem.W.ks_superIn K C C "__init__" = some (some (.builtin "ValueError.__init__"))
  ve : PySem.W.subIn K (.ref C) (.type "ValueError") = some true
  op : PySem.W.nsIn K cStatics "thirdparty.any" = some none
  top : (P.main.scope.names.lookup ("super" : Str)).isSome = false
section
variable {X : Cx} {pins : List (Addr × Obj)} {σ : L2.St} {H : Hp} {s : Shared}
theorem super_stmt {a C f cc cda : Addr} {fd : FuncData} {ar : Arg} {arg : Expr} {body : List Stmt} {t : TA} {p0 p1 apos pos spos : Pos} {Qn : Hp → Prop} {pl : Sem Bool} (S : SupI X.prog X.K C f cc cda fd ar) (T : OexC X.K C) (hm : X.mg "super" = none)
    (hfu : X.env.func = some f) (hco : X.env.code = .ref cda) (hce : X.env.cells.lookup ("__class__" : Str) = some cc) (hks : X.env.scope.names.lookup ("super" : Str) = some .globalImplicit) (hkc : X.env.scope.names.lookup ("__class__" : Str) = some .free) (hka : X.env.scope.names.lookup ar.arg = some .local) (hN : X.N[0]? = some ar.arg)
    (hc : eval (.Call (.Attribute (.Call (.Name "super" p0) [] [] p1) "__init__" apos) [arg] [] pos) X.env = (do
      let ov ← attributeBase (.Call (.Name "super" p0) [] [] p1) "__init__" X.env (eval (.Call (.Name "super" p0) [] [] p1) X.env)
      standAt apos.atName
      let (f, first) ← holding [ov] (getMethod ov "__init__" pl)
      callWith pos f first (backTo pos (starEach [arg] X.env)) []))
    (hsw : swapsWith (.Call (.Attribute (.Call (.Name "super" p0) [] [] p1) "__init__" apos) [arg] [] pos) none spos.line X.env = pure false)
    (hi : interactive X.env = false) (I : Inv X pins σ H s) (hσ : σ[0]? = some (some (.ref a))) (e : H a = some (exo a C none)) (ha : PA X [arg] t) (hstar : starEach [arg] X.env = [(false, eval arg X.env)])
    (ht : t σ H fun vs H1 => vs.length ≤ 1000 ∧ H1 a = some (exo a C none) ∧ Qn H1) :
    PySem.wpAt (model X.prog X.w) X.A (.func body X.env) (exec (.Expr (.Call (.Attribute (.Call (.Name "super" p0) [] [] p1) "__init__" apos) [arg] [] pos) spos) X.env) (fun fl s' => fl = .next ∧ ∃ H1, Inv X pins σ H1 s' ∧ Qn H1) X.xe s := by
  obtain ⟨oc, od, osl, hf⟩ := S.fn
  obtain ⟨ccl, cdd, vs, ccs, file, tf, hcode, hvs, hfile⟩ := S.code
  obtain ⟨cl, cld, csl, hcell⟩ := S.cell
  have hsup := S.sup
  unfold PySem.W.ks_superIn at hsup
  cases hcd : PySem.W.clsIn X.K C with
  | none => rw [hcd] at hsup; cases hsup
  | some cd =>
  rw [hcd] at hsup
  obtain ⟨t1, ho⟩ := exo_at I.hok e
  obtain ⟨mb, hb1, hb2⟩ := I.ok.mod.blt
  obtain ⟨m, hns, hloc⟩ := I.loc
  obtain ⟨u0, ru, hlook⟩ := hloc 0 ar.arg (.ref a) hN hσ (.inl hka)
  obtain rfl : u0 = Value.ref a := ru
  refine ks_wpAt_Expr_any (ks_wpAt_MethodCall ?_ hc) hi hsw
  obtain ⟨hp, g, d, tk, os⟩ := s
  have hD := hcd
  unfold PySem.W.clsIn at hD
  split at hD
  · rename_i c0 d0 cd0 sl0 hCl
    cases hD
    have hCo := I.kIn _ _ hCl
    refine ks_wpAt_super_base (f := f) (cc := cda) (ar := ar) (vs := vs) (file := file) (tf := tf) (fd := fd) hks hkc (by decide) hfu (I.kIn _ _ hf) rfl S.hd hco (I.kIn _ _ hcode) rfl hvs hfile S.top ?_
    refine PySem.W.ks_loadName_global I.ok.kind hks (Calls.loadGlobal_builtin (by rw [I.ok.glob]; exact I.ok.mod.glob.keeps I.bk) hm (by rw [I.ok.blt]; exact hb1.keeps I.bk) ((hb2 "super" (by decide)).trans (by decide +kernel)) ⟨rfl, ?_⟩)
    refine wpAny_loadName_free I.ok.kind hkc hce ⟨_, I.kIn _ _ hcell, rfl⟩ ?_
    rcases hlook with ⟨_, hv⟩ | ⟨hk, _⟩
    · refine wpAny_loadName_local I.ok.kind hka hns hv ?_
      refine ks_wpAny_isType_cls hCo rfl ⟨rfl, ?_⟩
      refine ks_wpAny_call_super hCo rfl ho rfl (fun c z => nomatch z) (PySem.W.looks_mroIn I.kIn S.sub) fun h' e1 k1 => ?_
      have I1 : Inv X pins σ H ⟨h', g, d, tk, os⟩ := I.kept (t' := tk) k1
      obtain ⟨t2, ho1⟩ := exo_at I1.hok e
      have hne : a ≠ C := fun z => by
        subst z
        rw [ho] at hCo
        cases hCo
      refine PySem.W.kxs_getMethod PySem.W.kxs_ValueError e1 (PySem.W.looks_opaque I1.kIn S.op) (l₀ := _) (fun A Q E s k q => wpAny_bind ((PySem.W.looks_clsIn I1.kIn hcd) A _ E s k (wpAny_pure q))) rfl I1.kIn hsup ((show PySem.W.InstAt h' a _ C none from ⟨ho1, rfl, rfl, True.intro⟩).type.andThen (PySem.W.looks_subIn I1.kIn S.ve)) hne (by decide) ?_
      have I2 := ClX.pin_new (a := h'.objs.size) (o := PySem.W.kxs_mw "ValueError.__init__" a) (t' := tk + 1) I1 (fun _ _ z => Heap.get?_push_of_some _ z) (Nat.le_refl _) (Heap.get?_push_size h' rfl) (fun v z => nomatch z)
      have hrun := ha.run pos _ _ σ H _ I2 ht
      rw [hstar] at hrun ⊢
      refine PySem.W.kxs_callWith (i := "ValueError.__init__") (x := a) rfl (Calls.evalArgs_plain (thn hrun fun us s3 ⟨ws, H3, I3, rv, hl, e3, q⟩ => ⟨ClX.pin_at I3, ?_⟩))
      refine mw_call T I3 e3 (ClX.pin_at I3) ?_ fun s4 I4 => ⟨rfl, H3, ClX.unpin I4, q⟩
      show us.length ≤ sizeLine
      rw [← rv.length]
      exact Nat.le_trans hl (by decide)
    · have hk' : X.env.scope.names.lookup ar.arg = some .cell ∨ X.env.scope.names.lookup ar.arg = some .free := hk
      rw [hka] at hk'
      rcases hk' with z | z <;> cases z
  · cases hD
end
end TX
end
section
set_option Elab.async false
set_option maxRecDepth 100000
set_option linter.all false
namespace TX
open PySem PySem.Spec PyProof.Rows L2 NdefX
theorem super_fn {CX : CXT} {P : Program} {w : World} {K : PySem.W.Frag} {mg : Str → Option Value} {base : Heap} {k : Nat} {f C cc cda : Addr} {name qual : Str} {params : Arguments} {body rest : List Stmt} {scope : Scope} {kV doc pm ct oc : Value} {an od : Option Addr} {osl : Array (Option Value)}
    {N ps : List Str} {sp : Sp} {ar : Arg} {arg : Expr} {p0 p1 apos pos spos : Pos}
    (lk : K.lookup f = some ⟨oc, od, .func (PySem.W.fnX name qual params body scope [("__class__", cc)] .none kV doc pm an (.ref cda) ct), osl⟩) (hcd : PySem.W.codeIn K (.ref cda) qual = true) (S : NScope N ps ["__class__"] scope)
    (U : SupI P K C f cc cda (PySem.W.fnX name qual params body scope [("__class__", cc)] .none kV doc pm an (.ref cda) ct) ar) (T : OexC K C) (hm : mg "super" = none)
    (hbd : body = .Expr (.Call (.Attribute (.Call (.Name "super" p0) [] [] p1) "__init__" apos) [arg] [] pos) spos :: rest)
    (hks : scope.names.lookup ("super" : Str) = some .globalImplicit) (hka : scope.names.lookup ar.arg = some .local) (hN : N[0]? = some ar.arg) (len : ∀ vs H Q E, sp vs H Q E → vs.length = ps.length)
    (hst : ∀ env : Env, ∀ L : Addr, env = envF ⟨name, qual, params, body, scope, [("__class__", cc)], cda⟩ f L → ∃ pl : Sem Bool, eval (.Call (.Attribute (.Call (.Name "super" p0) [] [] p1) "__init__" apos) [arg] [] pos) env = (do
      let ov ← attributeBase (.Call (.Name "super" p0) [] [] p1) "__init__" env (eval (.Call (.Name "super" p0) [] [] p1) env)
      standAt apos.atName
      let (f, first) ← holding [ov] (getMethod ov "__init__" pl)
      callWith pos f first (backTo pos (starEach [arg] env)) []) ∧ swapsWith (.Call (.Attribute (.Call (.Name "super" p0) [] [] p1) "__init__" apos) [arg] [] pos) none spos.line env = pure false ∧ interactive env = false ∧ starEach [arg] env = [(false, eval arg env)])
    (hbody : ∀ (A : Around) (outer : List Env) (s : Shared) (H : Hp) (vs : List V) (Q : VK) (E : XK), sp vs H Q E → ∃ (a : Addr) (Mid : Hp → Prop) (ta : TA) (t : TS),
      PA (ncx CX P w K mg base N ⟨name, qual, params, body, scope, [("__class__", cc)], cda⟩ f A outer s H E) [arg] ta ∧ PSs (ncx CX P w K mg base N ⟨name, qual, params, body, scope, [("__class__", cc)], cda⟩ f A outer s H E) rest t ∧
      (startF N vs [some (.ref C)])[0]? = some (some (.ref a)) ∧ H a = some (exo a C none) ∧ ta (startF N vs [some (.ref C)]) H (fun vs H1 => vs.length ≤ 1000 ∧ H1 a = some (exo a C none) ∧ Mid H1) ∧
      ∀ H1, Mid H1 → t { nx := fun _ H' => Q .non H', rt := Q } (startF N vs [some (.ref C)]) H1) :
    FnOk P w K mg base CX (k + 1) f (PySem.W.fnX name qual params body scope [("__class__", cc)] .none kV doc pm an (.ref cda) ct) ps sp := by
  refine ⟨len, fun A outer s H args us vs Q E hr e0 hb r hsp => ?_⟩
  have hl := len _ _ _ _ hsp
  have KX : K.In s.heap := e0.mod.kin.keeps fun b o e => (e0.bs b o e).1
  have lim : s.heap.NoLimit := e0.mod.nolimit.keeps fun b o e => (e0.bs b o e).1
  obtain ⟨cl, cld, csl, hcell⟩ := U.cell
  have one : ∀ {y : Str} {c : Addr}, ([("__class__", cc)] : List (Str × Addr)).lookup y = some c → y = "__class__" ∧ c = cc := fun {y c} h => by
    rw [List.lookup_cons] at h
    cases e : (y == ("__class__" : Str)) with
    | true => rw [e] at h; exact ⟨eq_of_beq e, (Option.some.inj h).symm⟩
    | false => rw [e] at h; cases h
  have cells : CellsAt [("__class__", cc)] ["__class__"] [some (.ref C)] s.heap H := by
    refine ⟨rfl, fun y c h => ?_, fun x y c h1 h2 => (one h1).1.trans (one h2).1.symm, fun i y h => ?_⟩
    · obtain ⟨rfl, rfl⟩ := one h
      exact ⟨(e0.bs _ _ (e0.mod.kin _ _ hcell)).2, _, _, KX _ _ hcell, rfl⟩
    · match i, h with
      | 0, h =>
        obtain rfl : ("__class__" : Str) = y := Option.some.inj h
        exact ⟨cc, rfl, fun v e => ⟨.ref C, by cases e; rfl, _, KX _ _ hcell, rfl⟩⟩
      | i + 1, h => cases h
  obtain ⟨a, Mid, ta, t, hA, hS, h0, ea, hta, ht⟩ := hbody A outer s H vs Q E hsp
  refine ks_codeAny_call_defAt (body := body) (binds := ps.zip us) hr.depth (KX _ _ lk) rfl lim (PySem.W.codeRec_of KX hcd) rfl hb S.nocell (fun ⟨n, _⟩ hy => S.par n (List.of_mem_zip hy).1) (fun h₁ hns kp => ?_) S.co S.gen S.kind
  have I : Inv (ncx CX P w K mg base N ⟨name, qual, params, body, scope, [("__class__", cc)], cda⟩ f A outer s H E) [] (startF N vs [some (.ref C)]) H { s with heap := h₁, toks := s.toks + (ps.zip us).length } := inv_startN S hr.hd e0 hl r cells hns kp
  obtain ⟨pl, hc, hsw, hi, hstar⟩ := hst (envF ⟨name, qual, params, body, scope, [("__class__", cc)], cda⟩ f s.heap.objs.size) _ rfl
  have fin : ∀ {σ' : L2.St} {H' : Hp} {v : V} {u : Value} {s' : Shared}, Inv (ncx CX P w K mg base N ⟨name, qual, params, body, scope, [("__class__", cc)], cda⟩ f A outer s H E) [] σ' H' s' → L2.RelV v u → Q v H' → CE outer P w H s Q u s' :=
    fun {σ' H' v u s'} J rv q => ⟨v, H', J.os, J.bare, J.base, J.hok, rv, q⟩
  have first := super_stmt (X := ncx CX P w K mg base N ⟨name, qual, params, body, scope, [("__class__", cc)], cda⟩ f A outer s H E) (body := body) (Qn := Mid) U T hm rfl rfl rfl hks (S.frk _ (by simp)) hka hN hc hsw hi I h0 ea hA hstar hta
  subst hbd
  refine ks_wpAt_execs_cons (ks_wpAt_mono first (fun fl s1 ⟨e, H1, I1, q1⟩ => ?_) fun _ _ z => z)
  subst e
  refine wpAt_of_wpAny (wpAny_mono (hS.run [] s1 _ H1 _ I1 (ht H1 q1)) (fun fl s' hs => ?_) fun _ _ z => z)
  cases fl with
  | ret u =>
    obtain ⟨v, σ', H', J, rv, q⟩ := hs
    exact fin J rv q
  | next =>
    obtain ⟨σ', H', J, q⟩ := hs
    exact fin (v := V.non) (u := Value.none) J rfl q
  | brk =>
    obtain ⟨_, _, _, q⟩ := hs
    exact False.elim q
  | cont =>
    obtain ⟨_, _, _, q⟩ := hs
    exact False.elim q
end TX
end
section
set_option Elab.async false
set_option maxRecDepth 100000
set_option linter.all false
namespace TX
open PySem PySem.Spec PyProof.Rows L2 NdefX TK
section
variable {CX : CXT} {P : Program} {w : World} {K : PySem.W.Frag} {mg : Str → Option Value} {base : Heap} {f C cc cda : Addr} {kV doc pm ct oc : Value} {an od : Option Addr} {osl : Array (Option Value)} {ar : Arg}
/-- the field is stored: how the exception lies then -/
def spIw (C : Addr) : Sp := fun vs H Q _ => ∃ (a : Addr) (n : Nat), vs = [.ref a, .int n] ∧ H a = some (exo a C none) ∧ n ≤ 63 ∧ ∀ dx, H dx = none → dx ≠ a → Q .non (upd (upd H dx (exd dx [("index", .int n)])) a (exo a C (some dx)))
theorem log_small {n : Nat} (h : n ≤ 63) : n.log2 < 1920 := by
  have : n.log2 ≤ n := Nat.log2_le_self n
  omega
theorem small_text {n : Nat} {z : Str} (h : n ≤ 63) (hz : z.length ≤ 1000) : (z ++ (toString (n : Int) : Str)).length ≤ sizeLine := by
  have h1 : (toString (n : Int)).length ≤ 3 := int_text_length_le10 (k := 2) (by decide) (by rw [Int.natAbs_natCast]; omega)
  have h2 : ((toString (n : Int) : Str)).length = (toString (n : Int)).length := PySem.ofString_length _
  have h3 : (z ++ (toString (n : Int) : Str)).length = z.length + (toString (n : Int) : Str).length := by
    show (z.cps ++ _).size = _
    rw [Array.size_append]
    rfl
  rw [h3, h2, sizeLine_eq]
  omega
end
end TX
end
section
set_option Elab.async false
set_option maxRecDepth 100000
set_option linter.all false
namespace TK
open PySem L2 TM
open TX
/-- is the sign at i wrong -/
def wrongAt (t : List Nat) (i : Nat) : Bool := decide (60 ≤ i) || !(isT (t.getD i 0))
def Fw (t : List Nat) : Option Nat → Prop
  | none => ∀ j, j < t.length → wrongAt t j = false
  | some i => i < t.length ∧ wrongAt t i = true ∧ ∀ j, j < i → wrongAt t j = false
theorem Fw.le {t : List Nat} {i : Nat} (h : Fw t (some i)) : i ≤ 60 := by
  refine Nat.le_of_not_lt fun q => ?_
  have := h.2.2 60 q
  unfold wrongAt at this
  simp at this
theorem Fw.uniq {t : List Nat} {r s : Option Nat} (h : Fw t r) (k : Fw t s) : r = s := by
  cases r with
  | none =>
    cases s with
    | none => rfl
    | some i => have := h i k.1; rw [k.2.1] at this; cases this
  | some j =>
    cases s with
    | none => have := k j h.1; rw [h.2.1] at this; cases this
    | some i =>
      rcases Nat.lt_trichotomy i j with q | q | q
      · have := h.2.2 i q; rw [k.2.1] at this; cases this
      · rw [q]
      · have := k.2.2 j q; rw [h.2.1] at this; cases this
def optV : Option Nat → V
  | none => .non
  | some i => .int (i : Nat)
section
variable {P : Program} {w : World} {K : PySem.W.Frag} {mg : Str → Option Value} {base : Heap} {C fT : Addr} {fdT : FuncData}
/-- a value that is no text -/
def NoText (K : PySem.W.Frag) (H : Hp) (x : V) : Prop := ∃ ty, TyX K H x (.type ty) ∧ kitB ty "str" = some false
def spFwx (K : PySem.W.Frag) : Sp := fun vs H Q _ => (∃ t : List Nat, vs = [.str (S t)] ∧ t.length ≤ 1000 ∧ ∀ H' r, Same H H' → Fw t r → Q (optV r) H') ∨ ∃ x, vs = [x] ∧ NoText K H x ∧ Q (.int 0) H
/-- what is written of an exception class of the program -/
structure ExcT (K : PySem.W.Frag) (mg : Str → Option Value) (x : Str) (CE fE : Addr) : Prop where
  ox : OexC K CE
  mgE : mg x = some (.ref CE)
  iE : PySem.W.findIn K (.ref CE) "__init__" = some (some (.ref fE))
  tE : PySem.W.typeIn K (.ref fE) = some (.type "function")
def spWix (K : PySem.W.Frag) (C CE : Addr) : Sp := fun vs H Q E => ∃ (p dx : Addr) (x : V), vs = [.ref p, x] ∧ H p = some (.ins C dx []) ∧
  ((∃ t : List Nat, x = .str (S t) ∧ t.length ≤ 1000 ∧ (∀ H', Fw t none → WordAt C H' p t → (∀ b o, H b = some o → b ≠ p → H' b = some o) → Q .non H') ∧
      ∀ H' d i, Fw t (some i) → (∀ b o, H b = some o → H' b = some o) → H d = none → H' d = some (.xd [("index", .int (i : Nat))]) → E (.ref CE) (some d) H') ∨
    (NoText K H x ∧ ∀ H' d, (∀ b o, H b = some o → H' b = some o) → H d = none → H' d = some (.xd [("index", .int 0)]) → E (.ref CE) (some d) H'))
end
end TK
end
section
set_option Elab.async false
set_option maxRecDepth 100000
set_option linter.all false
namespace TX
open PySem PySem.Spec PyProof.Rows L2
/-- isinstance(e, c), e the exception that the suite holds, its dict at d -/
def rIsX (K : PySem.W.Frag) (cls : Value) (a : Addr) (d : Option Addr) : List V → Hp → VK → Prop := fun xs H Q => ∃ (D : Addr) (c : V) (cv : Value) (b : Bool), cls = .ref D ∧ ExcC K D ∧ xs = [.ref a, c] ∧ (∀ u, RelV c u → u = cv) ∧ (∀ dd, d = some dd → ∃ fs, H dd = some (.xd fs)) ∧ PySem.W.kitOne K (.ref D) cv = some b ∧ Q (.bl b) H
theorem call_isX {X : Cx} {a : Addr} {cls : Value} {d : Option Addr} {oe : Obj} {pn : List (Addr × Obj)} (hz : Zc cls d oe) (hf : ∃ vs, oe.data = .fields vs) : CallR (X.suite a ((a, oe) :: pn)) (.builtin "isinstance") (rIsX X.K cls a d) := by
  intro pins s σ H xs us Q I r h
  obtain ⟨D, c, cv, b, rfl, C, rfl, hcv, hdd, e, q⟩ := h
  obtain ⟨u1, u2, rfl, rx, rt⟩ := vals2 r
  obtain rfl : u1 = Value.ref a := rx
  obtain rfl := hcv _ rt
  obtain ⟨hget, _⟩ := I.pin (a, oe) (List.mem_append.mpr (.inl List.mem_cons_self))
  obtain ⟨vs, hv⟩ := hf
  obtain ⟨od, J⟩ : ∃ od, PySem.W.InstAt s.heap a oe D od := by
    cases d with
    | none => exact ⟨none, hget, hz.1, by unfold PySem.W.notCls; rw [hv] <;> rfl, by rw [hz.2]; exact True.intro⟩
    | some dd =>
      obtain ⟨fs, hx⟩ := hdd dd rfl
      have hx' : ObjOk X.prog X.w H s.heap dd (.xd fs) := I.hok dd _ hx
      obtain ⟨mA, hns, _⟩ := hx'
      obtain ⟨od, ho, _⟩ := lookIn_ns hns
      exact ⟨some od, hget, hz.1, by unfold PySem.W.notCls; rw [hv] <;> rfl, by rw [hz.2]; exact ho⟩
  have hcl : (PySem.W.clsIn X.K D).isSome = true := by
    obtain ⟨cd, hc, _⟩ := PySem.W.any_some C.hd
    rw [hc]
    rfl
  exact PySem.W.kia_one (PySem.W.kitx_exc hcl C.hg C.hk C.hs C.ha C.hn C.ht C.hm) I.kIn J e (fun z => nomatch z) fun tk => ⟨.bl b, H, I.kept (t' := tk) fun _ _ z => z, rfl, q⟩
/-- xs.count(k), xs of bools -/
def rCntB (K : PySem.W.Frag) : V → List V → Hp → VK → Prop := fun x xs H Q => ∃ (p : Addr) (bs : List Bool) (k : Bool), x = .ref p ∧ xs = [.bl k] ∧ SqL K H p (bs.map V.bl) ∧ Q (.int (bs.count k : Nat)) H
def isB (k : Bool) : Value → Bool
  | .bool b => b == k
  | _ => false
theorem isB_count {k : Bool} : ∀ {bs : List Bool} {us : List Value}, Vals (bs.map V.bl) us → us.countP (isB k) = bs.count k
  | [], us, h => by cases h; rfl
  | b :: bs, us, h => by
    cases h with
    | @cons _ u _ ur ru rr =>
      obtain rfl : u = Value.bool b := ru
      rw [List.countP_cons, isB_count rr, List.count_cons]
      rfl
theorem mt_countB {X : Cx} : MtR X "list.count" (rCntB X.K) := by
  intro pins s σ H x xs v us Q I rx rxs h
  obtain ⟨p, bs, k, rfl, rfl, hs, q⟩ := h
  cases rx
  obtain ⟨u, rfl, ru⟩ := rxs.one
  obtain rfl : u = Value.bool k := ru
  obtain ⟨its, rv, ⟨⟨cls, dd, data, sl⟩, n, ho, hc, hdn, hd⟩, hlen⟩ := I.list hs
  simp only at hc hd
  subst hc hd
  refine call_meets PySem.F.slot_list_count ⟨_, ho, rfl⟩ PySem.F.entry_list_count (PySem.F.args_list_count_2 _ _)
    (SeqAt.list_countAt p its.toArray n dd sl (.bool k) (isB k)) ⟨ho, fun y hy => ?_, ?_⟩
  · obtain ⟨i, hi⟩ := List.mem_iff_getElem?.mp (show y ∈ its by simpa using hy)
    obtain ⟨b, rb⟩ : ∃ b, y = Value.bool b := by
      have hl := rv.length
      have hb : i < bs.length := by
        have := (List.getElem?_eq_some_iff.mp hi).1
        rw [List.length_map] at hl
        omega
      obtain ⟨u, hu, ru⟩ := rv.get (i := i) (x := V.bl bs[i]) (by rw [List.getElem?_map, List.getElem?_eq_getElem hb]; all_goals rfl)
      rw [hi] at hu
      cases hu
      exact ⟨_, ru⟩
    subst rb
    exact eqAt_V (y := .bl b) (x := .bl k) rfl rfl rfl rfl
  · refine ⟨.int (bs.count k : Nat), H, I.tok _, ⟨s.toks, ?_⟩, q⟩
    show Value.int ((its.toArray.toList.countP (isB k) : Nat) : Int) s.toks = Value.int ((bs.count k : Nat) : Int) s.toks
    rw [show its.toArray.toList = its by simp, isB_count rv]
end TX
end
section
set_option Elab.async false
set_option maxRecDepth 100000
set_option linter.all false
namespace TA
open PySem PySem.Spec PyProof.Rows L2 LamX TX
def top (i : Nat) : Stmt := PySem.Challenge.pw_tiltheap_k01_words_of_tilts.main.body.getD i (.Pass ⟨0, 0, 0, 0⟩)
abbrev sInvalidWordInit : Stmt := inClass (top 3) 0
abbrev sIsNumber : Stmt := top 10
abbrev sIsTilt : Stmt := top 16
abbrev sWordInit : Stmt := inClass (top 17) 1
abbrev sWordText : Stmt := inClass (top 17) 2
abbrev sWordCorner : Stmt := inClass (top 17) 3
abbrev sWordLen : Stmt := inClass (top 17) 6
abbrev sWordGetitem : Stmt := inClass (top 17) 7
abbrev sWordContains : Stmt := inClass (top 17) 9
abbrev sWordAdd : Stmt := inClass (top 17) 10
abbrev sWordMul : Stmt := inClass (top 17) 11
abbrev sWordNeg : Stmt := inClass (top 17) 12
abbrev sWordEq : Stmt := inClass (top 17) 13
abbrev sFirstWrongIndex : Stmt := top 18
abbrev sLastAlong : Stmt := top 19
abbrev sLawTaken : Stmt := top 21
abbrev sLawAlike : Stmt := top 22
abbrev sLawRaised : Stmt := top 23
abbrev sLawText : Stmt := top 24
abbrev sLawCorner : Stmt := top 25
abbrev sLawIsWord : Stmt := top 26
abbrev sLaw : Stmt := top 27
abbrev NRa : List Str := ["_law_work", "e", "_law_kinds", "_law_at", "_law_word"]
theorem scRa : FnScope NRa ["_law_work"] (defScope sLawRaised) := ⟨rfl, rfl, rfl, by decide +kernel, rfl, by decide +kernel, by decide +kernel⟩
/-- the error classes by their number -/
structure TxtE (K : PySem.W.Frag) (mg : Str → Option Value) (ce : Nat → Addr) (cT : Addr) : Prop where
  g0 : mg "InvalidWord" = some (.ref (ce 0))
  g1 : mg "InvalidTray" = some (.ref (ce 1))
  g2 : mg "UnknownMarble" = some (.ref (ce 2))
  g3 : mg "InvalidPlace" = some (.ref (ce 3))
  g4 : mg "InvalidNumber" = some (.ref (ce 4))
  g5 : mg "SameMarble" = some (.ref (ce 5))
  gT : mg "TrayError" = some (.ref cT)
  isi : mg "isinstance" = none
  ve : mg "ValueError" = none
  x0 : XfC K (ce 0)
  x1 : XfC K (ce 1)
  x2 : XfC K (ce 2)
  n0 : PySem.W.findIn K (.ref (ce 0)) "index" = some none
  n1 : PySem.W.findIn K (.ref (ce 1)) "row" = some none
  n2 : PySem.W.findIn K (.ref (ce 1)) "column" = some none
  n3 : PySem.W.findIn K (.ref (ce 2)) "marble" = some none
  xc : ∀ j, j < 6 → ExcC K (ce j)
  one : ∀ j k, j < 6 → k < 6 → PySem.W.kitOne K (.ref (ce j)) (.ref (ce k)) = some (j == k)
  isv : ∀ j, j < 6 → PySem.W.kitOne K (.ref (ce j)) (.type "ValueError") = some true
  ism : ∀ j, j < 6 → PySem.W.exmOne K (.ref (ce j)) (.ref cT) = some true
/-- what the suite says of the j-th class, its fields fs -/
def told (j : Nat) (fs : List (Str × V)) : Option (List V) := match j with
  | 0 => (fs.lookup ("index" : Str)).map fun v => [.str "word", v]
  | 1 => match fs.lookup ("row" : Str), fs.lookup ("column" : Str) with
    | some v, some u => some [.str "tray", v, u]
    | _, _ => none
  | 2 => (fs.lookup ("marble" : Str)).map fun v => [.str "nomarble", v]
  | 3 => some [.str "place"]
  | 4 => some [.str "number"]
  | _ => some [.str "same"]
theorem same_new {H : Hp} {l : Addr} {o : HO} (h : H l = none) : Same H (upd H l o) := fun b o' e => by
  rw [upd_ne (ne_of_none e h)]
  exact e
abbrev six (j : Nat) : List Bool := [j == 0, j == 1, j == 2, j == 3, j == 4, j == 5]
def wordOf (j : Nat) : Str := match j with
  | 0 => "word"
  | 1 => "tray"
  | 2 => "nomarble"
  | 3 => "place"
  | 4 => "number"
  | _ => "same"
theorem six_all {p : Nat → Prop} (h0 : p 0) (h1 : p 1) (h2 : p 2) (h3 : p 3) (h4 : p 4) (h5 : p 5) : ∀ j, j < 6 → p j
  | 0, _ => h0
  | 1, _ => h1
  | 2, _ => h2
  | 3, _ => h3
  | 4, _ => h4
  | 5, _ => h5
theorem six_count : ∀ j, j < 6 → (six j).count true = 1 := six_all (by decide) (by decide) (by decide) (by decide) (by decide) (by decide)
theorem six_at : ∀ j, j < 6 → ((six j).map V.bl)[j]? = some (V.bl true) := six_all rfl rfl rfl rfl rfl rfl
theorem six_no : ∀ j, j < 6 → ∀ (m : Nat) (z : V), m < j → ((six j).map V.bl)[m]? = some z → eqV z (V.bl true) = false := fun j hj m z hm hz => by
  have : ∀ j : Fin 6, ∀ m : Fin 6, m.1 < j.1 → (six j.1)[m.1]? = some false := by decide
  have h := this ⟨j, hj⟩ ⟨m, by omega⟩ hm
  rw [List.getElem?_map, h] at hz
  cases hz
  rfl
theorem six_word : ∀ j, j < 6 → ([V.str "word", V.str "tray", V.str "nomarble", V.str "place", V.str "number", V.str "same"] : List V)[j]? = some (V.str (wordOf j)) := six_all rfl rfl rfl rfl rfl rfl
theorem six_flat (j : Nat) : ((six j).map V.bl).all flatV = true := rfl
theorem ix_listK {X : Cx} {K : PySem.W.Frag} (h : X.K = K) : IxR X (rIxL K) := by
  subst h
  exact ix_list
theorem mt_countBK {X : Cx} {K : PySem.W.Frag} (h : X.K = K) : MtR X "list.count" (rCntB K) := by
  subst h
  exact mt_countB
theorem mt_indexK {X : Cx} {K : PySem.W.Frag} (h : X.K = K) : MtR X "list.index" (rIndex K) := by
  subst h
  exact mt_index
theorem pe_bmK {X : Cx} {K : PySem.W.Frag} {o e : Expr} {es : List Expr} {to : TE} {t : TA} {name : Str} {apos cpos : Pos} {Ty id : String} {r : V → List V → Hp → VK → Prop} (h : X.K = K) (pa : PlainAttrs Ty) (slot : Slot Ty name id) (hty : typeOf (.builtin id) = pure (.type "method_descriptor")) (hm : MtR X id r) (ho : PE X o to) (ha : PA X (e :: es) t)
    (hbase : attributeBase o name X.env (eval o X.env) = eval o X.env := by rfl)
    (hfew : ((backTo cpos (starEach (e :: es) X.env)).all (fun z => !z.1) && (backToKw cpos (keywordEach [] X.env)).all (fun z => z.1.isSome) && decide ((e :: es).length + ([] : List Keyword).length + (if ([] : List Keyword).isEmpty then 0 else 1) < 30)) = true := by rfl)
    (hline : (apos.endLine == cpos.line) = true := by rfl)
    (he : starEach (e :: es) X.env = (false, eval e X.env) :: starEach es X.env := by rfl) (hpl : (backTo cpos (starEach es X.env)).any (·.1) = false := by rfl) : PE X (.Call (.Attribute o name apos) (e :: es) [] cpos) (tBM K Ty r to t) := by
  subst h
  exact pe_bm pa slot hty hm ho ha hbase hfew hline he hpl
/-- what is raised is wished for at slots of the frame's length alone -/
theorem takes_len {X : Cx} {W : WX} (t : Takes X W) : Takes X (fun c d σ H => σ.length = X.N.length → W c d σ H) := fun u s' ⟨a, B, sI, pins, σ, H, cls, d, e, I, nb, up, sky, na, os, ag, w⟩ =>
  t u s' ⟨a, B, sI, pins, σ, H, cls, d, e, I, nb, up, sky, na, os, ag, w I.len⟩
section
variable {X : Cx} {ce : Nat → Addr} {cT : Addr}
/-- None where nothing is raised; else the words of the error -/
def TRa (ce : Nat → Addr) : (XK → Hp → VK → Prop) → Hp → VK → Prop := fun tl H Q =>
  tl (fun cls d H' => ∃ (j : Nat) (fs : List (Str × V)) (xs : List V), j < 6 ∧ cls = .ref (ce j) ∧ (∀ dd, d = some dd → H' dd = some (.xd fs)) ∧ (j < 3 → d ≠ none) ∧ told j fs = some xs ∧
    ∀ H2 p, (∀ b o, H' b = some o → H2 b = some o) → H2 p = some (.tup xs) → Q (.ref p) H2) H (fun _ H' => Q .non H')
theorem raised_gives {g : Addr} {cdg : Value} {q : Str} (T : TxtE X.K X.mg ce cT) : GivesTo X NRa "_law_raised" (defScope sLawRaised) g cdg (defBody sLawRaised) "_law_work" q (TRa ce) := by
  intro f c' s H Q tl act hc h
  refine ⟨_, pss_cons (ps_try_as (X := (cxOf C8.CX0 X.prog X.w X.K X.mg X.base NRa "_law_raised" (defScope sLawRaised) g cdg X.A X.stack s H C8.E0).nox) (i := 1) (c := .ref cT)
      (tb := fun W D σ H => ∃ Ech : XK, (∀ cls d σ' H', σ'.length = 5 → Ech cls d H' → W cls d σ' H') ∧ σ[0]? = some (some (.ref f)) ∧ H c' = some (CodeO c' q) ∧ tl Ech H fun _ H1 => D.nx σ H1)
      rfl rfl scRa.nd rfl rfl ⟨rfl, by decide, .inl T.gT⟩ L2.takes0 (fun W pn xe tk _ => ?_) (fun a oe cls d pn hz hf => pss_cons (ps_set (i := 2) scRa.nd rfl (.inl rfl) (pe_lst
        (pa_cons (pe_callB (call_isX hz hf) (by rfl) T.isi (by decide +kernel) (pa_cons (pv 1) (pa_cons (pe_glob (v := .ref (ce 0)) rfl T.g0 rfl) pa_nil)))
        (pa_cons (pe_callB (call_isX hz hf) (by rfl) T.isi (by decide +kernel) (pa_cons (pv 1) (pa_cons (pe_glob (v := .ref (ce 1)) rfl T.g1 rfl) pa_nil)))
        (pa_cons (pe_callB (call_isX hz hf) (by rfl) T.isi (by decide +kernel) (pa_cons (pv 1) (pa_cons (pe_glob (v := .ref (ce 2)) rfl T.g2 rfl) pa_nil))) pa_nil)))))
      (pss_cons (ps_set (i := 2) scRa.nd rfl (.inl rfl) (pe_op op_cat (pv 2) (pe_lst
        (pa_cons (pe_callB (call_isX hz hf) (by rfl) T.isi (by decide +kernel) (pa_cons (pv 1) (pa_cons (pe_glob (v := .ref (ce 3)) rfl T.g3 rfl) pa_nil)))
        (pa_cons (pe_callB (call_isX hz hf) (by rfl) T.isi (by decide +kernel) (pa_cons (pv 1) (pa_cons (pe_glob (v := .ref (ce 4)) rfl T.g4 rfl) pa_nil)))
        (pa_cons (pe_callB (call_isX hz hf) (by rfl) T.isi (by decide +kernel) (pa_cons (pv 1) (pa_cons (pe_glob (v := .ref (ce 5)) rfl T.g5 rfl) pa_nil))) pa_nil))))))
      (pss_cons (ps_if (PW.pt (pw_or (pt_cmpR op_ne (pe_bmK (K := X.K) rfl PySem.F.plainAttrs_list PySem.F.slot_list_count PySem.F.type_list_count (mt_countBK (K := X.K) rfl) (pv 2) (pa_cons pe_bl pa_nil)) pe_int (nomark _))
          (pw_or1 (pt_not (pt_val (pe_callB (call_isX hz hf) (by rfl) T.isi (by decide +kernel) (pa_cons (pv 1) (pa_cons (pe_bltn (v := .ty "ValueError") (by rfl) T.ve (by decide +kernel) rfl) pa_nil)))))))) pss_never pss_nil)
      (pss_cons (ps_set (i := 3) scRa.nd rfl (.inl rfl) (pe_bmK (K := X.K) rfl PySem.F.plainAttrs_list PySem.F.slot_list_index PySem.F.type_list_index (mt_indexK (K := X.K) rfl) (pv 2) (pa_cons pe_bl pa_nil)))
      (pss_cons (ps_set (i := 4) scRa.nd rfl (.inl rfl) (pe_ix (ix_listK (K := X.K) rfl) (pe_lst (pa_cons pe_str (pa_cons pe_str (pa_cons pe_str (pa_cons pe_str (pa_cons pe_str (pa_cons pe_str pa_nil))))))) (pv 3) (fun _ _ => rfl)))
      (pss_cons (ps_if (pt_cmpR op_eq (pv 3) pe_int (nomark _)) (pss_one (ps_ret (pe_tup (pa_cons (pv 4) (pa_cons (pe_xf T.x0 T.n0 hz hf (pv 1)) pa_nil))))) pss_nil)
      (pss_cons (ps_if (pt_cmpR op_eq (pv 3) pe_int (nomark _)) (pss_one (ps_ret (pe_tup (pa_cons (pv 4) (pa_cons (pe_xf T.x1 T.n1 hz hf (pv 1)) (pa_cons (pe_xf T.x1 T.n2 hz hf (pv 1)) pa_nil)))))) pss_nil)
      (pss_one (ps_ret (pe_ifExp (pt_cmpR op_eq (pv 3) pe_int (nomark _)) (pe_tup (pa_cons (pv 4) (pa_cons (pe_xf T.x2 T.n3 hz hf (pv 1)) pa_nil))) (pe_tup (pa_cons (pv 4) pa_nil))))))))))))) (pss_one (ps_ret pe_non)), ?_⟩
  · refine ⟨fun pins s' σ H' D I h' => ?_⟩
    obtain ⟨Ech, hW, h1, h2, h3⟩ := h'
    exact (pss_one (ps_expr (act _ pn xe Ech _ _ (takes_len tk) fun cls d σ2 H2 q hl => hW cls d σ2 H2 hl q))).run pins s' σ H' D I ⟨h1, h2, h3⟩
  · refine ⟨_, fun cls d σ' H' hσ ⟨j, fs, xs, hj, ec, hd, hdn, ht, k⟩ => ?_, rfl, hc, h⟩
    subst ec
    refine ⟨true, T.ism j hj, fun _ a ha => ?_, fun z => nomatch z⟩
    match σ', hσ with
    | [w0, w1, w2, w3, w4], _ =>
    have cl : ∀ (H1 : Hp), Same H' H1 → ∀ dd, d = some dd → ∃ fs, H1 dd = some (.xd fs) := fun H1 sm dd e => ⟨fs, sm _ _ (hd dd e)⟩
    have one : ∀ k, k < 6 → PySem.W.kitOne X.K (.ref (ce j)) (.ref (ce k)) = some (j == k) := fun k hk => T.one j k hj hk
    have cv : ∀ k, ∀ u, RelV (.ref (ce k)) u → u = .ref (ce k) := fun k u h => h
    have sm0 := Same.refl H'
    refine ⟨_, rfl, ce j, _, _, _, rfl, T.xc j hj, rfl, cv 0, cl _ sm0, one 0 (by decide), ?_⟩
    refine ⟨_, rfl, ce j, _, _, _, rfl, T.xc j hj, rfl, cv 1, cl _ sm0, one 1 (by decide), ?_⟩
    refine ⟨_, rfl, ce j, _, _, _, rfl, T.xc j hj, rfl, cv 2, cl _ sm0, one 2 (by decide), ?_⟩
    refine ⟨by show 3 ≤ sizeLine; decide, fun l1 hl1 => ?_⟩
    have sm1 := sm0.trans (same_new (o := .lst [V.bl (j == 0), V.bl (j == 1), V.bl (j == 2)]) hl1)
    refine ⟨_, rfl, ?_⟩
    refine ⟨_, rfl, ce j, _, _, _, rfl, T.xc j hj, rfl, cv 3, cl _ sm1, one 3 (by decide), ?_⟩
    refine ⟨_, rfl, ce j, _, _, _, rfl, T.xc j hj, rfl, cv 4, cl _ sm1, one 4 (by decide), ?_⟩
    refine ⟨_, rfl, ce j, _, _, _, rfl, T.xc j hj, rfl, cv 5, cl _ sm1, one 5 (by decide), ?_⟩
    refine ⟨by show 3 ≤ sizeLine; decide, fun l2 hl2 => ?_⟩
    have hl1' : (upd (upd H' l1 (.lst [V.bl (j == 0), V.bl (j == 1), V.bl (j == 2)])) l2 (.lst [V.bl (j == 3), V.bl (j == 4), V.bl (j == 5)])) l1 = some (.lst [V.bl (j == 0), V.bl (j == 1), V.bl (j == 2)]) := by
      have e1 : (upd H' l1 (.lst [V.bl (j == 0), V.bl (j == 1), V.bl (j == 2)])) l1 = some (.lst [V.bl (j == 0), V.bl (j == 1), V.bl (j == 2)]) := upd_same
      rw [upd_ne (ne_of_none e1 hl2)]
      exact e1
    have sm2 := sm1.trans (same_new (o := .lst [V.bl (j == 3), V.bl (j == 4), V.bl (j == 5)]) hl2)
    refine ⟨l1, l2, _, _, rfl, rfl, hl1', upd_same, by show 6 ≤ sizeLine; decide, fun l3 hl3 => ?_⟩
    have sm3 := sm2.trans (same_new (o := .lst ((six j).map V.bl)) hl3)
    have hl3' : (upd (upd (upd H' l1 (.lst [V.bl (j == 0), V.bl (j == 1), V.bl (j == 2)])) l2 (.lst [V.bl (j == 3), V.bl (j == 4), V.bl (j == 5)])) l3 (.lst ((six j).map V.bl))) l3 = some (.lst ((six j).map V.bl)) := upd_same
    show tSeq _ _ _ _ (upd (upd (upd H' l1 (.lst [V.bl (j == 0), V.bl (j == 1), V.bl (j == 2)])) l2 (.lst [V.bl (j == 3), V.bl (j == 4), V.bl (j == 5)])) l3 (.lst ((six j).map V.bl)))
    generalize (upd (upd (upd H' l1 (.lst [V.bl (j == 0), V.bl (j == 1), V.bl (j == 2)])) l2 (.lst [V.bl (j == 3), V.bl (j == 4), V.bl (j == 5)])) l3 (.lst ((six j).map V.bl))) = H3 at sm3 hl3'
    refine ⟨_, rfl, .inl ⟨rfl, _, SqL.of hl3'⟩, l3, six j, true, rfl, rfl, SqL.of hl3', rfl, _, rfl, ?_⟩
    rw [six_count j hj]
    refine iteF ⟨_, rfl, ce j, _, _, _, rfl, T.xc j hj, rfl, (fun u h => h), cl _ sm3, T.isv j hj, true, rfl, iteF ?_⟩
    refine ⟨_, rfl, .inl ⟨rfl, _, SqL.of hl3'⟩, l3, _, _, j, _, rfl, rfl, SqL.of hl3', rfl, six_flat j, six_at j hj, rfl, six_no j hj, ?_⟩
    refine ⟨by show 6 ≤ sizeLine; decide, fun l4 hl4 => ?_⟩
    have sm4 := sm3.trans (same_new (o := .lst [V.str "word", V.str "tray", V.str "nomarble", V.str "place", V.str "number", V.str "same"]) hl4)
    refine ⟨_, rfl, l4, _, _, _, rfl, rfl, SqL.of upd_same, atI_nat (six_word j hj), ?_⟩
    generalize upd H3 l4 (.lst [V.str "word", V.str "tray", V.str "nomarble", V.str "place", V.str "number", V.str "same"]) = H4 at sm4
    have fin : ∀ {p : Addr}, H4 p = none → Q (.ref p) (upd H4 p (.tup xs)) := fun {p} hp => k _ p (sm4.trans (same_new hp)) upd_same
    have tail : (j = 3 ∨ j = 4 ∨ j = 5) → xs = [V.str (wordOf j)] := fun h => by
      rcases h with rfl | rfl | rfl <;> exact (Option.some.inj ht).symm
    have hcases : j = 0 ∨ j = 1 ∨ j = 2 ∨ (j = 3 ∨ j = 4 ∨ j = 5) := by omega
    rcases hcases with rfl | rfl | rfl | h3
    · obtain ⟨dd, ed⟩ : ∃ dd, d = some dd := by
        cases d with
        | none => exact absurd rfl (hdn (by decide))
        | some dd => exact ⟨dd, rfl⟩
      obtain ⟨v, hv, rfl⟩ : ∃ v, fs.lookup ("index" : Str) = some v ∧ xs = [V.str "word", v] := by
        have ht' : (fs.lookup ("index" : Str)).map (fun v => [V.str "word", v]) = some xs := ht
        cases e : fs.lookup ("index" : Str) with
        | none => rw [e] at ht'; cases ht'
        | some v => rw [e] at ht'; exact ⟨v, rfl, (Option.some.inj ht').symm⟩
      refine ⟨_, rfl, rfl, _, rfl, iteT ⟨_, rfl, _, rfl, rfl, rfl, dd, fs, v, ed, sm4 _ _ (hd dd ed), hv, by show 2 ≤ sizeLine; decide, fun p hp => fin hp⟩⟩
    · obtain ⟨dd, ed⟩ : ∃ dd, d = some dd := by
        cases d with
        | none => exact absurd rfl (hdn (by decide))
        | some dd => exact ⟨dd, rfl⟩
      obtain ⟨v, u, hv, hu, rfl⟩ : ∃ v u, fs.lookup ("row" : Str) = some v ∧ fs.lookup ("column" : Str) = some u ∧ xs = [V.str "tray", v, u] := by
        have ht' : (match fs.lookup ("row" : Str), fs.lookup ("column" : Str) with | some v, some u => some [V.str "tray", v, u] | _, _ => none) = some xs := ht
        cases e : fs.lookup ("row" : Str) with
        | none => rw [e] at ht'; cases ht'
        | some v =>
          cases e2 : fs.lookup ("column" : Str) with
          | none => rw [e, e2] at ht'; cases ht'
          | some u => rw [e, e2] at ht'; exact ⟨v, u, rfl, rfl, (Option.some.inj ht').symm⟩
      refine ⟨_, rfl, rfl, _, rfl, iteF ⟨_, rfl, rfl, _, rfl, iteT ⟨_, rfl, _, rfl, rfl, rfl, dd, fs, v, ed, sm4 _ _ (hd dd ed), hv, _, rfl, rfl, rfl, dd, fs, u, ed, sm4 _ _ (hd dd ed), hu, by show 3 ≤ sizeLine; decide, fun p hp => fin hp⟩⟩⟩
    · obtain ⟨dd, ed⟩ : ∃ dd, d = some dd := by
        cases d with
        | none => exact absurd rfl (hdn (by decide))
        | some dd => exact ⟨dd, rfl⟩
      obtain ⟨v, hv, rfl⟩ : ∃ v, fs.lookup ("marble" : Str) = some v ∧ xs = [V.str "nomarble", v] := by
        have ht' : (fs.lookup ("marble" : Str)).map (fun v => [V.str "nomarble", v]) = some xs := ht
        cases e : fs.lookup ("marble" : Str) with
        | none => rw [e] at ht'; cases ht'
        | some v => rw [e] at ht'; exact ⟨v, rfl, (Option.some.inj ht').symm⟩
      refine ⟨_, rfl, rfl, _, rfl, iteF ⟨_, rfl, rfl, _, rfl, iteF ⟨_, rfl, rfl, _, rfl, iteT ⟨_, rfl, _, rfl, rfl, rfl, dd, fs, v, ed, sm4 _ _ (hd dd ed), hv, by show 2 ≤ sizeLine; decide, fun p hp => fin hp⟩⟩⟩⟩
    · have e0 : decide (V.int (j : Int) = V.int 0) = false := decide_eq_false (by simp; omega)
      have e1 : decide (V.int (j : Int) = V.int 1) = false := decide_eq_false (by simp; omega)
      have e2 : decide (V.int (j : Int) = V.int 2) = false := decide_eq_false (by simp; omega)
      obtain rfl := tail h3
      refine ⟨_, rfl, rfl, _, rfl, ?_⟩
      rw [e0]
      refine iteF ⟨_, rfl, rfl, _, rfl, ?_⟩
      rw [e1]
      refine iteF ⟨_, rfl, rfl, _, rfl, ?_⟩
      rw [e2]
      exact iteF ⟨_, rfl, by show 1 ≤ sizeLine; decide, fun p hp => fin hp⟩
end
end TA
end
section
set_option Elab.async false
set_option maxRecDepth 100000
set_option linter.all false
namespace TA
open PySem PySem.Spec PyProof.Rows L2
structure TxtA (K : PySem.W.Frag) (mg : Str → Option Value) : Prop where
  isi : mg "isinstance" = none
  tup : mg "tuple" = none
  lst : mg "list" = none
  bool : mg "bool" = none
  len : mg "len" = none
  range : mg "range" = none
/-- a sequence at a: a list, a tuple -/
inductive Sq (K : PySem.W.Frag) (H : Hp) (a : Addr) (xs : List V) : Bool → Prop where
  | lst (h : SqL K H a xs) : Sq K H a xs false
  | tup (h : SqT K H a xs) : Sq K H a xs true
/-- two values of one shape and content, at most n deep -/
inductive Alk (K : PySem.W.Frag) (H : Hp) : Nat → V → V → Prop where
  | non {n} : Alk K H n .non .non
  | bl {n} (b : Bool) : Alk K H n (.bl b) (.bl b)
  | int {n} (i : Int) : Alk K H n (.int i) (.int i)
  | str {n} (z : Str) : Alk K H n (.str z) (.str z)
  | seq {n} {a b : Addr} {xs ys : List V} {t : Bool} (hl : xs.length ≤ 1000) (ha : Sq K H a xs t) (hb : Sq K H b ys t) (hxy : xs.length = ys.length) (all : ∀ (i : Nat) (x y : V), xs[i]? = some x → ys[i]? = some y → Alk K H n x y) : Alk K H (n + 1) (.ref a) (.ref b)
theorem Sq.same {K : PySem.W.Frag} {H H' : Hp} {a : Addr} {xs : List V} {t : Bool} (h : Sq K H a xs t) (s : Same H H') : Sq K H' a xs t := by
  cases h with
  | lst h => exact .lst (s.seq h)
  | tup h =>
    refine .tup ?_
    rcases h with (h | ⟨o, h⟩) | h
    · exact .inl (.inl (s _ _ h))
    · exact .inl (.inr ⟨o, s _ _ h⟩)
    · exact .inr h
theorem Alk.same {K : PySem.W.Frag} {H H' : Hp} (s : Same H H') : ∀ {n : Nat} {x y : V}, Alk K H n x y → Alk K H' n x y
  | _, _, _, .non => .non
  | _, _, _, .bl b => .bl b
  | _, _, _, .int i => .int i
  | _, _, _, .str z => .str z
  | _, _, _, .seq hl ha hb hxy all => .seq hl (ha.same s) (hb.same s) hxy fun i x y h1 h2 => Alk.same s (all i x y h1 h2)
/-- what isinstance says of a value that is no sequence -/
def Scal (K : PySem.W.Frag) (x : V) : Prop := ∃ (ty : String) (bb : Bool), scal x x = true ∧ (∀ H, TyX K H x (.type ty)) ∧ PySem.W.kitAny K (.type ty) [.type "tuple", .type "list"] = some false ∧ kitB ty "bool" = some bb
theorem no_seq {K : PySem.W.Frag} {ty : String} (h1 : kitB ty "tuple" = some false) (h2 : kitB ty "list" = some false) : PySem.W.kitAny K (.type ty) [.type "tuple", .type "list"] = some false :=
  kitAny_cons (kit_ty h1) (fun _ => kitAny_cons (kit_ty h2) (fun _ => rfl) fun z => nomatch z) fun z => nomatch z
theorem scal_non {K : PySem.W.Frag} : Scal K .non := ⟨"NoneType", false, rfl, fun _ => .base .non, no_seq (by decide +kernel) (by decide +kernel), by decide +kernel⟩
theorem scal_bl {K : PySem.W.Frag} (b : Bool) : Scal K (.bl b) := ⟨"bool", true, rfl, fun _ => .base (.bl b), no_seq (by decide +kernel) (by decide +kernel), by decide +kernel⟩
theorem scal_int {K : PySem.W.Frag} (i : Int) : Scal K (.int i) := ⟨"int", false, rfl, fun _ => .base (.int i), no_seq (by decide +kernel) (by decide +kernel), by decide +kernel⟩
theorem scal_str {K : PySem.W.Frag} (z : Str) : Scal K (.str z) := ⟨"str", false, rfl, fun _ => .base (.str z), no_seq (by decide +kernel) (by decide +kernel), by decide +kernel⟩
def tyN (t : Bool) : String := if t then "tuple" else "list"
theorem sq_ty {K : PySem.W.Frag} {H : Hp} {a : Addr} {xs : List V} {t : Bool} (h : Sq K H a xs t) : TyX K H (.ref a) (.type (tyN t)) := by
  cases h with
  | lst h =>
    rcases h with (h | ⟨o, h⟩) | ⟨o, its, n, h, c, _⟩
    · exact .base (.lst h)
    · exact .base (.frz h)
    · exact .kList h c
  | tup h =>
    rcases h with (h | ⟨o, h⟩) | ⟨o, its, n, h, c, _⟩
    · exact .base (.tup h)
    · exact .fTuple h
    · exact .kTuple h c
theorem seq_kit {K : PySem.W.Frag} (t : Bool) : PySem.W.kitAny K (.type (tyN t)) [.type "tuple", .type "list"] = some true := by
  cases t with
  | true => exact kitAny_cons (b := true) (kit_ty (by decide +kernel)) (fun z => nomatch z) fun _ => rfl
  | false => exact kitAny_cons (b := false) (kit_ty (by decide +kernel)) (fun _ => kitAny_cons (b := true) (kit_ty (by decide +kernel)) (fun z => nomatch z) fun _ => rfl) fun z => nomatch z
theorem tup_kit (t : Bool) : kitB (tyN t) "tuple" = some t := by
  cases t <;> decide +kernel
theorem Sq.len {K : PySem.W.Frag} {H : Hp} {a : Addr} {xs : List V} {t : Bool} (h : Sq K H a xs t) : SqL K H a xs ∨ SqT K H a xs := by
  cases h with
  | lst h => exact .inl h
  | tup h => exact .inr h
theorem Sq.ix {K : PySem.W.Frag} {H : Hp} {a : Addr} {xs : List V} {t : Bool} (h : Sq K H a xs t) {i : Nat} {v : V} {Q : VK} (e : xs[i]? = some v) (q : Q v H) : rIxL K (.ref a) (.int (i : Nat)) H Q ∨ rIxT K (.ref a) (.int (i : Nat)) H Q := by
  cases h with
  | lst h => exact .inl ⟨a, xs, i, v, rfl, rfl, h, atI_nat e, q⟩
  | tup h => exact .inr ⟨a, xs, i, v, rfl, rfl, h, atI_nat e, q⟩
theorem ix_ltK {X : Cx} {K : PySem.W.Frag} (h : X.K = K) : IxR X (fun x y H Q => rIxL K x y H Q ∨ rIxT K x y H Q) := by
  subst h
  exact ix_list.or ix_tup
section
variable {P : Program} {w : World} {K : PySem.W.Frag} {mg : Str → Option Value} {base : Heap}
abbrev NAl : List Str := ["_law_one", "_law_due", "_law_k"]
theorem scAl : FnScope NAl ["_law_one", "_law_due"] (defScope sLawAlike) := ⟨rfl, rfl, rfl, by decide +kernel, rfl, by decide +kernel, by decide +kernel⟩
def spAl (K : PySem.W.Frag) (n : Nat) : Sp := fun vs H Q _ => ∃ x y, vs = [x, y] ∧ Alk K H n x y ∧ ∀ H', Same H H' → Q (.bl true) H'
theorem ok_al {f : Addr} {fd : FuncData} (F : Fun K "_law_alike" "_law_alike" sLawAlike f fd) (T : TxtA K mg) (b : Binds K fd ["_law_one", "_law_due"] []) (mf : mg "_law_alike" = some (.ref f)) : ∀ n, FnOk P w K mg base CX0 (n + 1) f fd ["_law_one", "_law_due"] (spAl K n)
  | 0 => by
    refine F.ok scAl (fun vs H Q E h => ?_) (fun cdv A outer s H vs Q E hr h => ?_)
    · obtain ⟨x, y, rfl, _⟩ := h
      rfl
    · obtain ⟨x, y, rfl, al, k⟩ := h
      have nd := scAl.nd
      refine ⟨_, pss_cons (ps_if (PW.pt (pw_and (pt_val (pe_callB call_isiT (by rfl) T.isi (by decide +kernel) (pa_cons (pv 0) (pa_cons (pe_tup (pa_cons (pe_bltn (v := .ty "tuple") (by rfl) T.tup (by decide +kernel) rfl) (pa_cons (pe_bltn (v := .ty "list") (by rfl) T.lst (by decide +kernel) rfl) pa_nil))) pa_nil)))) (pw_and1 (pt_val (pe_callB call_isiT (by rfl) T.isi (by decide +kernel) (pa_cons (pv 1) (pa_cons (pe_tup (pa_cons (pe_bltn (v := .ty "tuple") (by rfl) T.tup (by decide +kernel) rfl) (pa_cons (pe_bltn (v := .ty "list") (by rfl) T.lst (by decide +kernel) rfl) pa_nil))) pa_nil))))))) pss_never pss_nil)
        (pss_one (ps_ret (pe_and (pe_cmpR op_eq (pv 0) (pv 1) (nomark _)) (pe_one (pe_cmpR op_eq (pe_callB call_isi (by rfl) T.isi (by decide +kernel) (pa_cons (pv 0) (pa_cons (pe_bltn (v := .ty "bool") (by rfl) T.bool (by decide +kernel) rfl) pa_nil))) (pe_callB call_isi (by rfl) T.isi (by decide +kernel) (pa_cons (pv 1) (pa_cons (pe_bltn (v := .ty "bool") (by rfl) T.bool (by decide +kernel) rfl) pa_nil))) (nomark _)))))), ?_⟩
      have sc : y = x ∧ Scal K x := by
        cases al with
        | non => exact ⟨rfl, scal_non⟩
        | bl b => exact ⟨rfl, scal_bl b⟩
        | int i => exact ⟨rfl, scal_int i⟩
        | str z => exact ⟨rfl, scal_str z⟩
      obtain ⟨rfl, sc⟩ := sc
      obtain ⟨ty, bb, e1, e2, e3, e4⟩ := sc
      refine ⟨_, rfl, by show 2 ≤ sizeLine; decide, fun tp htp => ⟨_, tp, _, .type ty, _, false, rfl, upd_same, .cons (.ty _) (.cons (.ty _) .nil), e2 _, e3, false, rfl, iteF (iteF ?_)⟩⟩
      have sm := same_new (o := .tup [V.ty "tuple", V.ty "list"]) htp
      refine ⟨_, rfl, _, rfl, e1, true, congrArg V.bl (decide_eq_true rfl), iteT ?_⟩
      refine ⟨_, rfl, _, _, _, _, bb, rfl, .ty _, e2 _, kit_ty e4, _, rfl, _, _, _, _, bb, rfl, .ty _, e2 _, kit_ty e4, rfl, ?_⟩
      rw [decide_eq_true rfl]
      exact k _ sm
  | n + 1 => by
    have G := ok_al F T b mf n
    refine F.ok scAl (fun vs H Q E h => ?_) (fun cdv A outer s H vs Q E hr h => ?_)
    · obtain ⟨x, y, rfl, _⟩ := h
      rfl
    · obtain ⟨x, y, rfl, al, k⟩ := h
      have nd := scAl.nd
      refine ⟨_, pss_cons (ps_if (PW.pt (pw_and (pt_val (pe_callB call_isiT (by rfl) T.isi (by decide +kernel) (pa_cons (pv 0) (pa_cons (pe_tup (pa_cons (pe_bltn (v := .ty "tuple") (by rfl) T.tup (by decide +kernel) rfl) (pa_cons (pe_bltn (v := .ty "list") (by rfl) T.lst (by decide +kernel) rfl) pa_nil))) pa_nil))))
            (pw_and1 (pt_val (pe_callB call_isiT (by rfl) T.isi (by decide +kernel) (pa_cons (pv 1) (pa_cons (pe_tup (pa_cons (pe_bltn (v := .ty "tuple") (by rfl) T.tup (by decide +kernel) rfl) (pa_cons (pe_bltn (v := .ty "list") (by rfl) T.lst (by decide +kernel) rfl) pa_nil))) pa_nil)))))))
          (pss_cons (ps_if (PW.pt (pw_or (pt_cmpR op_ne (pe_callB call_isi (by rfl) T.isi (by decide +kernel) (pa_cons (pv 0) (pa_cons (pe_bltn (v := .ty "tuple") (by rfl) T.tup (by decide +kernel) rfl) pa_nil))) (pe_callB call_isi (by rfl) T.isi (by decide +kernel) (pa_cons (pv 1) (pa_cons (pe_bltn (v := .ty "tuple") (by rfl) T.tup (by decide +kernel) rfl) pa_nil))) (nomark _))
              (pw_or1 (pt_cmpR op_ne (pe_callB call_len_seq (by rfl) T.len PySem.boot_len (pa_cons (pv 0) pa_nil)) (pe_callB call_len_seq (by rfl) T.len PySem.boot_len (pa_cons (pv 1) pa_nil)) (nomark _))))) pss_never pss_nil)
          (pss_one (ps_ret (pe_cmpR (op_eqD hr.units) (pe_lc (own := [("_law_k", 2)]) (g := gName 2) rfl nd (pi_range1 (by rfl) T.range (pa_cons (pe_callB call_len_seq (by rfl) T.len PySem.boot_len (pa_cons (pv 0) pa_nil)) pa_nil)) (blkOk_by (N := NAl) (sc := defScope sLawAlike) (by decide +kernel)) (fun _ _ _ _ _ => pg_name (i := 2) nd rfl (.inl rfl))
            (fun _ _ _ _ _ => pts_one (pt_not (pt_val (pe_call G hr rfl mf F.kp b .nil pass0 (pa_cons (pe_ix (ix_ltK (K := K) rfl) (pv 0) (pv 2) (fun _ _ => rfl)) (pa_cons (pe_ix (ix_ltK (K := K) rfl) (pv 1) (pv 2) (fun _ _ => rfl)) pa_nil)))))) (fun _ _ _ _ _ => pv 2)) (pe_lst pa_nil) (nomark _))))) pss_nil)
        (pss_one (ps_ret (pe_and (pe_cmpR op_eq (pv 0) (pv 1) (nomark _)) (pe_one (pe_cmpR op_eq (pe_callB call_isi (by rfl) T.isi (by decide +kernel) (pa_cons (pv 0) (pa_cons (pe_bltn (v := .ty "bool") (by rfl) T.bool (by decide +kernel) rfl) pa_nil))) (pe_callB call_isi (by rfl) T.isi (by decide +kernel) (pa_cons (pv 1) (pa_cons (pe_bltn (v := .ty "bool") (by rfl) T.bool (by decide +kernel) rfl) pa_nil))) (nomark _)))))), ?_⟩
      by_cases hsc : y = x ∧ Scal K x
      · obtain ⟨rfl, sc⟩ := hsc
        obtain ⟨ty, bb, e1, e2, e3, e4⟩ := sc
        refine ⟨_, rfl, by show 2 ≤ sizeLine; decide, fun tp htp => ⟨_, tp, _, .type ty, _, false, rfl, upd_same, .cons (.ty _) (.cons (.ty _) .nil), e2 _, e3, false, rfl, iteF (iteF ?_)⟩⟩
        have sm := same_new (o := .tup [V.ty "tuple", V.ty "list"]) htp
        refine ⟨_, rfl, _, rfl, e1, true, congrArg V.bl (decide_eq_true rfl), iteT ?_⟩
        refine ⟨_, rfl, _, _, _, _, bb, rfl, .ty _, e2 _, kit_ty e4, _, rfl, _, _, _, _, bb, rfl, .ty _, e2 _, kit_ty e4, rfl, ?_⟩
        rw [decide_eq_true rfl]
        exact k _ sm
      · cases al with
        | non => exact absurd ⟨rfl, scal_non⟩ hsc
        | bl b => exact absurd ⟨rfl, scal_bl b⟩ hsc
        | int i => exact absurd ⟨rfl, scal_int i⟩ hsc
        | str z => exact absurd ⟨rfl, scal_str z⟩ hsc
        | @seq _ a b' xs ys t hl ha hb hxy all =>
          have kT : PySem.W.kitAny K (.type (tyN t)) [.type "tuple", .type "list"] = some true := seq_kit t
          refine ⟨_, rfl, by show 2 ≤ sizeLine; decide, fun tp htp => ⟨_, tp, _, .type (tyN t), _, true, rfl, upd_same, .cons (.ty _) (.cons (.ty _) .nil), sq_ty (ha.same (same_new htp)), kT, true, rfl, iteT ?_⟩⟩
          have s1 := same_new (o := .tup [V.ty "tuple", V.ty "list"]) htp
          refine ⟨_, rfl, by show 2 ≤ sizeLine; decide, fun tq htq => ⟨_, tq, _, .type (tyN t), _, true, rfl, upd_same, .cons (.ty _) (.cons (.ty _) .nil), sq_ty (hb.same (s1.trans (same_new htq))), kT, true, rfl, iteT ?_⟩⟩
          have s2 := s1.trans (same_new (o := .tup [V.ty "tuple", V.ty "list"]) htq)
          generalize upd (upd H tp (.tup [V.ty "tuple", V.ty "list"])) tq (.tup [V.ty "tuple", V.ty "list"]) = H2 at s2
          refine ⟨_, rfl, _, _, _, _, t, rfl, .ty _, sq_ty (ha.same s2), kit_ty (tup_kit t), _, rfl, _, _, _, _, t, rfl, .ty _, sq_ty (hb.same s2), kit_ty (tup_kit t), rfl, _, rfl, ?_⟩
          rw [show (!decide (V.bl t = V.bl t)) = false by simp]
          refine iteF ⟨_, rfl, a, xs, rfl, (ha.same s2).len, _, rfl, b', ys, rfl, (hb.same s2).len, rfl, _, rfl, ?_⟩
          rw [show (!decide (V.int (xs.length : Int) = V.int (ys.length : Int))) = false by simp [hxy]]
          refine iteF ⟨_, rfl, a, xs, rfl, (ha.same s2).len, (xs.length : Int), rfl, by omega, by omega, fun D hD => lc_range (lo := 0) (n := ((xs.length : Nat) : Int).toNat) (fun i H3 => Same H2 H3 ∧ H3 D = some (.lst [])) ⟨same_new hD, upd_same⟩ ?_ ?_⟩
          · rintro i H3 hi ⟨s3, hD3⟩
            rw [Int.toNat_natCast] at hi
            rw [Int.zero_add]
            obtain ⟨v, hv⟩ : ∃ v, xs[i]? = some v := ⟨_, List.getElem?_eq_getElem hi⟩
            obtain ⟨u, hu⟩ : ∃ u, ys[i]? = some u := ⟨_, List.getElem?_eq_getElem (by omega)⟩
            have s23 := s2.trans s3
            refine ⟨rfl, _, rfl, _, rfl, (ha.same s23).ix hv ⟨_, rfl, _, rfl, (hb.same s23).ix hu ⟨v, u, rfl, (all i v u hv hu).same s23, fun H4 s4 => ⟨true, rfl, ?_⟩⟩⟩⟩
            exact iteF ⟨s3.trans s4, s4 _ _ hD3⟩
          · rintro H3 ⟨s3, hD3⟩
            refine ⟨by show 0 ≤ sizeLine; decide, fun p hp => ?_⟩
            refine ⟨_, _, .lst (SqL.of (by rw [upd_ne (ne_of_none hD3 hp)]; exact hD3)) .nil, .lst (SqL.of upd_same) .nil, rfl, rfl, ?_⟩
            exact k _ ((s2.trans s3).trans (same_new hp))
end
end TA
end
section
set_option Elab.async false
set_option maxRecDepth 100000
set_option maxHeartbeats 4000000
set_option linter.all false
namespace TB
open PySem PySem.Spec PyProof.Rows L2
section
variable {X : Cx} {CX : CXT} {n : Nat} {C g : Addr} {sp : Sp} {E : XK}
def rLenOwn (C : Addr) (sp : Sp) (E : XK) : List V → Hp → VK → Prop := fun xs H Q => ∃ a dx fs, xs = [V.ref a] ∧ H a = some (.ins C dx fs) ∧ sp [.ref a] H (fun z H' => ∃ k : Nat, z = .int k ∧ k < 2 ^ 63 ∧ Q z H') E
theorem call_lenOwn (hs : PySem.W.findIn X.K (.ref C) "__len__" = some (some (.ref g))) (hf : PySem.W.isFn X.K (.ref g) = true) (F : FnR X.prog X.w X.K X.mg X.base CX n g sp) (hr : Room (n + 1) X.A) (hx : Passes CX X E) : CallR X (.builtin "len") (rLenOwn C sp E) := by
  intro pins s σ H xs us Q I r h
  obtain ⟨a, dx, fs, rfl, ha, q⟩ := h
  obtain ⟨u, rfl, ru⟩ := r.one
  cases (show u = Value.ref a from ru)
  obtain ⟨mA, O, _⟩ := ins_get I.hok ha
  obtain ⟨od, J, _⟩ := O.look
  obtain ⟨m, hF⟩ := I.fr
  refine PySem.W.len_K hF I.ok.mod.kin J hs hf (wpAny_mono (wpAny_call (SlX.run_at (us := [.ref a]) (ws := [.ref a]) F hr.in1 I.env0.in1 hx I (.cons rfl .nil) q)) (fun w s' z => ?_) fun _ _ x => x)
  obtain ⟨z', H', I', rz, k, rfl, hk, qz⟩ := z
  obtain ⟨t, rfl⟩ := (show ∃ t, w = Value.int k t from rz)
  exact ⟨⟨by omega, by omega⟩, .int k, H', I'.tok _, ⟨_, rfl⟩, qz⟩
/-- y in x -/
def rInOwn (C : Addr) (sp : Sp) (E : XK) : R2 := fun y x H Q => ∃ a dx fs, x = .ref a ∧ H a = some (.ins C dx fs) ∧ sp [.ref a, y] H (fun z H' => ∃ b, z = .bl b ∧ Q z H') E
theorem op_inOwn (hs : PySem.W.findIn X.K (.ref C) "__contains__" = some (some (.ref g))) (hf : PySem.W.isFn X.K (.ref g) = true) (F : FnR X.prog X.w X.K X.mg X.base CX n g sp) (hr : Room n X.A) (hx : Passes CX X E) : OpR X (compareOp .In) (rInOwn C sp E) := by
  intro pins s σ H y x u v Q I ry rx h
  obtain ⟨a, dx, fs, rfl, ha, q⟩ := h
  cases (show v = Value.ref a from rx)
  obtain ⟨mA, O, _⟩ := ins_get I.hok ha
  obtain ⟨od, J, _⟩ := O.look
  obtain ⟨m, hF⟩ := I.fr
  refine PySem.W.in_K hF I.ok.mod.kin J hs hf (wpAny_mono (wpAny_call (SlX.run_at (us := [.ref a, u]) (ws := [.ref a, y]) F hr I.env0 hx I (.cons rfl (.cons ry .nil)) q)) (fun w s' z => ?_) fun _ _ x => x)
  obtain ⟨z', H', I', rz, b, rfl, qz⟩ := z
  obtain rfl : w = Value.bool b := rz
  exact wpAny_truthy_bool ⟨.bl b, H', I', rfl, qz⟩
/-- -x -/
def rNegOwn (C : Addr) (sp : Sp) (E : XK) : V → Hp → VK → Prop := fun x H Q => ∃ a dx fs, x = .ref a ∧ H a = some (.ins C dx fs) ∧ sp [.ref a] H Q E
theorem un_negOwn (hs : PySem.W.findIn X.K (.ref C) "__neg__" = some (some (.ref g))) (hf : PySem.W.isFn X.K (.ref g) = true) (F : FnR X.prog X.w X.K X.mg X.base CX n g sp) (hr : Room n X.A) (hx : Passes CX X E) : UnR X (unaryOp .USub) (rNegOwn C sp E) := by
  intro pins s σ H x v Q I rx h
  obtain ⟨a, dx, fs, rfl, ha, q⟩ := h
  cases (show v = Value.ref a from rx)
  obtain ⟨mA, O, _⟩ := ins_get I.hok ha
  obtain ⟨od, J, _⟩ := O.look
  obtain ⟨m, hF⟩ := I.fr
  exact PySem.W.ksp_neg hF I.ok.mod.kin J hs hf (wpAny_mono (wpAny_call (SlX.run_at (us := [.ref a]) (ws := [.ref a]) F hr I.env0 hx I (.cons rfl .nil) q)) (fun w s' z => z) fun _ _ x => x)
/-- a[b] -/
def tSubOwn (C : Addr) (sp : Sp) (E : XK) (ta tb : TE) : TE := tOp (fun x y H Q => ∃ a dx fs, x = .ref a ∧ H a = some (.ins C dx fs) ∧ sp [.ref a, y] H Q E) ta tb
theorem pe_subOwn {a b : Expr} {ta tb : TE} {pos : Pos} (hs : PySem.W.findIn X.K (.ref C) "__getitem__" = some (some (.ref g))) (hn : PySem.W.fnIn X.K g = true) (hf : PySem.W.isFn X.K (.ref g) = true) (F : FnR X.prog X.w X.K X.mg X.base CX n g sp) (hr : Room (n + 1) X.A) (hx : Passes CX X E)
    (ha : PE X a ta) (hb : PE X b tb) (hsl : ∀ o i, subscripted b true o i = runValue (.builtin "lifetime.subscript" ⟨[o, i], []⟩)) : PE X (.Subscript a b pos) (tSubOwn C sp E ta tb) := by
  refine ⟨fun pins s σ H Q I h => ?_⟩
  refine Subscript_ (binT ha hb I h fun v u s2 x y H2 I2 rx ry q => ?_)
  obtain ⟨p, dx, fs, rfl, hp, q⟩ := q
  cases (show v = Value.ref p from rx)
  obtain ⟨mA, O, _⟩ := ins_get I2.hok hp
  obtain ⟨od, J, _⟩ := O.look
  obtain ⟨m, hF⟩ := I2.fr
  exact PySem.W.sub_K hF I2.ok.mod.kin J hs hn hf (wpAny_mono (wpAny_call (SlX.run_at (us := [.ref p, u]) (ws := [.ref p, y]) F hr.in1 I2.env0.in1 hx I2 (.cons rfl (.cons ry .nil)) q)) (fun w s' z => z) fun _ _ x => x) (hsl _ _)
/-- a + b, both of the class at C -/
def rSameOwn (C : Addr) (sp : Sp) (E : XK) : R2 := fun x y H Q => ∃ a dx fs b dy gs, x = .ref a ∧ y = .ref b ∧ H a = some (.ins C dx fs) ∧ H b = some (.ins C dy gs) ∧ sp [x, y] H Q E
theorem op_sameOwn {op : Operator} (hc : PySem.W.selfFirst X.K C = true) (hs : PySem.W.findIn X.K (.ref C) (PySem.dunder op.info.2) = some (some (.ref g))) (hf : PySem.W.isFn X.K (.ref g) = true)
    (F : FnR X.prog X.w X.K X.mg X.base CX n g sp) (hr : Room n X.A) (hx : Passes CX X E) : OpR X (binaryOp op) (rSameOwn C sp E) := by
  intro pins s σ H x y v u Q I rx ry h
  obtain ⟨a, dx, fs, b, dy, gs, rfl, rfl, ha, hb, q⟩ := h
  cases (show v = Value.ref a from rx)
  cases (show u = Value.ref b from ry)
  obtain ⟨mA, O, _⟩ := ins_get I.hok ha
  obtain ⟨od, J, _⟩ := O.look
  obtain ⟨mB, O', _⟩ := ins_get I.hok hb
  obtain ⟨od', J', _⟩ := O'.look
  obtain ⟨m, hF⟩ := I.fr
  refine PySem.W.binop_K hF I.ok.mod.kin J J'.type hc hs hf ?_
  refine wpAny_mono (wpAny_call (run_fnR (us := [.ref a, .ref b]) (vs := [.ref a, .ref b]) F hr hx I (.cons rfl (.cons rfl .nil)) q)) (fun w s' z => ?_) fun _ _ x => x
  obtain ⟨z', H', I', rz, qz⟩ := z
  exact SlX.cmpback rz ⟨z', H', I', rz, qz⟩
/-- a * y, y a value of the built-in type T -/
def rTypOwn (C : Addr) (T : String) (sp : Sp) (E : XK) : R2 := fun x y H Q => ∃ a dx fs, x = .ref a ∧ H a = some (.ins C dx fs) ∧ (∀ u, RelV y u → typeOf u = pure (.type T)) ∧ sp [x, y] H Q E
theorem op_typOwn {op : Operator} {T : String} {fo ro rc : Option Value} (hc : PySem.W.selfFirst X.K C = true) (hs : PySem.W.findIn X.K (.ref C) (PySem.dunder op.info.2) = some (some (.ref g))) (hf : PySem.W.isFn X.K (.ref g) = true)
    (hrc : PySem.W.findIn X.K (.ref C) (dunderR op.info.2) = some rc) (hp : rc = none ∨ ∃ g : Addr, rc = some (.ref g)) (h1 : PySem.W.findIn X.K (.type T) (PySem.dunder op.info.2) = some fo) (h2 : PySem.W.findIn X.K (.type T) (dunderR op.info.2) = some ro) (hsub : PySem.W.subIn X.K (.type T) (.ref C) = some false)
    (F : FnR X.prog X.w X.K X.mg X.base CX n g sp) (hr : Room n X.A) (hx : Passes CX X E) : OpR X (binaryOp op) (rTypOwn C T sp E) := by
  intro pins s σ H x y v u Q I rx ry h
  obtain ⟨a, dx, fs, rfl, ha, ht, q⟩ := h
  cases (show v = Value.ref a from rx)
  obtain ⟨mA, O, _⟩ := ins_get I.hok ha
  obtain ⟨od, J, _⟩ := O.look
  obtain ⟨m, hF⟩ := I.fr
  refine PySem.W.ksp_binT hF I.ok.mod.kin J (ht _ ry) hc hs hf hrc hp h1 h2 hsub ?_
  refine wpAny_mono (wpAny_call (run_fnR (us := [.ref a, u]) (vs := [.ref a, y]) F hr hx I (.cons rfl (.cons ry .nil)) q)) (fun w s' z => ?_) fun _ _ x => x
  obtain ⟨z', H', I', rz, qz⟩ := z
  exact SlX.cmpback rz ⟨z', H', I', rz, qz⟩
/-- a op y, y an instance of the class at C or a value of the built-in type T -/
def rCmpOwn (K : PySem.W.Frag) (C : Addr) (sp : Sp) (E : XK) : R2 := fun x y H Q => ∃ a dx fs, x = .ref a ∧ H a = some (.ins C dx fs) ∧
  ((∃ b dy gs, y = .ref b ∧ H b = some (.ins C dy gs)) ∨ ∃ T, (∀ u, RelV y u → typeOf u = pure (.type T)) ∧ PySem.W.notFirst K C (.type T) = true) ∧ sp [x, y] H Q E
theorem op_cmpOwn {op : CmpOp} (hop : ∀ a b, compareOp op a b = richCompare op a b) (hs : PySem.W.findIn X.K (.ref C) (cmpInfo op).2.1 = some (some (.ref g))) (hf : PySem.W.isFn X.K (.ref g) = true) (F : FnR X.prog X.w X.K X.mg X.base CX n g sp)
    (hr : Room n X.A) (hx : Passes CX X E) : OpR X (compareOp op) (rCmpOwn X.K C sp E) := by
  intro pins s σ H x y v u Q I rx ry h
  obtain ⟨a, dx, fs, rfl, ha, hy, q⟩ := h
  cases (show v = Value.ref a from rx)
  obtain ⟨mA, O, _⟩ := ins_get I.hok ha
  obtain ⟨od, J, _⟩ := O.look
  obtain ⟨m, hF⟩ := I.fr
  obtain ⟨tb, hb, hn⟩ : ∃ tb, PySem.W.Looks (model X.prog X.w) s.heap (typeOf u) tb ∧ PySem.W.notFirst X.K C tb = true := by
    rcases hy with ⟨b, dy, gs, rfl, hb⟩ | ⟨T, ht, hn⟩
    · cases (show u = Value.ref b from ry)
      obtain ⟨mB, O', _⟩ := ins_get I.hok hb
      obtain ⟨od', J', _⟩ := O'.look
      exact ⟨.ref C, J'.type, by simp [PySem.W.notFirst]⟩
    · exact ⟨.type T, PySem.W.Looks.of_pure (ht _ ry), hn⟩
  rw [hop]
  refine PySem.W.cmp_K (op := op) (tb := tb) hr.units0 hF I.ok.mod.kin J hb hn hs hf ?_
  refine wpAny_mono (wpAny_call (run_fnR (us := [.ref a, u]) (vs := [.ref a, y]) F hr hx I (.cons rfl (.cons ry .nil)) q)) (fun w s' z => ?_) fun _ _ x => x
  obtain ⟨z', H', I', rz, qz⟩ := z
  exact SlX.cmpback rz ⟨z', H', I', rz, qz⟩
end
end TB
end
section
set_option Elab.async false
set_option maxRecDepth 100000
set_option maxHeartbeats 4000000
set_option linter.all false
namespace TB
open PySem PySem.Spec PyProof.Rows L2 PySem.W PySem.Calls
section
variable {prog : Program} {w : World} {A : Around} {E : Value → Shared → Prop} {s : Shared} {K : Frag} {x C f : Addr} {ox : Obj} {od : Option Obj}
theorem check_neK {b : Value} {Q : Unit → Shared → Prop} {M : Model} (X : K.In s.heap) (I : InstAt s.heap x ox C od) (hm : mroIn K C (.type "object") = some true) (hq : Q () s) :
    wpAny M A (checkBuiltinCall "object.__ne__" ⟨[.ref x, b], []⟩) Q E s := by
  simp only [checkBuiltinCall, F.cmpKind_ne, F.cmpSplit_ne]
  refine wpAny_bind ?_
  unfold isInstance
  refine wpAny_bind (I.type.here ?_)
  refine wpAny_mono ((looks_mroIn X hm).here (Q := fun r s' => r = true ∧ s' = s) ⟨rfl, rfl⟩) (fun r s' z => ?_) fun _ _ e => e
  obtain ⟨rfl, rfl⟩ := z
  have ha := F.cmpArgs_ne (.ref x) b
  cases hsig : Manifest.signature? "object.__ne__" with
  | none => exact wpAny_pure hq
  | some sig =>
    simp only [argsOk, hsig] at ha
    have h2 : Bind.checkArgs "object.__ne__" sig ⟨[.ref x, b], []⟩ = pure () := ha
    show wpAny M A (Bind.checkArgs "object.__ne__" sig ⟨[.ref x, b], []⟩) Q E _
    rw [h2]
    exact wpAny_pure hq
theorem ifBound_neK {b : Value} {M : Model} {Q : Option Value → Shared → Prop} (X : K.In s.heap) (I : InstAt s.heap x ox C od) (hs : findIn K (.ref C) "__ne__" = some (some (.builtin "object.__ne__")))
    (h : wpAny M A (call (.builtin "object.__ne__") [.ref x, b]) (fun v => Q (some v)) E s) : wpAny M A (callSpecialIfBound? (.ref x) "__ne__" [b]) Q E s := by
  simp only [callSpecialIfBound?, bindSpecialIfBound?]
  refine wpAny_holding (wpAny_bind (wpAny_bind (wpAny_bind (I.type.here ((looks_findIn X hs).here ?_)))))
  simp only [F.cmp_object.ne.bind]
  refine wpAny_bind (wpAny_askSetting (wpAny_ite ?_))
  have fin : wpAny M A (call (.builtin "object.__ne__") ([.ref x] ++ [b]) >>= fun v => pure (some v)) Q E s := wpAny_bind (wpAny_mono h (fun v s' h' => wpAny_pure h') fun _ _ h' => h')
  split
  · exact wpAny_bind (wpAny_pure (wpAny_pure (by exact fin)))
  · exact wpAny_tryCatch (wpAny_bind (wpAny_pure (wpAny_pure (by exact fin))))
theorem ne_K {b : Value} {Q : Value → Shared → Prop} (hu : A.units + 1 < cLine) (X : K.In s.heap) (I : InstAt s.heap x ox C od) (hb : Looks (model prog w) s.heap (typeOf b) (.ref C))
    (hs : findIn K (.ref C) "__ne__" = some (some (.builtin "object.__ne__"))) (hm : mroIn K C (.type "object") = some true) (he : findIn K (.ref C) "__eq__" = some (some (.ref f))) (hf : isFn K (.ref f) = true)
    (h : wpAny (model prog w) A.in1 (call (.ref f) [.ref x, b]) (fun v s' => ∃ c, v = .bool c ∧ Q (.bool (!c)) s') E s) : wpAny (model prog w) A (compareOp .NotEq (.ref x) b) Q E s := by
  have ent : wpAny (model prog w) A.in1 (Builtin.«object.__ne__» ⟨[.ref x, b], []⟩) (fun r s' => ∃ c, r = Fin.done (.ret (.bool (!c))) ∧ Q (.bool (!c)) s') E s := by
    unfold Builtin.«object.__ne__»
    refine wpAny_bind (m := slotArgs "__ne__" 1 _) (wpAny_pure ?_)
    refine wpAny_bind (wpAny_cRoomFor hu ?_)
    refine wpAny_bind (m := callSpecialIfBound? (.ref x) (Str.ofString "__eq__") [b]) (ifBound_K X I he hf (wpAny_mono h (fun r s' hr => ?_) fun _ _ e => e))
    obtain ⟨c, rfl, hq⟩ := hr
    exact wpAny_bind (m := truthy (.bool c)) (wpAny_truthy_bool (wpAny_pure ⟨c, rfl, hq⟩))
  have one : wpAny (model prog w) A (tryCompare (.ref x) "__ne__" b) (fun r s' => ∃ c, r = some (Value.bool c) ∧ Q (.bool c) s') E s := by
    unfold tryCompare
    refine wpAny_bind (ifBound_neK X I hs (wpAny_call (codeAny_call_builtin F.cmp_object.ne.plain F.cmpEntry_ne (check_neK X I hm (wpAny_mono ent (fun r s' z => ?_) fun _ _ e => e)))))
    obtain ⟨c, rfl, hq⟩ := z
    exact wpAny_pure ⟨!c, rfl, hq⟩
  unfold compareOp richCompare
  simp only [oneThing_ref]
  refine wpAny_holding (wpAny_bind (wpAny_cRoomFor (Nat.lt_of_succ_lt hu) ?_))
  rw [cmpInfo_NotEq]
  dsimp only
  refine wpAny_bind (I.type.here (wpAny_bind (hb.here ?_)))
  rw [show (Value.ref C != Value.ref C) = false from by simp]
  simp only [Bool.false_eq_true, if_false]
  refine wpAny_bind (wpAny_pure ?_)
  simp only [Bool.false_eq_true, if_false]
  refine wpAny_bind (wpAny_mono one (fun v s' z => ?_) fun _ _ e => e)
  obtain ⟨c, rfl, hq⟩ := z
  exact wpAny_pure hq
end
def rNeOwn (C : Addr) (sp : Sp) (E : XK) : R2 := fun x y H Q => ∃ a dx fs b dy gs, x = .ref a ∧ y = .ref b ∧ H a = some (.ins C dx fs) ∧ H b = some (.ins C dy gs) ∧ sp [x, y] H (fun z H' => ∃ c, z = .bl c ∧ Q (.bl (!c)) H') E
theorem op_neOwn {X : Cx} {CX : CXT} {n : Nat} {C g : Addr} {sp : Sp} {E : XK} (hs : findIn X.K (.ref C) "__ne__" = some (some (.builtin "object.__ne__"))) (hm : mroIn X.K C (.type "object") = some true) (he : findIn X.K (.ref C) "__eq__" = some (some (.ref g))) (hf : isFn X.K (.ref g) = true)
    (F : FnR X.prog X.w X.K X.mg X.base CX n g sp) (hr : Room (n + 1) X.A) (hx : Passes CX X E) : OpR X (compareOp .NotEq) (rNeOwn C sp E) := by
  intro pins s σ H x y v u Q I rx ry h
  obtain ⟨a, dx, fs, b, dy, gs, rfl, rfl, ha, hb, q⟩ := h
  cases (show v = Value.ref a from rx)
  cases (show u = Value.ref b from ry)
  obtain ⟨mA, O, _⟩ := ins_get I.hok ha
  obtain ⟨od, J, _⟩ := O.look
  obtain ⟨mB, O', _⟩ := ins_get I.hok hb
  obtain ⟨od', J', _⟩ := O'.look
  refine ne_K hr.in1.units0 I.kIn J J'.type hs hm he hf (wpAny_mono (wpAny_call (SlX.run_at (us := [.ref a, .ref b]) (ws := [.ref a, .ref b]) F hr.in1 I.env0.in1 hx I (.cons rfl (.cons rfl .nil)) q)) (fun w s' z => ?_) fun _ _ x => x)
  obtain ⟨z', H', I', rz, c, rfl, qz⟩ := z
  obtain rfl : w = Value.bool c := rz
  exact ⟨c, rfl, .bl (!c), H', I', rfl, qz⟩
end TB
end
section
set_option Elab.async false
set_option maxRecDepth 100000
set_option linter.all false
namespace TA
open PySem PySem.Spec PyProof.Rows L2 LamX TX TK NdefX TM
section
variable {P : Program} {w : World} {K : PySem.W.Frag} {mg : Str → Option Value} {base : Heap} {C fT : Addr} {fdT : FuncData}
theorem scIt : FnScope ["value"] ["value"] (defScope sIsTilt) := ⟨rfl, rfl, rfl, by decide +kernel, rfl, by decide +kernel, by decide +kernel⟩
theorem ok_it {f : Addr} {fd : FuncData} (F : Fun K "is_tilt" "is_tilt" sIsTilt f fd) (T : TxtW K mg) : FnOk P w K mg base CX0 1 f fd ["value"] spIt := by
  refine F.ok scIt (fun vs H Q E h => ?_) (fun cdv A outer s H vs Q E hr h => ?_)
  · obtain ⟨t, rfl, _⟩ := h
    rfl
  · obtain ⟨c, rfl, k⟩ := h
    refine ⟨_, pss_one (ps_ret (pe_and (pe_callB call_isi (by rfl) T.isi (by decide +kernel) (pa_cons (pv 0) (pa_cons (pe_bltn (v := .ty "str") (by rfl) T.str (by decide +kernel) rfl) pa_nil)))
      (pe_and (pe_cmpR op_eq (pe_callB call_len_str (by rfl) T.len PySem.boot_len (pa_cons (pv 0) pa_nil)) pe_int (nomark _))
        (pe_one (pe_cmpR op_in_sign (pv 0) (pe_op op_add_str (C8.pe_gc rfl T.AR) (C8.pe_gc rfl T.AC)) (by rfl)))))), ?_⟩
    refine ⟨_, rfl, _, _, _, _, true, rfl, .ty _, .base (.str _), kit_ty (by decide +kernel), true, rfl, iteT ?_⟩
    refine ⟨_, rfl, _, rfl, by show 1 ≤ sizeLine; decide, rfl, true, rfl, iteT ?_⟩
    refine ⟨_, rfl, _, _, rfl, rfl, by show 4 ≤ sizeLine; decide, c, _, rfl, rfl, ?_⟩
    exact k
theorem scFwi : FnScope ["text", "index", "letter"] ["text"] (defScope sFirstWrongIndex) := ⟨rfl, rfl, rfl, by decide +kernel, rfl, by decide +kernel, by decide +kernel⟩
theorem scWi : FnScope ["self", "text", "wrong"] ["self", "text"] (defScope sWordInit) := ⟨rfl, rfl, rfl, by decide +kernel, rfl, by decide +kernel, by decide +kernel⟩
theorem ok_fwx {f : Addr} {fd : FuncData} (F : Fun K "_first_wrong_index" "_first_wrong_index" sFirstWrongIndex f fd) (T : TxtW K mg) (CW : ClsW K mg C) (FT : Fun K "is_tilt" "is_tilt" sIsTilt fT fdT) (bT : Binds K fdT ["value"] []) (mT : mg "is_tilt" = some (.ref fT)) :
    FnOk P w K mg base CX0 2 f fd ["text"] (spFwx K) := by
  have GT : FnOk P w K mg base CX0 1 fT fdT ["value"] spIt := ok_it FT T
  refine F.ok scFwi (fun vs H Q E h => ?_) (fun cdv A outer s H vs Q E hr h => ?_)
  · rcases h with ⟨t, rfl, _⟩ | ⟨x, rfl, _⟩ <;> rfl
  refine ⟨_, pss_cons (ps_if (pt_not (pt_val (pe_callB call_isi (by rfl) T.isi (by decide +kernel) (pa_cons (pv 0) (pa_cons (pe_bltn (v := .ty "str") (by rfl) T.str (by decide +kernel) rfl) pa_nil))))) (pss_one (ps_ret pe_int)) pss_nil)
    (pss_cons (ps_for PassesOwn.never rfl (TH.pi_enumS (by rfl) T.enum (pa_cons (pv 0) pa_nil)) (pg_tup rfl (pgs_cons (pg_name (i := 1) scFwi.nd rfl (.inl rfl)) (pgs_cons (pg_name (i := 2) scFwi.nd rfl (.inl rfl)) pgs_nil)))
      (pss_one (ps_if (PW.pt (pw_or (pt_cmpR op_ge (pv 1) (ClX.pe_cval (pe_glob (v := .ref C) rfl CW.mgC rfl)) (nomark _)) (pw_or1 (pt_not (pt_val (pe_call GT hr rfl mT FT.kp bT .nil pass0 (pa_cons (pv 2) pa_nil))))))) (pss_one (ps_ret (pv 1))) pss_nil)))
    (pss_one (ps_ret pe_non))), ?_⟩
  rcases h with ⟨t, rfl, hl, k⟩ | ⟨x, rfl, ⟨ty, hty, hk⟩, k⟩
  · refine ⟨_, rfl, _, _, _, _, true, rfl, .ty _, .base (.str _), kit_ty (by decide +kernel), true, rfl, iteF ?_⟩
    refine ⟨_, rfl, _, rfl, for_it TH.walk_enumS (fun i σ H1 => ∃ v1 v2, σ = [some (.str (S t)), v1, v2] ∧ Same H H1 ∧ ∀ j, j < i → wrongAt t j = false) ⟨none, none, rfl, Same.refl H, fun j hj => absurd hj (Nat.not_lt_zero _)⟩ (fun _ _ _ _ _ => True.intro) ?_ ?_⟩
    · rintro i x σ H1 H2 hi ⟨v1, v2, rfl, sm, hj⟩ ⟨p, c, rfl, hn, rfl, hc⟩
      rw [S_at] at hc
      have hit : i < t.length := (List.getElem?_eq_some_iff.mp hc).1
      have hw : wrongAt t i = (decide (60 ≤ i) || !(isT c)) := by
        unfold wrongAt
        rw [List.getD_eq_getElem?_getD, hc]
        rfl
      have sm2 := sm.trans (same_new (o := .tup [V.int (i : Nat), V.str ⟨#[c]⟩]) hn)
      refine ⟨_, _, rfl, SqT.of upd_same, rfl, _, _, rfl, _, _, rfl, rfl, ?_⟩
      obtain ⟨mc, u, cr, cv⟩ := CW.mx
      refine ⟨_, rfl, C, mc, _, u, rfl, cr, cv, _, _, rfl, rfl, _, rfl, ?_⟩
      by_cases h60 : 60 ≤ i
      · rw [show decide ((i : Int) ≥ (60 : Int)) = true from decide_eq_true (by omega)]
        refine iteT (iteT ⟨_, rfl, ?_⟩)
        exact k _ (some i) sm2 ⟨hit, by rw [hw, decide_eq_true h60]; rfl, hj⟩
      · rw [show decide ((i : Int) ≥ (60 : Int)) = false from decide_eq_false (by omega)]
        refine iteF ⟨_, rfl, c, rfl, isT c, rfl, ?_⟩
        cases hT : isT c with
        | true =>
          refine iteF ⟨_, _, rfl, sm2, fun j hj2 => ?_⟩
          by_cases e : j = i
          · subst e
            rw [hw, decide_eq_false h60, hT]
            rfl
          · exact hj j (by omega)
        | false =>
          refine iteT ⟨_, rfl, ?_⟩
          exact k _ (some i) sm2 ⟨hit, by rw [hw, hT, Bool.not_false, Bool.or_true], hj⟩
    · rintro σ H1 ⟨v1, v2, rfl, sm, hj⟩
      rw [S_size] at hj
      exact k _ none sm hj
  · refine ⟨_, rfl, _, _, _, _, false, rfl, .ty _, hty, kit_ty hk, false, rfl, iteT ?_⟩
    exact k
theorem ok_wix {f fW CE fE : Addr} {fd fdW fdE : FuncData} (F : Fun K "__init__" "Word.__init__" sWordInit f fd) (CW : ClsW K mg C) (GW : FnOk P w K mg base CX0 2 fW fdW ["text"] (spFwx K)) (kW : PySem.W.keepIn K (.ref fW) = true) (bW : Binds K fdW ["text"] []) (mW : mg "_first_wrong_index" = some (.ref fW))
    (X : ExcT K mg "InvalidWord" CE fE) (GE : FnOk P w K mg base CX0 1 fE fdE ["self", "index"] (spIw CE)) (bE : Binds K fdE ["self", "index"] []) :
    FnOk P w K mg base (L2.CX P w) 3 f fd ["self", "text"] (spWix K C CE) := by
  refine F.okX scWi (fun vs H Q E h => ?_) (fun cdv A outer s H vs Q E hr h => ?_)
  · obtain ⟨p, dx, x, rfl, _⟩ := h
    rfl
  · obtain ⟨p, dx, x, rfl, hp, h⟩ := h
    refine ⟨_, pss_cons (ps_set (i := 2) scWi.nd rfl (.inl rfl) (pe_call GW hr rfl mW kW bW .nil pass0 (pa_cons (pv 1) pa_nil)))
      (pss_cons (ps_if (pt_cmpR op_notN (pv 2) pe_non (nomark _)) (pss_one (ps_raise rfl (takes_of rfl rfl rfl rfl) (pmk_oex X.ox X.iE X.tE GE hr bE .nil pass0 rfl X.mgE (pa_cons (pv 2) pa_nil)))) pss_nil)
      (pss_one (ps_fld (pv 0) (pv 1) rfl))), ?_⟩
    have raised : ∀ {H1 : Hp} (i : Nat), Same H H1 → i ≤ 63 → (∀ H' d, (∀ b o, H b = some o → H' b = some o) → H d = none → H' d = some (.xd [("index", .int (i : Nat))]) → E (.ref CE) (some d) H') →
        ∀ a, H1 a = none → spIw CE [.ref a, .int (i : Nat)] (upd H1 a (exo a CE none)) (fun v H2 => v = .non ∧ ∃ (d : Addr) (fs : List (Str × V)), H2 a = some (exo a CE (some d)) ∧ H2 d = some (exd d fs) ∧ H1 d = none ∧ E (.ref CE) (some d) (upd (del H2 a) d (.xd fs))) (fun _ _ _ => False) := by
      intro H1 i sm hi k a ha
      refine ⟨a, i, rfl, upd_same, hi, fun d hd hne => ⟨rfl, d, _, upd_same, by rw [upd_ne hne, upd_same], ?_, ?_⟩⟩
      · rw [upd_ne hne] at hd
        exact hd
      · rw [upd_ne hne] at hd
        refine k _ _ (fun b o e => ?_) (sm.free hd) upd_same
        have e1 := sm b o e
        have nd := ne_of_none e1 hd
        have na := ne_of_none e1 ha
        rw [upd_ne nd, del_ne na, upd_ne na, upd_ne nd, upd_ne na]
        exact e1
    rcases h with ⟨t, rfl, hl, k1, k2⟩ | ⟨hx, k⟩
    · refine ⟨_, rfl, .inl ⟨t, rfl, hl, fun H1 r sm hr' => ?_⟩⟩
      cases r with
      | none =>
        refine ⟨_, rfl, rfl, _, rfl, iteF ?_⟩
        refine ⟨_, rfl, _, rfl, p, C, dx, [], rfl, sm _ _ hp, CW.cl, CW.nT, (by show 0 < 1000; decide), ?_⟩
        exact k1 _ hr' ⟨dx, upd_same⟩ fun b o e hb => by rw [upd_ne hb]; exact sm _ _ e
      | some i =>
        refine ⟨_, rfl, rfl, _, rfl, iteT ⟨_, rfl, by show 1 ≤ 1000; decide, ?_⟩⟩
        exact raised i sm (Nat.le_trans hr'.le (by decide)) fun H' d h1 h2 h3 => k2 H' d i hr' h1 h2 h3
    · refine ⟨_, rfl, .inr ⟨x, rfl, hx, ?_⟩⟩
      refine ⟨_, rfl, rfl, _, rfl, iteT ⟨_, rfl, by show 1 ≤ 1000; decide, ?_⟩⟩
      exact raised 0 (Same.refl H) (by decide) k
end
section
variable {CX : CXT} {P : Program} {w : World} {K : PySem.W.Frag} {mg : Str → Option Value} {base : Heap} {f C cc cda : Addr} {kV doc pm ct oc : Value} {an od : Option Addr} {osl : Array (Option Value)} {ar : Arg}
theorem scIw : NScope ["self", "index", "__class__"] ["self", "index"] ["__class__"] (defScope sInvalidWordInit) := nscope_by (by decide +kernel)
theorem ok_iw (lk : K.lookup f = some ⟨oc, od, .func (PySem.W.fnX "__init__" "InvalidWord.__init__" (defArgs sInvalidWordInit) (defBody sInvalidWordInit) (defScope sInvalidWordInit) [("__class__", cc)] .none kV doc pm an (.ref cda) ct), osl⟩) (hcd : PySem.W.codeIn K (.ref cda) "InvalidWord.__init__" = true)
    (U : SupI P K C f cc cda (PySem.W.fnX "__init__" "InvalidWord.__init__" (defArgs sInvalidWordInit) (defBody sInvalidWordInit) (defScope sInvalidWordInit) [("__class__", cc)] .none kV doc pm an (.ref cda) ct) ar) (har : ar.arg = "self") (T : OexC K C) (hm : mg "super" = none) (hno : PySem.W.findIn K (.ref C) "index" = some none) :
    FnOk P w K mg base CX 1 f (PySem.W.fnX "__init__" "InvalidWord.__init__" (defArgs sInvalidWordInit) (defBody sInvalidWordInit) (defScope sInvalidWordInit) [("__class__", cc)] .none kV doc pm an (.ref cda) ct) ["self", "index"] (spIw C) := by
  refine super_fn (N := ["self", "index", "__class__"]) (k := 0) lk hcd scIw U T hm rfl (by decide +kernel) (by rw [har]; decide +kernel) (by rw [har]; rfl) (fun vs H Q E h => ?_) (fun env L he => ?_) fun A outer s H vs Q E h => ?_
  · obtain ⟨a, n, rfl, _⟩ := h
    rfl
  · subst he
    exact ⟨_, rfl, rfl, rfl, rfl⟩
  · obtain ⟨a, n, rfl, e, hn, k⟩ := h
    refine ⟨a, fun H1 => H1 = H, _, _, pa_cons (pe_joined (.cons pe_str (.cons (pe_fmt (pv 1)) .nil))) pa_nil, pss_one (ps_ost (pv 0) (pv 1)), rfl, e, ?_, ?_⟩
    · refine ⟨_, rfl, (by decide +kernel), _, rfl, .inr ⟨(n : Int), rfl, by rw [Int.natAbs_natCast]; exact log_small hn, _, rfl, ?_, ?_⟩⟩
      · exact small_text hn (by decide +kernel)
      · exact ⟨by show 1 ≤ 1000; decide, e, rfl⟩
    · rintro H1 rfl
      exact ⟨_, rfl, _, rfl, a, C, rfl, T, hno, .inl ⟨e, k⟩⟩
end
end TA
end
section
set_option Elab.async false
set_option maxRecDepth 100000
set_option linter.all false
namespace TA
open PySem PySem.Spec PyProof.Rows L2 LamX TX TK TM TB
def isN : V → Int → Bool
  | .int i, l => decide (0 ≤ i) && decide (i ≤ l)
  | _, _ => false
/-- what isinstance says of a value -/
structure Kn (K : PySem.W.Frag) (H : Hp) (x : V) (ty : String) (bb bi : Bool) : Prop where
  t : TyX K H x (.type ty)
  b : kitB ty "bool" = some bb
  i : kitB ty "int" = some bi
  yes : bb = false → bi = true → ∃ i, x = .int i
  no : bb = true ∨ bi = false → ∀ i, x ≠ .int i
theorem kn_int {K : PySem.W.Frag} {H : Hp} (i : Int) : Kn K H (.int i) "int" false true := ⟨.base (.int i), by decide +kernel, by decide +kernel, fun _ _ => ⟨i, rfl⟩, fun h => by rcases h with h | h <;> cases h⟩
theorem kn_bl {K : PySem.W.Frag} {H : Hp} (b : Bool) : Kn K H (.bl b) "bool" true true := ⟨.base (.bl b), by decide +kernel, by decide +kernel, fun h => (by cases h), fun _ i => (by simp)⟩
theorem kn_non {K : PySem.W.Frag} {H : Hp} : Kn K H .non "NoneType" false false := ⟨.base .non, by decide +kernel, by decide +kernel, fun _ h => (by cases h), fun _ i => (by simp)⟩
theorem kn_str {K : PySem.W.Frag} {H : Hp} (z : Str) : Kn K H (.str z) "str" false false := ⟨.base (.str z), by decide +kernel, by decide +kernel, fun _ h => (by cases h), fun _ i => (by simp)⟩
structure TxtN (K : PySem.W.Frag) (mg : Str → Option Value) : Prop where
  isi : mg "isinstance" = none
  bool : mg "bool" = none
  int : mg "int" = none
section
variable {P : Program} {w : World} {K : PySem.W.Frag} {mg : Str → Option Value} {base : Heap} {C fT : Addr} {fdT : FuncData}
theorem scNu : FnScope ["value", "limit"] ["value", "limit"] (defScope sIsNumber) := ⟨rfl, rfl, rfl, by decide +kernel, rfl, by decide +kernel, by decide +kernel⟩
def spNum (K : PySem.W.Frag) : Sp := fun vs H Q _ => ∃ (x : V) (l : Int) (ty : String) (bb bi : Bool), vs = [x, .int l] ∧ Kn K H x ty bb bi ∧ Q (.bl (isN x l)) H
theorem ok_num {f : Addr} {fd : FuncData} (F : Fun K "is_number" "is_number" sIsNumber f fd) (T : TxtN K mg) : FnOk P w K mg base CX0 1 f fd ["value", "limit"] (spNum K) := by
  refine F.ok scNu (fun vs H Q E h => ?_) (fun cdv A outer s H vs Q E hr h => ?_)
  · obtain ⟨x, l, ty, bb, bi, rfl, _⟩ := h
    rfl
  · obtain ⟨x, l, ty, bb, bi, rfl, N, k⟩ := h
    refine ⟨_, pss_cons (ps_if (PW.pt (pw_or (pt_val (pe_callB call_isi (by rfl) T.isi (by decide +kernel) (pa_cons (pv 0) (pa_cons (pe_bltn (v := .ty "bool") (by rfl) T.bool (by decide +kernel) rfl) pa_nil))))
        (pw_or1 (pt_not (pt_val (pe_callB call_isi (by rfl) T.isi (by decide +kernel) (pa_cons (pv 0) (pa_cons (pe_bltn (v := .ty "int") (by rfl) T.int (by decide +kernel) rfl) pa_nil)))))))) (pss_one (ps_ret pe_bl)) pss_nil)
      (pss_one (ps_ret (pe_chain op_le op_le pe_int (pv 0) (pv 1)))), ?_⟩
    refine ⟨_, rfl, _, _, _, _, bb, rfl, .ty _, N.t, kit_ty N.b, bb, rfl, ?_⟩
    cases bb with
    | true =>
      refine iteT ?_
      have e : isN x l = false := by
        have h := N.no (.inl rfl)
        cases x with
        | int i => exact absurd rfl (h i)
        | _ => rfl
      rw [e] at k
      exact k
    | false =>
      refine iteF ⟨_, rfl, _, _, _, _, bi, rfl, .ty _, N.t, kit_ty N.i, bi, rfl, ?_⟩
      cases bi with
      | false =>
        refine iteT ?_
        have e : isN x l = false := by
          have h := N.no (.inr rfl)
          cases x with
          | int i => exact absurd rfl (h i)
          | _ => rfl
        rw [e] at k
        exact k
      | true =>
        obtain ⟨i, rfl⟩ := N.yes rfl rfl
        refine iteF ?_
        refine ⟨_, rfl, _, _, rfl, rfl, _, rfl, ?_⟩
        by_cases h0 : (0 : Int) ≤ i
        · rw [decide_eq_true h0]
          refine iteT ⟨_, rfl, _, _, rfl, rfl, ?_⟩
          have e : isN (.int i) l = decide (i ≤ l) := by
            show (decide (0 ≤ i) && decide (i ≤ l)) = _
            rw [decide_eq_true h0, Bool.true_and]
          rw [e] at k
          exact k
        · rw [decide_eq_false h0]
          refine iteF ?_
          have e : isN (.int i) l = false := by
            show (decide (0 ≤ i) && decide (i ≤ l)) = _
            rw [decide_eq_false h0, Bool.false_and]
          rw [e] at k
          exact k
end
end TA
end
section
set_option Elab.async false
set_option maxRecDepth 100000
set_option linter.all false
namespace TA
open PySem PySem.Spec PyProof.Rows L2 LamX TX TK TM TB
section
variable {P : Program} {w : World} {K : PySem.W.Frag} {mg : Str → Option Value} {base : Heap} {C fT : Addr} {fdT : FuncData}
def spItG (K : PySem.W.Frag) : Sp := fun vs H Q _ => ∃ x, vs = [x] ∧ ((∃ t : List Nat, x = .str (S t) ∧ t.length ≤ 1000 ∧ Q (.bl (decide (t.length = 1) && isT (t.getD 0 0))) H) ∨ (NoText K H x ∧ Q (.bl false) H))
theorem S_one {t : List Nat} (h : t.length = 1) : ∃ c, t = [c] := by
  match t, h with
  | [c], _ => exact ⟨c, rfl⟩
theorem ok_itG {f : Addr} {fd : FuncData} (F : Fun K "is_tilt" "is_tilt" sIsTilt f fd) (T : TxtW K mg) : FnOk P w K mg base CX0 1 f fd ["value"] (spItG K) := by
  refine F.ok scIt (fun vs H Q E h => ?_) (fun cdv A outer s H vs Q E hr h => ?_)
  · obtain ⟨x, rfl, _⟩ := h
    rfl
  · obtain ⟨x, rfl, h⟩ := h
    refine ⟨_, pss_one (ps_ret (pe_and (pe_callB call_isi (by rfl) T.isi (by decide +kernel) (pa_cons (pv 0) (pa_cons (pe_bltn (v := .ty "str") (by rfl) T.str (by decide +kernel) rfl) pa_nil)))
      (pe_and (pe_cmpR op_eq (pe_callB call_len_str (by rfl) T.len PySem.boot_len (pa_cons (pv 0) pa_nil)) pe_int (nomark _))
        (pe_one (pe_cmpR op_in_sign (pv 0) (pe_op op_add_str (C8.pe_gc rfl T.AR) (C8.pe_gc rfl T.AC)) (by rfl)))))), ?_⟩
    rcases h with ⟨t, rfl, hl, k⟩ | ⟨⟨ty, hty, hk⟩, k⟩
    · refine ⟨_, rfl, _, _, _, _, true, rfl, .ty _, .base (.str _), kit_ty (by decide +kernel), true, rfl, iteT ?_⟩
      have hs : (S t).length ≤ sizeLine := by
        rw [S_len]
        show _ ≤ 16777216
        omega
      refine ⟨_, rfl, _, rfl, hs, rfl, _, rfl, ?_⟩
      by_cases h1 : t.length = 1
      · obtain ⟨c, rfl⟩ := S_one h1
        have e : decide (V.int ((S [c]).length : Nat) = V.int 1) = true := decide_eq_true (by rw [S_len]; rfl)
        rw [e]
        refine iteT ?_
        refine ⟨_, rfl, _, _, rfl, rfl, by show 4 ≤ sizeLine; decide, c, _, rfl, rfl, ?_⟩
        rw [decide_eq_true h1, Bool.true_and] at k
        exact k
      · have e : decide (V.int ((S t).length : Nat) = V.int 1) = false := decide_eq_false (by
          rw [S_len]
          intro z
          injection z with z
          omega)
        rw [e]
        refine iteF ?_
        rw [decide_eq_false h1, Bool.false_and] at k
        exact k
    · refine ⟨_, rfl, _, _, _, _, false, rfl, .ty _, hty, kit_ty hk, false, rfl, iteF ?_⟩
      exact k
theorem scCo : FnScope ["self", "x"] ["self", "x"] (defScope sWordContains) := ⟨rfl, rfl, rfl, by decide +kernel, rfl, by decide +kernel, by decide +kernel⟩
def spCo (K : PySem.W.Frag) (C : Addr) : Sp := fun vs H Q _ => ∃ (p : Addr) (x : V) (t : List Nat), vs = [.ref p, x] ∧ WordAt C H p t ∧ Good t ∧ ((∃ u : List Nat, x = .str (S u) ∧ u.length ≤ 1000 ∧ Q (.bl (decide (u.length = 1) && decide (u.getD 0 0 ∈ t))) H) ∨ (NoText K H x ∧ Q (.bl false) H))
theorem ok_co {f : Addr} {fd : FuncData} (F : Fun K "__contains__" "Word.__contains__" sWordContains f fd) (CW : ClsW K mg C) (GT : FnOk P w K mg base CX0 1 fT fdT ["value"] (spItG K)) (kT : PySem.W.keepIn K (.ref fT) = true) (bT : Binds K fdT ["value"] []) (mT : mg "is_tilt" = some (.ref fT)) :
    FnOk P w K mg base CX0 2 f fd ["self", "x"] (spCo K C) := by
  refine F.ok scCo (fun vs H Q E h => ?_) (fun cdv A outer s H vs Q E hr h => ?_)
  · obtain ⟨p, x, t, rfl, _⟩ := h
    rfl
  · obtain ⟨p, x, t, rfl, ⟨dx, hp⟩, hg, h⟩ := h
    refine ⟨_, pss_one (ps_ret (pe_and (pe_call GT hr rfl mT kT bT .nil pass0 (pa_cons (pv 1) pa_nil)) (pe_one (pe_cmpR op_in_sign (pv 1) (pe_fld (pv 0) rfl) (by rfl))))), ?_⟩
    rcases h with ⟨u, rfl, hu, k⟩ | ⟨hx, k⟩
    · refine ⟨_, rfl, _, rfl, .inl ⟨u, rfl, hu, ?_⟩⟩
      by_cases h1 : u.length = 1
      · obtain ⟨c, rfl⟩ := S_one h1
        have e1 : (decide (([c] : List Nat).length = 1) && isT (([c] : List Nat).getD 0 0)) = isT c := rfl
        rw [e1]
        have e2 : (decide (([c] : List Nat).length = 1) && decide (([c] : List Nat).getD 0 0 ∈ t)) = decide (c ∈ t) := rfl
        rw [e2] at k
        cases hT : isT c with
        | true =>
          refine ⟨true, rfl, iteT ⟨_, rfl, _, rfl, p, C, dx, _, _, rfl, hp, CW.cl, CW.nT, rfl, c, _, rfl, rfl, ?_⟩⟩
          rw [S_list]
          exact k
        | false =>
          refine ⟨false, rfl, iteF ?_⟩
          have e : decide (c ∈ t) = false := decide_eq_false fun z => by
            rw [hg.2 c z] at hT
            cases hT
          rw [e] at k
          exact k
      · rw [decide_eq_false h1, Bool.false_and] at k ⊢
        exact ⟨false, rfl, iteF k⟩
    · exact ⟨_, rfl, _, rfl, .inr ⟨hx, false, rfl, iteF k⟩⟩
theorem scLe : FnScope ["self"] ["self"] (defScope sWordLen) := ⟨rfl, rfl, rfl, by decide +kernel, rfl, by decide +kernel, by decide +kernel⟩
def spLe (C : Addr) : Sp := fun vs H Q _ => ∃ (p : Addr) (t : List Nat), vs = [.ref p] ∧ WordAt C H p t ∧ Good t ∧ Q (.int (t.length : Nat)) H
theorem S_line {t : List Nat} (h : t.length ≤ 1000) : (S t).length ≤ sizeLine := by
  rw [S_len]
  show _ ≤ 16777216
  omega
theorem ok_le {f : Addr} {fd : FuncData} (F : Fun K "__len__" "Word.__len__" sWordLen f fd) (CW : ClsW K mg C) (T : TxtW K mg) : FnOk P w K mg base CX0 1 f fd ["self"] (spLe C) := by
  refine F.ok scLe (fun vs H Q E h => ?_) (fun cdv A outer s H vs Q E hr h => ?_)
  · obtain ⟨p, t, rfl, _⟩ := h
    rfl
  · obtain ⟨p, t, rfl, ⟨dx, hp⟩, hg, k⟩ := h
    refine ⟨_, pss_one (ps_ret (pe_callB call_len_str (by rfl) T.len PySem.boot_len (pa_cons (pe_fld (pv 0) rfl) pa_nil))), ?_⟩
    refine ⟨_, rfl, p, C, dx, _, _, rfl, hp, CW.cl, CW.nT, rfl, _, rfl, S_line (Nat.le_trans hg.1 (by decide)), ?_⟩
    rw [S_len]
    exact k
theorem scWtx : FnScope ["self"] ["self"] (defScope sWordText) := ⟨rfl, rfl, rfl, by decide +kernel, rfl, by decide +kernel, by decide +kernel⟩
def spWtx (C : Addr) : Sp := fun vs H Q _ => ∃ (p : Addr) (t : List Nat), vs = [.ref p] ∧ WordAt C H p t ∧ Q (.str (S t)) H
theorem ok_wtx {f : Addr} {fd : FuncData} (F : Fun K "text" "Word.text" sWordText f fd) (CW : ClsW K mg C) : FnOk P w K mg base CX0 1 f fd ["self"] (spWtx C) := by
  refine F.ok scWtx (fun vs H Q E h => ?_) (fun cdv A outer s H vs Q E hr h => ?_)
  · obtain ⟨p, t, rfl, _⟩ := h
    rfl
  · obtain ⟨p, t, rfl, ⟨dx, hp⟩, k⟩ := h
    refine ⟨_, pss_one (ps_ret (pe_fld (pv 0) rfl)), ?_⟩
    exact ⟨_, rfl, p, C, dx, _, _, rfl, hp, CW.cl, CW.nT, rfl, k⟩
end
end TA
end
section
set_option Elab.async false
set_option maxRecDepth 100000
set_option linter.all false
namespace TA
open PySem PySem.Spec PyProof.Rows L2 LamX TX TK TM TB
/-- an own exception class that is made with a text -/
structure ExN (K : PySem.W.Frag) (mg : Str → Option Value) (x : Str) (CE : Addr) : Prop where
  q : PySem.W.excIn K CE [.type "ValueError", .type "Exception", .type "BaseException", .type "object"] "ValueError.__new__" = true
  g : mg x = some (.ref CE)
  k : PySem.W.keepIn K (.ref CE) = true
  s : PySem.W.subIn K (.ref CE) (.type "BaseException") = some true
  t : PySem.W.typeIn K (.ref CE) = some (.type "type")
/-- the class asked by isinstance -/
structure IsW (K : PySem.W.Frag) (C : Addr) : Prop where
  ha : PySem.W.findIn K (.ref C) "__class__" = some (some (.builtin "object.__class__"))
  hn : PySem.W.specialIn K (.builtin "object.__class__") "__get__" = some (some (.builtin "getset_descriptor.__get__"))
  ht : PySem.W.takesIn K (.builtin "object.__class__") = some true
  hm : PySem.W.mroIn K C (.type "object") = some true
  one : PySem.W.kitOne K (.ref C) (.ref C) = some true
  str : PySem.W.kitOne K (.type "str") (.ref C) = some false
section
variable {P : Program} {w : World} {K : PySem.W.Frag} {mg : Str → Option Value} {base : Heap} {C CN fU : Addr} {fdU : FuncData}
theorem scGi : FnScope ["self", "at"] ["self", "at"] (defScope sWordGetitem) := ⟨rfl, rfl, rfl, by decide +kernel, rfl, by decide +kernel, by decide +kernel⟩
def spGi (K : PySem.W.Frag) (C CN : Addr) : Sp := fun vs H Q E => ∃ (p : Addr) (x : V) (t : List Nat) (ty : String) (bb bi : Bool), vs = [.ref p, x] ∧ WordAt C H p t ∧ Good t ∧ Kn K H x ty bb bi ∧
  ((∃ i : Nat, x = .int i ∧ i < t.length ∧ Q (sg (t.getD i 0)) H) ∨ (isN x ((t.length : Int) - 1) = false ∧ E (.ref CN) none H))
theorem ok_gi {f : Addr} {fd : FuncData} (F : Fun K "__getitem__" "Word.__getitem__" sWordGetitem f fd) (CW : ClsW K mg C) (T : TxtW K mg) (GU : FnOk P w K mg base CX0 1 fU fdU ["value", "limit"] (spNum K)) (kU : PySem.W.keepIn K (.ref fU) = true) (bU : Binds K fdU ["value", "limit"] []) (mU : mg "is_number" = some (.ref fU)) (X : ExN K mg "InvalidNumber" CN) :
    FnOk P w K mg base (L2.CX P w) 2 f fd ["self", "at"] (spGi K C CN) := by
  refine F.okX scGi (fun vs H Q E h => ?_) (fun cdv A outer s H vs Q E hr h => ?_)
  · obtain ⟨p, x, t, ty, bb, bi, rfl, _⟩ := h
    rfl
  · obtain ⟨p, x, t, ty, bb, bi, rfl, ⟨dx, hp⟩, hg, N, h⟩ := h
    refine ⟨_, pss_cons (ps_if (pt_not (pt_val (pe_call GU hr rfl mU kU bU .nil pass0 (pa_cons (pv 1) (pa_cons (pe_op op_sub (pe_callB call_len_str (by rfl) T.len PySem.boot_len (pa_cons (pe_fld (pv 0) rfl) pa_nil)) pe_int) pa_nil)))))
        (pss_one (ps_raise rfl (takes_of rfl rfl rfl rfl) (pmk_own PySem.F.excBase_ValueError X.q X.g X.k (raises_own X.s X.t) rfl))) pss_nil)
      (pss_one (ps_ret (pe_ix ix_str (pe_fld (pv 0) rfl) (pv 1) (fun _ _ => rfl)))), ?_⟩
    have hl := hg.1
    refine ⟨_, rfl, _, rfl, p, C, dx, _, _, rfl, hp, CW.cl, CW.nT, rfl, _, rfl, S_line (Nat.le_trans hl (by decide)), _, _, rfl, rfl, ?_⟩
    refine ⟨x, _, ty, bb, bi, rfl, N, ?_⟩
    rw [S_len]
    rcases h with ⟨i, rfl, hi, k⟩ | ⟨e, k⟩
    · have e : isN (.int i) ((t.length : Int) - 1) = true := by
        show (decide ((0 : Int) ≤ i) && decide ((i : Int) ≤ (t.length : Int) - 1)) = true
        rw [decide_eq_true (by omega), decide_eq_true (by omega)]
        rfl
      rw [e]
      refine ⟨true, rfl, iteF ?_⟩
      refine ⟨_, rfl, p, C, dx, _, _, rfl, hp, CW.cl, CW.nT, rfl, _, rfl, S t, i, t.getD i 0, rfl, rfl, S_line (Nat.le_trans hl (by decide)), atI_nat ?_, k⟩
      rw [S_list, List.getElem?_eq_getElem hi, List.getD_eq_getElem?_getD, List.getElem?_eq_getElem hi]
      rfl
    · rw [e]
      exact ⟨false, rfl, iteT k⟩
theorem scEq : FnScope ["self", "other"] ["self", "other"] (defScope sWordEq) := ⟨rfl, rfl, rfl, by decide +kernel, rfl, by decide +kernel, by decide +kernel⟩
def spWe (K : PySem.W.Frag) (C : Addr) : Sp := fun vs H Q _ => ∃ (p : Addr) (t : List Nat) (y : V), vs = [.ref p, y] ∧ WordAt C H p t ∧ ((∃ (q : Addr) (u : List Nat), y = .ref q ∧ WordAt C H q u ∧ Q (.bl (decide (t = u))) H) ∨ (∃ z : Str, y = .str z ∧ Q (.bl false) H))
theorem ok_we {f : Addr} {fd : FuncData} (F : Fun K "__eq__" "Word.__eq__" sWordEq f fd) (CW : ClsW K mg C) (W : IsW K C) (T : TxtW K mg) : FnOk P w K mg base CX0 1 f fd ["self", "other"] (spWe K C) := by
  refine F.ok scEq (fun vs H Q E h => ?_) (fun cdv A outer s H vs Q E hr h => ?_)
  · obtain ⟨p, t, y, rfl, _⟩ := h
    rfl
  · obtain ⟨p, t, y, rfl, ⟨dx, hp⟩, h⟩ := h
    refine ⟨_, pss_one (ps_ret (pe_and (pe_callB call_isi (by rfl) T.isi (by decide +kernel) (pa_cons (pv 1) (pa_cons (pe_glob (v := .ref C) rfl CW.mgC rfl) pa_nil))) (pe_one (pe_cmpR op_eq (pe_fld (pv 0) rfl) (pe_fld (pv 1) rfl) (nomark _))))), ?_⟩
    rcases h with ⟨q, u, rfl, ⟨dy, hq⟩, k⟩ | ⟨z, rfl, k⟩
    · refine ⟨_, rfl, _, _, _, _, true, rfl, .own C, .base (.ins hq CW.cl W.ha W.hn W.ht W.hm), W.one, true, rfl, iteT ?_⟩
      refine ⟨_, rfl, p, C, dx, _, _, rfl, hp, CW.cl, CW.nT, rfl, _, rfl, q, C, dy, _, _, rfl, hq, CW.cl, CW.nT, rfl, rfl, ?_⟩
      show Q (V.bl (decide (V.str (S t) = V.str (S u)))) H
      rw [Sd]
      exact k
    · exact ⟨_, rfl, _, _, _, _, false, rfl, .own C, .base (.str z), W.str, false, rfl, iteF k⟩
end
end TA
end
section
set_option Elab.async false
set_option maxRecDepth 100000
set_option linter.all false
namespace TB
open PySem PySem.Spec PyProof.Rows L2 TK
def rep (n : Nat) (t : List Nat) : List Nat := (List.replicate n t).flatten
theorem foldl_app (n : Nat) (t : List Nat) : ∀ a : List Nat, (List.replicate n t.toArray).foldl (· ++ ·) a.toArray = (a ++ rep n t).toArray := by
  induction n with
  | zero => intro a; simp [rep]
  | succ n ih =>
    intro a
    rw [List.replicate_succ, List.foldl_cons]
    have e : a.toArray ++ t.toArray = (a ++ t).toArray := by simp
    rw [e, ih]
    simp [rep, List.replicate_succ]
theorem mul_S (t : List Nat) (n : Nat) : Txt.mul (S t) (n : Int) = S (rep n t) := by
  unfold Txt.mul
  by_cases h : (n : Int) < 1
  · have e : n = 0 := by omega
    subst e
    rw [if_pos h]
    rfl
  · rw [if_neg h]
    by_cases h2 : ((n : Int) == 1 || (S t).length == 0) = true
    · rw [if_pos h2]
      rcases Bool.or_eq_true_iff.mp h2 with e | e
      · have e : n = 1 := by have := beq_iff_eq.mp e; omega
        subst e
        simp [rep]
      · have e := beq_iff_eq.mp e
        rw [S_len] at e
        have e := List.length_eq_zero_iff.mp e
        subst e
        have : rep n [] = [] := by simp [rep]
        rw [this]
    · rw [if_neg h2]
      have e := foldl_app n t []
      rw [Int.toNat_natCast]
      show Str.mk ((List.replicate n t.toArray).foldl (· ++ ·) #[]) = _
      have e2 : (#[] : Array Nat) = ([] : List Nat).toArray := rfl
      rw [e2, e, List.nil_append]
def rRepS : R2 := fun x y H Q => ∃ (t : List Nat) (n : Nat), x = .str (S t) ∧ y = .int n ∧ t.length ≤ 1000 ∧ n ≤ 1000 ∧ Q (.str (S (rep n t))) H
theorem op_repS {X : Cx} : OpR X (binaryOp .Mult) rRepS := by
  intro pins s σ H x y v u Q I rx ry h
  obtain ⟨t, n, rfl, rfl, ht, hn, q⟩ := h
  obtain ⟨a, rfl⟩ := (show ∃ a, v = Value.str (S t) a from rx)
  obtain ⟨b, rfl⟩ := (show ∃ b, u = Value.int n b from ry)
  refine SB.mul (mulOk_of 1000 1000 (by rw [S_len]; exact ht) (by omega) (by omega) (by decide) (by decide)) fun t' k => ?_
  rw [mul_S]
  exact ⟨.str (S (rep n t)), H, I.tok k, ⟨_, rfl⟩, q⟩
theorem rep_len (n : Nat) (t : List Nat) : (rep n t).length = n * t.length := by simp [rep]
end TB
end
section
set_option Elab.async false
set_option maxRecDepth 100000
set_option linter.all false
namespace TA
open PySem PySem.Spec PyProof.Rows L2 LamX TX TK TM TB
section
variable {P : Program} {w : World} {K : PySem.W.Frag} {mg : Str → Option Value} {base : Heap} {C CN CE fU fI : Addr} {fdU fdI : FuncData}
/-- what a new Word of a text does -/
theorem mk_word {t : List Nat} {H1 : Hp} {Q : VK} {E : XK} (hl : t.length ≤ 1000) (h1 : ∀ H2 r, Same H1 H2 → Fw t none → WordAt C H2 r t → Q (.ref r) H2)
    (h2 : ∀ H2 d i, Fw t (some i) → Same H1 H2 → H2 d = some (.xd [("index", .int (i : Nat))]) → E (.ref CE) (some d) H2) :
    ∀ x dx, H1 x = none → H1 dx = none → dx ≠ x → spWix K C CE [.ref x, .str (S t)] (upd (upd H1 dx (.own x)) x (.ins C dx [])) (fun v H2 => v = .non ∧ Q (.ref x) H2) E := by
  intro x dx nx ndx nex
  have sm : Same H1 (upd (upd H1 dx (.own x)) x (.ins C dx [])) := fun b o e => by
    rw [upd_ne (ne_of_none e nx), upd_ne (ne_of_none e ndx)]
    exact e
  refine ⟨x, dx, .str (S t), rfl, upd_same, .inl ⟨t, rfl, hl, fun H' hf hw kp => ⟨rfl, ?_⟩, fun H' d i hf k nd e => ?_⟩⟩
  · exact h1 _ _ (Same.made nx ndx kp) hf hw
  · exact h2 _ _ _ hf (sm.trans k) e
theorem passX {X : Cx} {E : XK} (tk : Takes X (fun cls d _ H => E cls d H)) : Passes (L2.CX X.prog X.w) X E := passes_call tk fun _ _ _ _ h => h
theorem scAd : FnScope ["self", "other"] ["self", "other"] (defScope sWordAdd) := ⟨rfl, rfl, rfl, by decide +kernel, rfl, by decide +kernel, by decide +kernel⟩
def spAd (C CE : Addr) : Sp := fun vs H Q E => ∃ (p q : Addr) (t u : List Nat), vs = [.ref p, .ref q] ∧ WordAt C H p t ∧ WordAt C H q u ∧ Good t ∧ Good u ∧
  (∀ H2 r, Same H H2 → Fw (t ++ u) none → WordAt C H2 r (t ++ u) → Q (.ref r) H2) ∧ ∀ H2 d i, Fw (t ++ u) (some i) → Same H H2 → H2 d = some (.xd [("index", .int (i : Nat))]) → E (.ref CE) (some d) H2
theorem ok_ad {f : Addr} {fd : FuncData} (F : Fun K "__add__" "Word.__add__" sWordAdd f fd) (CW : ClsW K mg C) (W : IsW K C) (T : TxtW K mg) (M : Mk K C fI) (GI : FnOk P w K mg base (L2.CX P w) 3 fI fdI ["self", "text"] (spWix K C CE)) (bI : Binds K fdI ["self", "text"] []) :
    FnOk P w K mg base (L2.CX P w) 5 f fd ["self", "other"] (spAd C CE) := by
  refine F.okX scAd (fun vs H Q E h => ?_) (fun cdv A outer s H vs Q E hr h => ?_)
  · obtain ⟨p, q, t, u, rfl, _⟩ := h
    rfl
  · obtain ⟨p, q, t, u, rfl, ⟨dx, hp⟩, ⟨dy, hq⟩, g1, g2, h1, h2⟩ := h
    refine ⟨_, pss_cons (ps_if (pt_not (pt_val (pe_callB call_isi (by rfl) T.isi (by decide +kernel) (pa_cons (pv 1) (pa_cons (pe_glob (v := .ref C) rfl CW.mgC rfl) pa_nil))))) pss_never pss_nil)
      (pss_one (ps_ret (pe_make M GI hr rfl CW.mgC bI .nil (passX (takes_of rfl rfl rfl rfl)) (pa_cons (pe_op op_add_str (pe_fld (pv 0) rfl) (pe_fld (pv 1) rfl)) pa_nil)))), ?_⟩
    refine ⟨_, rfl, _, _, _, _, true, rfl, .own C, .base (.ins hq CW.cl W.ha W.hn W.ht W.hm), W.one, true, rfl, iteF ?_⟩
    refine ⟨_, rfl, p, C, dx, _, _, rfl, hp, CW.cl, CW.nT, rfl, _, rfl, q, C, dy, _, _, rfl, hq, CW.cl, CW.nT, rfl, S t, S u, rfl, rfl, ?_, ?_⟩
    · rw [S_len, S_len]
      have := g1.1
      have := g2.1
      show _ ≤ 16777216
      omega
    · have e : S t ++ S u = S (t ++ u) := by
        show Str.mk (t.toArray ++ u.toArray) = _
        simp
      rw [e]
      have := g1.1
      have := g2.1
      exact mk_word (by rw [List.length_append]; omega) h1 h2
theorem scMu : FnScope ["self", "other"] ["self", "other"] (defScope sWordMul) := ⟨rfl, rfl, rfl, by decide +kernel, rfl, by decide +kernel, by decide +kernel⟩
def spMu (K : PySem.W.Frag) (C CE CN : Addr) : Sp := fun vs H Q E => ∃ (p : Addr) (x : V) (t : List Nat) (ty : String) (bb bi : Bool), vs = [.ref p, x] ∧ WordAt C H p t ∧ Good t ∧ Kn K H x ty bb bi ∧
  ((∃ n : Nat, x = .int n ∧ n ≤ 60 ∧ n * t.length ≤ 1000 ∧ (∀ H2 r, Same H H2 → Fw (rep n t) none → WordAt C H2 r (rep n t) → Q (.ref r) H2) ∧ ∀ H2 d i, Fw (rep n t) (some i) → Same H H2 → H2 d = some (.xd [("index", .int (i : Nat))]) → E (.ref CE) (some d) H2) ∨
    (isN x 60 = false ∧ E (.ref CN) none H))
theorem ok_mu {f : Addr} {fd : FuncData} (F : Fun K "__mul__" "Word.__mul__" sWordMul f fd) (CW : ClsW K mg C) (GU : FnOk P w K mg base CX0 1 fU fdU ["value", "limit"] (spNum K)) (kU : PySem.W.keepIn K (.ref fU) = true) (bU : Binds K fdU ["value", "limit"] []) (mU : mg "is_number" = some (.ref fU))
    (mT : ∃ u, mg "MAX_TIMES" = some u ∧ RelV (.int 60) u) (N : ExN K mg "InvalidNumber" CN) (M : Mk K C fI) (GI : FnOk P w K mg base (L2.CX P w) 3 fI fdI ["self", "text"] (spWix K C CE)) (bI : Binds K fdI ["self", "text"] []) :
    FnOk P w K mg base (L2.CX P w) 5 f fd ["self", "other"] (spMu K C CE CN) := by
  refine F.okX scMu (fun vs H Q E h => ?_) (fun cdv A outer s H vs Q E hr h => ?_)
  · obtain ⟨p, x, t, ty, bb, bi, rfl, _⟩ := h
    rfl
  · obtain ⟨p, x, t, ty, bb, bi, rfl, ⟨dx, hp⟩, g, kn, h⟩ := h
    refine ⟨_, pss_cons (ps_if (pt_not (pt_val (pe_call GU (hr.mono (by decide)) rfl mU kU bU .nil pass0 (pa_cons (pv 1) (pa_cons (C8.pe_gc rfl mT) pa_nil))))) (pss_one (ps_raise rfl (takes_of rfl rfl rfl rfl) (pmk_own PySem.F.excBase_ValueError N.q N.g N.k (raises_own N.s N.t) rfl))) pss_nil)
      (pss_one (ps_ret (pe_make M GI hr rfl CW.mgC bI .nil (passX (takes_of rfl rfl rfl rfl)) (pa_cons (pe_op op_repS (pe_fld (pv 0) rfl) (pv 1)) pa_nil)))), ?_⟩
    refine ⟨_, rfl, x, 60, ty, bb, bi, rfl, kn, ?_⟩
    have gl := g.1
    rcases h with ⟨n, rfl, hn, hl, h1, h2⟩ | ⟨e, k⟩
    · have e : isN (.int n) 60 = true := by
        show (decide ((0 : Int) ≤ n) && decide ((n : Int) ≤ 60)) = true
        rw [decide_eq_true (by omega), decide_eq_true (by omega)]
        rfl
      rw [e]
      refine ⟨true, rfl, iteF ?_⟩
      refine ⟨_, rfl, p, C, dx, _, _, rfl, hp, CW.cl, CW.nT, rfl, _, rfl, t, n, rfl, rfl, by omega, by omega, ?_⟩
      exact mk_word (by rw [rep_len]; exact hl) h1 h2
    · rw [e]
      exact ⟨false, rfl, iteT k⟩
end
end TA
end
section
set_option Elab.async false
set_option maxRecDepth 100000
set_option linter.all false
namespace TA
open PySem PySem.Spec PyProof.Rows L2 LamX TX TK TM TB
def along (t ax : List Nat) : List Nat := t.filter fun c => decide (c ∈ ax)
def optS : Option Nat → V
  | none => .non
  | some c => sg c
theorem along_snoc {t ax : List Nat} {i c : Nat} (h : t[i]? = some c) : along (t.take (i + 1)) ax = along (t.take i) ax ++ if c ∈ ax then [c] else [] := by
  unfold along
  rw [List.take_add_one, h, List.filter_append]
  congr 1
  by_cases e : c ∈ ax
  · simp [e]
  · simp [e]
theorem along_le (t ax : List Nat) : (along t ax).length ≤ t.length := List.length_filter_le _ _
section
variable {P : Program} {w : World} {K : PySem.W.Frag} {mg : Str → Option Value} {base : Heap} {C fL : Addr} {fdL : FuncData}
abbrev NLa : List Str := ["text", "axis", "found", "tilt"]
theorem scLa : FnScope NLa ["text", "axis"] (defScope sLastAlong) := ⟨rfl, rfl, rfl, by decide +kernel, rfl, by decide +kernel, by decide +kernel⟩
def spLa : Sp := fun vs H Q _ => ∃ t ax : List Nat, vs = [.str (S t), .str (S ax)] ∧ t.length ≤ 1000 ∧ ∀ H', Same H H' → Q (optS (along t ax).getLast?) H'
theorem ok_la {f : Addr} {fd : FuncData} (F : Fun K "_last_along" "_last_along" sLastAlong f fd) : FnOk P w K mg base CX0 1 f fd ["text", "axis"] spLa := by
  refine F.ok scLa (fun vs H Q E h => ?_) (fun cdv A outer s H vs Q E hr h => ?_)
  · obtain ⟨t, ax, rfl, _⟩ := h
    rfl
  · obtain ⟨t, ax, rfl, hl, k⟩ := h
    refine ⟨_, pss_cons (ps_setLc (i := 2) (own := [("tilt", 3)]) (g := gName 3) rfl scLa.nd rfl rfl (sw_true rfl rfl rfl (by decide +kernel)) (pi_str (pv 0)) (blkOk_by (N := NLa) (sc := defScope sLastAlong) (by decide +kernel)) (fun _ _ _ _ _ => pg_name (i := 3) scLa.nd rfl (.inl rfl))
        (fun _ _ _ _ _ => pts_one (pt_cmpR op_in_sign (pv 3) (pv 1) (by rfl))) (fun _ _ _ _ _ => pv 3))
      (pss_one (ps_ret (pe_ifExp (pt_truth (pv 2) (by intro _; rfl)) (pe_ix ix_list (pv 2) (pe_un un_neg pe_int) (fun _ _ => rfl)) pe_non))), ?_⟩
    refine ⟨_, rfl, _, rfl, fun D hD => lc_it (walk_str (z := S t)) (fun i H1 => Same H H1 ∧ H1 D = some (.lst ((along (t.take i) ax).map sg))) ⟨same_new hD, upd_same⟩ (fun _ _ _ _ => True.intro) ?_ ?_⟩
    · rintro i x H1 H2 hi ⟨sm, hL⟩ ⟨rfl, c, hc, rfl⟩
      rw [S_at] at hc
      refine ⟨rfl, _, rfl, _, rfl, c, S ax, rfl, rfl, ?_⟩
      rw [S_list, along_snoc hc]
      by_cases e : c ∈ ax
      · rw [decide_eq_true e, if_pos e]
        refine ⟨_, rfl, iteT ⟨_, rfl, _, hL, ?_, ?_⟩⟩
        · rw [List.length_map]
          have := along_le (t.take i) ax
          rw [List.length_take] at this
          show _ < 16777216
          omega
        · refine ⟨same_put sm hD, ?_⟩
          rw [upd_same, List.map_append]
          rfl
      · rw [decide_eq_false e, if_neg e, List.append_nil]
        exact ⟨_, rfl, iteF ⟨sm, hL⟩⟩
    · rintro H1 ⟨sm, hL⟩
      rw [S_size, List.take_length] at hL
      refine ⟨_, rfl, _, .inl ⟨_, SqL.of hL, rfl⟩, ?_⟩
      rcases List.eq_nil_or_concat (along t ax) with e | ⟨r, c, e⟩
      · rw [e] at hL k ⊢
        exact iteF (k _ sm)
      · rw [e] at hL k ⊢
        rw [List.concat_eq_append] at hL k ⊢
        rw [List.map_append] at hL ⊢
        rw [show (!((r.map sg ++ [c].map sg).isEmpty)) = true by simp]
        refine iteT ⟨_, rfl, _, rfl, D, _, _, _, rfl, rfl, SqL.of hL, atI_last _ _, ?_⟩
        rw [List.getLast?_append] at k
        exact k _ sm
end
end TA
end
section
set_option Elab.async false
set_option maxRecDepth 100000
set_option linter.all false
namespace TA
open PySem PySem.Spec PyProof.Rows L2 LamX TX TK TM TB
def cornerV (t : List Nat) : V := match (along t [117, 100]).getLast?, (along t [108, 114]).getLast? with
  | some a, some b => .str (S [a, b])
  | _, _ => .non
section
variable {P : Program} {w : World} {K : PySem.W.Frag} {mg : Str → Option Value} {base : Heap} {C fL : Addr} {fdL : FuncData}
theorem scCr : FnScope ["self", "column_tilt", "row_tilt"] ["self"] (defScope sWordCorner) := ⟨rfl, rfl, rfl, by decide +kernel, rfl, by decide +kernel, by decide +kernel⟩
def spCr (C : Addr) : Sp := fun vs H Q _ => ∃ (p : Addr) (t : List Nat), vs = [.ref p] ∧ WordAt C H p t ∧ Good t ∧ ∀ H', Same H H' → Q (cornerV t) H'
theorem ok_cr {f : Addr} {fd : FuncData} (F : Fun K "corner" "Word.corner" sWordCorner f fd) (CW : ClsW K mg C) (T : TxtW K mg) (GL : FnOk P w K mg base CX0 1 fL fdL ["text", "axis"] spLa) (kL : PySem.W.keepIn K (.ref fL) = true) (bL : Binds K fdL ["text", "axis"] []) (mL : mg "_last_along" = some (.ref fL)) :
    FnOk P w K mg base CX0 2 f fd ["self"] (spCr C) := by
  refine F.ok scCr (fun vs H Q E h => ?_) (fun cdv A outer s H vs Q E hr h => ?_)
  · obtain ⟨p, t, rfl, _⟩ := h
    rfl
  · obtain ⟨p, t, rfl, ⟨dx, hp⟩, g, k⟩ := h
    refine ⟨_, pss_cons (ps_set (i := 1) scCr.nd rfl (.inl rfl) (pe_call GL hr rfl mL kL bL .nil pass0 (pa_cons (pe_fld (pv 0) rfl) (pa_cons (C8.pe_gc rfl T.AC) pa_nil))))
      (pss_cons (ps_set (i := 2) scCr.nd rfl (.inl rfl) (pe_call GL hr rfl mL kL bL .nil pass0 (pa_cons (pe_fld (pv 0) rfl) (pa_cons (C8.pe_gc rfl T.AR) pa_nil))))
      (pss_cons (ps_if (PW.pt (pw_or (pt_cmpR op_isN (pv 1) pe_non (nomark _)) (pw_or1 (pt_cmpR op_isN (pv 2) pe_non (nomark _))))) (pss_one (ps_ret pe_non)) pss_nil)
      (pss_one (ps_ret (pe_op op_add_str (pv 1) (pv 2)))))), ?_⟩
    have hl : t.length ≤ 1000 := Nat.le_trans g.1 (by decide)
    refine ⟨_, rfl, p, C, dx, _, _, rfl, hp, CW.cl, CW.nT, rfl, t, [117, 100], rfl, hl, fun H1 s1 => ?_⟩
    refine ⟨_, rfl, p, C, dx, _, _, rfl, s1 _ _ hp, CW.cl, CW.nT, rfl, t, [108, 114], rfl, hl, fun H2 s2 => ?_⟩
    have k2 := k _ (s1.trans s2)
    unfold cornerV at k2
    refine ⟨_, rfl, rfl, _, rfl, ?_⟩
    cases e1 : (along t [117, 100]).getLast? with
    | none =>
      rw [e1] at k2
      exact iteT k2
    | some a =>
      rw [e1] at k2
      refine iteF ⟨_, rfl, rfl, _, rfl, ?_⟩
      cases e2 : (along t [108, 114]).getLast? with
      | none =>
        rw [e2] at k2
        exact iteT k2
      | some b =>
        rw [e2] at k2
        exact iteF ⟨_, rfl, _, rfl, _, _, rfl, rfl, by show 2 ≤ sizeLine; decide, k2⟩
end
end TA
end
section
set_option Elab.async false
set_option maxRecDepth 100000
set_option linter.all false
namespace TA
open PySem PySem.Spec PyProof.Rows L2 LamX TX TK TM TB
def opp (c : Nat) : Nat := if c = 108 then 114 else if c = 114 then 108 else if c = 117 then 100 else 117
theorem opp_t (c : Nat) : isT (opp c) = true := by
  unfold opp
  split
  · decide
  · split
    · decide
    · split
      · decide
      · decide
theorem opp_good {t : List Nat} (g : Good t) : Good (t.map opp) := by
  refine ⟨by rw [List.length_map]; exact g.1, fun c hc => ?_⟩
  obtain ⟨d, _, rfl⟩ := List.mem_map.mp hc
  exact opp_t d
theorem take_opp {t : List Nat} {i c : Nat} (h : t[i]? = some c) : ((t.take (i + 1)).map opp).map sg = ((t.take i).map opp).map sg ++ [sg (opp c)] := by
  rw [List.take_add_one, h]
  simp
theorem good_fw {t : List Nat} (g : Good t) {i : Nat} (h : Fw t (some i)) : False := by
  obtain ⟨hi, hw, _⟩ := h
  unfold wrongAt at hw
  have hl := g.1
  have hm := g.2 (t.getD i 0) (by rw [List.getD_eq_getElem?_getD, List.getElem?_eq_getElem hi]; exact List.getElem_mem _)
  rw [hm, decide_eq_false (by omega)] at hw
  cases hw
theorem ix_kdictK {X : Cx} {K : PySem.W.Frag} {w : World} (h : X.K = K) (h2 : X.w = w) : IxR X (rIxD K w) := by
  subst h
  subst h2
  exact ix_kdict
section
variable {P : Program} {w : World} {K : PySem.W.Frag} {mg : Str → Option Value} {base : Heap} {C CE fI aO : Addr} {fdI : FuncData}
theorem scNg : FnScope ["self", "tilt"] ["self"] (defScope sWordNeg) := ⟨rfl, rfl, rfl, by decide +kernel, rfl, by decide +kernel, by decide +kernel⟩
def spNg (C : Addr) : Sp := fun vs H Q _ => ∃ (p : Addr) (t : List Nat), vs = [.ref p] ∧ WordAt C H p t ∧ Good t ∧ ∀ H' r, Same H H' → WordAt C H' r (t.map opp) → Q (.ref r) H'
theorem ok_ng {f : Addr} {fd : FuncData} (F : Fun K "__neg__" "Word.__neg__" sWordNeg f fd) (CW : ClsW K mg C) (mO : mg "OPPOSITES" = some (.ref aO)) (dO : ∀ c, isT c = true → KDct K w aO (S [c]) (sg (opp c))) (M : Mk K C fI) (GI : FnOk P w K mg base (L2.CX P w) 3 fI fdI ["self", "text"] (spWix K C CE)) (bI : Binds K fdI ["self", "text"] []) :
    FnOk P w K mg base (L2.CX P w) 5 f fd ["self"] (spNg C) := by
  refine F.okX scNg (fun vs H Q E h => ?_) (fun cdv A outer s H vs Q E hr h => ?_)
  · obtain ⟨p, t, rfl, _⟩ := h
    rfl
  · obtain ⟨p, t, rfl, ⟨dx, hp⟩, g, k⟩ := h
    refine ⟨_, pss_one (ps_ret (pe_make M GI hr rfl CW.mgC bI .nil passL (pa_cons (pe_join pe_str (pe_lc (own := [("tilt", 1)]) (g := gName 1) (tt := tYes) rfl scNg.nd (pi_str (pe_fld (pv 0) rfl)) (blkOk_by (N := ["self", "tilt"]) (sc := defScope sWordNeg) (by decide +kernel)) (fun _ _ _ _ _ => pg_name (i := 1) scNg.nd rfl (.inl rfl)) (fun _ _ _ _ _ => pts_nil)
        (fun _ _ _ _ _ => pe_ix (ix_kdictK (K := K) (w := w) rfl rfl) (pe_glob (v := .ref aO) rfl mO rfl) (pv 1) (fun _ _ => rfl)))) pa_nil))), ?_⟩
    have hl := g.1
    refine ⟨⟨_, rfl⟩, _, rfl, p, C, dx, _, _, rfl, hp, CW.cl, CW.nT, rfl, _, rfl, fun D hD => lc_it (walk_str (z := S t)) (fun i H1 => Same H H1 ∧ H1 D = some (.lst (((t.take i).map opp).map sg))) ⟨same_new hD, upd_same⟩ (fun _ _ _ _ => True.intro) ?_ ?_⟩
    · rintro i x H1 H2 hi ⟨sm, hL⟩ ⟨rfl, c, hc, rfl⟩
      rw [S_at] at hc
      have hcm := g.2 c (List.mem_of_getElem? hc)
      refine ⟨rfl, ?_⟩
      refine ⟨_, rfl, aO, S [c], _, rfl, rfl, dO c hcm, _, hL, ?_, ?_⟩
      · rw [List.length_map, List.length_map, List.length_take]
        show _ < 16777216
        omega
      · refine ⟨same_put sm hD, ?_⟩
        rw [upd_same, take_opp hc]
    · rintro H1 ⟨sm, hL⟩
      rw [S_size, List.take_length] at hL
      have gw := opp_good g
      refine ⟨_, D, (t.map opp).map fun c => S [c], rfl, rfl, .inl ?_, ?_, ?_⟩
      · rw [List.map_map]
        exact SqL.of hL
      · rw [sum_ones, List.length_map]
        have := gw.1
        show _ + _ * 0 ≤ _
        omega
      · rw [join_signs]
        exact mk_word (by have := gw.1; omega) (fun H2 r s2 _ hw => k _ r (sm.trans s2) hw) fun H2 d i hf _ _ => (good_fw gw hf).elim
end
end TA
end
section
set_option Elab.async false
set_option maxRecDepth 100000
set_option linter.all false
namespace TA
open PySem L2 TM TK
structure TxtL (K : PySem.W.Frag) (mg : Str → Option Value) : Prop where
  int : mg "int" = none
  range : mg "range" = none
  min : mg "min" = none
/-- the script's list at a, where the drawing stands at r -/
def RowAt (K : PySem.W.Frag) (a : Addr) (ns : List Int) (H : Hp) (r : Addr) : Prop := ∃ i seed rest : Int, H r = some (.lst [.ref a, .int i, .int seed, .int rest]) ∧ 0 ≤ i ∧ SqL K H a (ns.map V.int)
def But (r : Addr) (H H' : Hp) : Prop := ∀ b o, H b = some o → b ≠ r → H' b = some o
theorem But.refl (r : Addr) (H : Hp) : But r H H := fun _ _ h _ => h
theorem But.trans {r : Addr} {H H1 H2 : Hp} (a : But r H H1) (b : But r H1 H2) : But r H H2 := fun c o h n => b c o (a c o h n) n
theorem But.same {r : Addr} {H H' : Hp} (s : Same H H') : But r H H' := fun b o h _ => s b o h
theorem RowAt.same {K : PySem.W.Frag} {a r : Addr} {ns : List Int} {H H' : Hp} (R : RowAt K a ns H r) (s : Same H H') : RowAt K a ns H' r := by
  obtain ⟨i, d, e, h, hi, q⟩ := R
  exact ⟨i, d, e, s _ _ h, hi, s.seq q⟩
theorem row_seq {K : PySem.W.Frag} {a r : Addr} {ns : List Int} {H : Hp} {i d e : Int} {o : HO} (h : H r = some (.lst [.ref a, .int i, .int d, .int e])) (q : SqL K H a (ns.map V.int)) : SqL K (upd H r o) a (ns.map V.int) := by
  have hne : ∀ {u : HO}, H a = some u → (∀ xs, u = .lst xs → xs ≠ [.ref a, .int i, .int d, .int e]) → a ≠ r := fun hu hn e' => by
    subst e'
    exact hn _ (Option.some.inj (hu.symm.trans h)) rfl
  rcases q with (q | ⟨u, q⟩) | q
  · refine .inl (.inl ?_)
    rw [upd_ne (hne q fun xs e => by
      cases e
      intro z
      cases ns with
      | nil => simp at z
      | cons n r => simp at z)]
    exact q
  · refine .inl (.inr ⟨u, ?_⟩)
    rw [upd_ne (hne q fun xs e => by cases e)]
    exact q
  · exact .inr q
theorem fmod_in {k m : Int} (h : 1 ≤ m) : 0 ≤ k.fmod m ∧ k.fmod m < m := by
  rw [Int.fmod_eq_emod_of_nonneg _ (by omega)]
  exact ⟨Int.emod_nonneg _ (by omega), Int.emod_lt_of_pos _ (by omega)⟩
section
variable {P : Program} {w : World} {K : PySem.W.Frag} {mg : Str → Option Value} {base : Heap}
theorem scTk : FnScope ["_law_row", "_law_many", "_law_found", "_law_cell"] ["_law_row", "_law_many"] (defScope sLawTaken) := ⟨rfl, rfl, rfl, by decide +kernel, rfl, by decide +kernel, by decide +kernel⟩
def spTk (K : PySem.W.Frag) (a : Addr) (ns : List Int) : Sp := fun vs H Q _ => ∃ (r : Addr) (m : Int), vs = [.ref r, .int m] ∧ RowAt K a ns H r ∧ 1 ≤ m ∧ m ≤ 1000 ∧ ∀ H' (k : Nat), (k : Int) < m → RowAt K a ns H' r → But r H H' → Q (.int k) H'
theorem ok_tk {a : Addr} {ns : List Int} {f : Addr} {fd : FuncData} (F : Fun K "_law_taken" "_law_taken" sLawTaken f fd) (T : TxtW K mg) (L : TxtL K mg) : FnOk P w K mg base CX0 1 f fd ["_law_row", "_law_many"] (spTk K a ns) := by
  refine F.ok scTk (fun vs H Q E h => ?_) (fun cdv A outer s H vs Q E hr h => ?_)
  · obtain ⟨r, m, rfl, _⟩ := h
    rfl
  · obtain ⟨r, m, rfl, ⟨i, d, e, hR, hi, hS⟩, m1, m2, k⟩ := h
    have nd := scTk.nd
    refine ⟨_, pss_cons (ps_if (pt_cmpR op_gt (pe_ix ix_list (pv 0) pe_int (fun _ _ => rfl)) pe_int (nomark _))
        (pss_cons (ps_set (i := 2) nd rfl (.inl rfl) (pe_op op_modN (pe_callTy call_int1 (by rfl) L.int (by decide +kernel) (pa_cons (pe_ix ix_list (pv 0) pe_int (fun _ _ => rfl)) pa_nil)) (pv 1)))
        (pss_cons (ps_asg (pe_op op_fdivN (pe_ix ix_list (pv 0) pe_int (fun _ _ => rfl)) (pv 1)) (pg_sub (pv 0) pe_int set_list))
        (pss_one (ps_ret (pv 2))))) pss_nil)
      (C8.pss_cut (ps_asg (pe_op op_add (pe_ix ix_list (pv 0) pe_int (fun _ _ => rfl)) pe_int) (pg_sub (pv 0) pe_int set_list))
      (pss_cons (ps_if (pt_cmpR op_gt (pe_ix ix_list (pv 0) pe_int (fun _ _ => rfl)) (pe_callB call_len_seq (by rfl) T.len PySem.boot_len (pa_cons (pe_ix ix_list (pv 0) pe_int (fun _ _ => rfl)) pa_nil)) (nomark _))
        (pss_cons (ps_asg (pe_op op_modN (pe_callTy call_int1 (by rfl) L.int (by decide +kernel) (pa_cons (pe_op op_add (pe_op op_mul (pe_ix ix_list (pv 0) pe_int (fun _ _ => rfl)) pe_int) pe_int) pa_nil)) pe_int) (pg_sub (pv 0) pe_int set_list))
        (pss_one (ps_ret (pe_op op_modN (pe_callTy call_int1 (by rfl) L.int (by decide +kernel) (pa_cons (pe_op op_fdivN (pe_ix ix_list (pv 0) pe_int (fun _ _ => rfl)) pe_int) pa_nil)) (pv 1))))) pss_nil)
      (pss_cons (ps_set (i := 3) nd rfl (.inl rfl) (pe_ix ix_list (pe_ix ix_list (pv 0) pe_int (fun _ _ => rfl)) (pe_op op_sub (pe_ix ix_list (pv 0) pe_int (fun _ _ => rfl)) pe_int) (fun _ _ => rfl)))
      (C8.pss_cut (ps_asg (pe_op op_modN (pe_callTy call_int1 (by rfl) L.int (by decide +kernel) (pa_cons (pe_op op_add (pe_op op_add (pe_op op_mul (pe_ix ix_list (pv 0) pe_int (fun _ _ => rfl)) pe_int) (pv 3)) pe_int) pa_nil)) pe_int) (pg_sub (pv 0) pe_int set_list))
      (C8.pss_cut (ps_if (pt_cmpR op_ge (pv 3) (pe_op op_pow pe_int pe_int) (nomark _)) (pss_one (ps_asg (pe_op op_fdivN (pv 3) (pv 1)) (pg_sub (pv 0) pe_int set_list))) pss_nil)
      (pss_one (ps_ret (pe_op op_modN (pe_callTy call_int1 (by rfl) L.int (by decide +kernel) (pa_cons (pv 3) pa_nil)) (pv 1))))))))), ?_⟩
    have m0 : m ≠ 0 := by omega
    have mb : m ≠ 0 ∧ m.natAbs < 1073741824 := ⟨m0, by omega⟩
    have row : ∀ {H1 : Hp} {i d e : Int}, H1 r = some (.lst [.ref a, .int i, .int d, .int e]) → 0 ≤ i → SqL K H1 a (ns.map V.int) → RowAt K a ns H1 r := fun h1 h2 h3 => ⟨_, _, _, h1, h2, h3⟩
    have but : ∀ {H1 : Hp} {o : HO}, But r H H1 → But r H (upd H1 r o) := fun b c o h n => by rw [upd_ne n]; exact b c o h n
    refine ⟨_, rfl, r, _, _, _, rfl, rfl, SqL.of hR, rfl, _, _, rfl, rfl, _, rfl, ?_⟩
    by_cases he : e > 0
    · rw [decide_eq_true he]
      refine iteT ⟨_, rfl, r, _, _, _, rfl, rfl, SqL.of hR, rfl, .inl ⟨_, rfl, _, rfl, _, _, rfl, rfl, m0, ?_⟩⟩
      refine ⟨_, rfl, r, _, _, _, rfl, rfl, SqL.of hR, rfl, _, rfl, _, _, rfl, rfl, mb, _, rfl, r, _, _, 3, rfl, rfl, hR, rfl, ?_⟩
      refine ⟨_, rfl, ?_⟩
      have hk := fmod_in (k := e) m1
      have := k (upd H r (.lst [.ref a, .int i, .int d, .int (e.fdiv m)])) (e.fmod m).toNat (by omega) (row upd_same hi (row_seq hR hS)) (but (But.refl r H))
      rw [Int.toNat_of_nonneg hk.1] at this
      exact this
    · rw [decide_eq_false he]
      refine iteF ?_
      refine ⟨fun σ H1 => σ = [some (.ref r), some (.int m), none, none] ∧ H1 r = some (.lst [.ref a, .int (i + 1), .int d, .int e]) ∧ SqL K H1 a (ns.map V.int) ∧ But r H H1, ?_, ?_⟩
      · refine ⟨_, rfl, r, _, _, _, rfl, rfl, SqL.of hR, rfl, _, _, rfl, rfl, _, rfl, r, _, _, 1, rfl, rfl, hR, rfl, ?_⟩
        exact ⟨rfl, upd_same, row_seq hR hS, but (But.refl r H)⟩
      rintro σ H1 ⟨rfl, hR1, hS1, b1⟩
      refine ⟨_, rfl, r, _, _, _, rfl, rfl, SqL.of hR1, rfl, _, rfl, r, _, _, _, rfl, rfl, SqL.of hR1, rfl, a, _, rfl, .inl hS1, _, _, rfl, rfl, _, rfl, ?_⟩
      rw [List.length_map]
      by_cases hl : i + 1 > (ns.length : Int)
      · rw [decide_eq_true hl]
        refine iteT ⟨_, rfl, r, _, _, _, rfl, rfl, SqL.of hR1, rfl, _, _, rfl, rfl, .inr (by decide), _, _, rfl, rfl, .inl ⟨_, rfl, _, _, rfl, rfl, (by show (2147483647 : Int) ≠ 0; decide), _, rfl, r, _, _, 2, rfl, rfl, hR1, rfl, ?_⟩⟩
        refine ⟨_, rfl, r, _, _, _, rfl, rfl, SqL.of upd_same, rfl, _, _, rfl, rfl, (by show (7 : Int) ≠ 0 ∧ (7 : Int).natAbs < 1073741824; decide), .inl ⟨_, rfl, _, rfl, _, _, rfl, rfl, m0, ?_⟩⟩
        have hk := fmod_in (k := ((d * 48271 + 11).fmod 2147483647).fdiv 7) m1
        have := k (upd H1 r (.lst [.ref a, .int (i + 1), .int ((d * 48271 + 11).fmod 2147483647), .int e])) (((d * 48271 + 11).fmod 2147483647).fdiv 7 |>.fmod m).toNat (by omega) (row upd_same (by omega) (row_seq hR1 hS1)) (but b1)
        rw [Int.toNat_of_nonneg hk.1] at this
        exact this
      · rw [decide_eq_false hl]
        refine iteF ?_
        obtain ⟨c, hc⟩ : ∃ c, ns[i.toNat]? = some c := ⟨_, List.getElem?_eq_getElem (by omega)⟩
        refine ⟨_, rfl, r, _, _, _, rfl, rfl, SqL.of hR1, rfl, _, rfl, r, _, _, _, rfl, rfl, SqL.of hR1, rfl, _, _, rfl, rfl, a, _, _, .int c, rfl, rfl, hS1, ?_, ?_⟩
        · rw [show i + 1 - 1 = ((i.toNat : Nat) : Int) by omega]
          exact atI_nat (by rw [List.getElem?_map, hc]; all_goals rfl)
        refine ⟨fun σ H2 => ∃ d' : Int, σ = [some (.ref r), some (.int m), none, some (.int c)] ∧ H2 r = some (.lst [.ref a, .int (i + 1), .int d', .int e]) ∧ SqL K H2 a (ns.map V.int) ∧ But r H H2, ?_, ?_⟩
        · refine ⟨_, rfl, r, _, _, _, rfl, rfl, SqL.of hR1, rfl, _, _, rfl, rfl, .inr (by decide), _, rfl, _, _, rfl, rfl, _, _, rfl, rfl, .inl ⟨_, rfl, _, _, rfl, rfl, (by show (2147483647 : Int) ≠ 0; decide), _, rfl, r, _, _, 2, rfl, rfl, hR1, rfl, ?_⟩⟩
          exact ⟨_, rfl, upd_same, row_seq hR1 hS1, but b1⟩
        rintro σ H2 ⟨d', rfl, hR2, hS2, b2⟩
        refine ⟨fun σ H3 => ∃ e' : Int, σ = [some (.ref r), some (.int m), none, some (.int c)] ∧ H3 r = some (.lst [.ref a, .int (i + 1), .int d', .int e']) ∧ SqL K H3 a (ns.map V.int) ∧ But r H H3, ?_, ?_⟩
        · refine ⟨_, rfl, _, _, rfl, rfl, ⟨by decide, by decide, by decide⟩, _, _, rfl, rfl, _, rfl, ?_⟩
          refine ite2 (fun _ => ?_) fun _ => ?_
          · refine ⟨_, rfl, _, rfl, _, _, rfl, rfl, mb, _, rfl, r, _, _, 3, rfl, rfl, hR2, rfl, ?_⟩
            exact ⟨_, rfl, upd_same, row_seq hR2 hS2, but b2⟩
          · exact ⟨e, rfl, hR2, hS2, b2⟩
        rintro σ H3 ⟨e', rfl, hR3, hS3, b3⟩
        refine ⟨_, rfl, .inl ⟨_, rfl, _, rfl, _, _, rfl, rfl, m0, ?_⟩⟩
        have hk := fmod_in (k := c) m1
        have := k H3 (c.fmod m).toNat (by omega) (row hR3 (by omega) hS3) b3
        rw [Int.toNat_of_nonneg hk.1] at this
        exact this
end
end TA
end
section
set_option Elab.async false
set_option maxRecDepth 100000
set_option linter.all false
namespace TA
open PySem L2 TM TK
/-- the letters of a way -/
def lets (k : Nat) : List Nat := match k with
  | 0 => [108, 114, 117, 100]
  | 1 => [108, 117]
  | 2 => [114, 100, 108, 117]
  | _ => [108, 114]
theorem lets_ok : ∀ k, ∀ c ∈ lets k, isT c = true
  | 0 => by decide
  | 1 => by decide
  | 2 => by decide
  | _ + 3 => by show ∀ c ∈ [108, 114], isT c = true; decide
theorem lets_1 : ∀ k, 1 ≤ (lets k).length ∧ (lets k).length ≤ 4
  | 0 => by decide
  | 1 => by decide
  | 2 => by decide
  | _ + 3 => ⟨(by show 1 ≤ 2; decide), (by show 2 ≤ 4; decide)⟩
theorem way_text {k : Nat} (h : k < 4) : ([V.str (S [108, 114, 117, 100]), V.str (S [108, 117]), V.str (S [114, 100, 108, 117]), V.str (S [108, 114])] : List V)[k]? = some (.str (S (lets k))) := by
  match k, h with
  | 0, _ => rfl
  | 1, _ => rfl
  | 2, _ => rfl
  | 3, _ => rfl
theorem way_len {k : Nat} (h : k < 4) : ([V.int 4, V.int 2, V.int 4, V.int 2] : List V)[k]? = some (.int ((lets k).length : Nat)) := by
  match k, h with
  | 0, _ => rfl
  | 1, _ => rfl
  | 2, _ => rfl
  | 3, _ => rfl
section
variable {P : Program} {w : World} {K : PySem.W.Frag} {mg : Str → Option Value} {base : Heap} {a : Addr} {ns : List Int} {fT : Addr} {fdT : FuncData}
abbrev NTx : List Str := ["_law_row", "_law_most", "_law_text_here", "_law_way", "_law_k"]
theorem scTx : FnScope NTx ["_law_row", "_law_most"] (defScope sLawText) := ⟨rfl, rfl, rfl, by decide +kernel, rfl, by decide +kernel, by decide +kernel⟩
def spTx (K : PySem.W.Frag) (a : Addr) (ns : List Int) : Sp := fun vs H Q _ => ∃ (r : Addr) (m : Nat), vs = [.ref r, .int m] ∧ RowAt K a ns H r ∧ m ≤ 60 ∧ ∀ H' t, Good t → t.length ≤ m → RowAt K a ns H' r → But r H H' → Q (.str (S t)) H'
theorem ok_tx {f : Addr} {fd : FuncData} (F : Fun K "_law_text" "_law_text" sLawText f fd) (L : TxtL K mg) (GT : FnOk P w K mg base CX0 1 fT fdT ["_law_row", "_law_many"] (spTk K a ns)) (kT : PySem.W.keepIn K (.ref fT) = true) (bT : Binds K fdT ["_law_row", "_law_many"] []) (mT : mg "_law_taken" = some (.ref fT)) :
    FnOk P w K mg base CX0 2 f fd ["_law_row", "_law_most"] (spTx K a ns) := by
  refine F.ok scTx (fun vs H Q E h => ?_) (fun cdv A outer s H vs Q E hr h => ?_)
  · obtain ⟨r, m, rfl, _⟩ := h
    rfl
  · obtain ⟨r, m, rfl, hR, hm, k⟩ := h
    have nd := scTx.nd
    refine ⟨_, pss_cons (ps_par (i := 2) (j := 3) rfl nd rfl rfl (by decide) rfl rfl (pa_cons pe_str (pa_cons (pe_call GT hr rfl mT kT bT .nil pass0 (pa_cons (pv 0) (pa_cons pe_int pa_nil))) pa_nil)) (by rfl))
      (pss_cons (ps_for PassesOwn.never rfl (pi_range1 (by rfl) L.range (pa_cons (pe_call GT hr rfl mT kT bT .nil pass0 (pa_cons (pv 0) (pa_cons (pe_op op_add (pv 1) pe_int) pa_nil))) pa_nil)) (pg_name (i := 4) nd rfl (.inl rfl))
        (pss_one (ps_set (i := 2) nd rfl (.inl rfl) (pe_op op_add_str (pv 2)
          (pe_ix ix_str (pe_ix ix_list (pe_lst (pa_cons pe_str (pa_cons pe_str (pa_cons pe_str (pa_cons pe_str pa_nil))))) (pv 3) (fun _ _ => rfl))
            (pe_call GT hr rfl mT kT bT .nil pass0 (pa_cons (pv 0) (pa_cons (pe_ix ix_list (pe_lst (pa_cons pe_int (pa_cons pe_int (pa_cons pe_int (pa_cons pe_int pa_nil))))) (pv 3) (fun _ _ => rfl)) pa_nil))) (fun _ _ => rfl))))))
      (pss_one (ps_ret (pv 2)))), ?_⟩
    refine ⟨_, rfl, r, 4, rfl, hR, by decide, by decide, fun H1 way hw R1 b1 => ?_⟩
    refine ⟨_, _, rfl, ?_⟩
    refine ⟨_, rfl, _, rfl, _, _, rfl, rfl, r, (m : Int) + 1, rfl, R1, by omega, by omega, fun H2 j hj R2 b2 => ?_⟩
    refine ⟨(j : Int), rfl, by omega, by omega, for_range (lo := 0) (n := (j : Int).toNat) (fun i σ H3 => ∃ t v, σ = [some (.ref r), some (.int m), some (.str (S t)), some (.int way), v] ∧ t.length = i ∧ (∀ c ∈ t, isT c = true) ∧ RowAt K a ns H3 r ∧ But r H H3)
      ⟨[], none, rfl, rfl, by simp, R2, b1.trans b2⟩ ?_ ?_⟩
    · rintro i σ H3 hi ⟨t, v, rfl, ht, hg, R3, b3⟩
      have hw4 : way < 4 := by omega
      refine ⟨_, rfl, (by show 4 ≤ sizeLine; decide), fun p hp => ?_⟩
      have sm : Same H3 (upd H3 p (.lst [V.str (S [108, 114, 117, 100]), V.str (S [108, 117]), V.str (S [114, 100, 108, 117]), V.str (S [108, 114])])) := same_new hp
      refine ⟨_, rfl, p, _, _, _, rfl, rfl, SqL.of upd_same, atI_nat (way_text hw4), ?_⟩
      refine ⟨_, rfl, (by show 4 ≤ sizeLine; decide), fun q hq => ?_⟩
      refine ⟨_, rfl, q, _, _, _, rfl, rfl, SqL.of upd_same, atI_nat (way_len hw4), ?_⟩
      have R4 := (R3.same sm).same (same_new (o := .lst [V.int 4, V.int 2, V.int 4, V.int 2]) hq)
      refine ⟨r, _, rfl, R4, ?_, ?_, fun H5 d hd R5 b5 => ?_⟩
      · have := (lets_1 way).1; omega
      · have := (lets_1 way).2; omega
      have hd' : d < (lets way).length := by omega
      obtain ⟨c, hc⟩ : ∃ c, (lets way)[d]? = some c := ⟨_, List.getElem?_eq_getElem hd'⟩
      have h4 := (lets_1 way).2
      refine ⟨S (lets way), (d : Int), c, rfl, rfl, ?_, ?_, ?_⟩
      · rw [S_len]
        show _ ≤ 16777216
        omega
      · rw [S_list]
        exact atI_nat hc
      refine ⟨_, _, rfl, rfl, ?_, ?_⟩
      · rw [S_len, ht]
        show i + 1 ≤ 16777216
        omega
      refine ⟨t ++ [c], some (.int (0 + (i : Int))), ?_, ?_, ?_, R5, ?_⟩
      · rw [← show S t ++ ⟨#[c]⟩ = S (t ++ [c]) from SX.S_cat t [c]]
        rfl
      · simp [ht]
      · intro x hx
        rcases List.mem_append.mp hx with hx | hx
        · exact hg x hx
        · rw [List.mem_singleton.mp hx]
          exact lets_ok way c (List.mem_of_getElem? hc)
      · exact ((b3.trans (.same sm)).trans (.same (same_new hq))).trans b5
    · rintro σ H3 ⟨t, v, rfl, ht, hg, R3, b3⟩
      exact ⟨_, rfl, k _ t ⟨by omega, hg⟩ (by omega) R3 b3⟩
end
end TA
end
section
set_option Elab.async false
set_option maxRecDepth 100000
set_option linter.all false
namespace TA
open PySem PySem.Spec PyProof.Rows L2 LamX TX TK TM TB
def sgD (t : List Nat) : List PyData := t.map fun c => PyData.str ⟨#[c]⟩
theorem sg_dp {K : PySem.W.Frag} {H : Hp} : ∀ t : List Nat, DpAll K H (t.map sg) (sgD t)
  | [] => .nil
  | c :: r => .cons (.str _) (sg_dp r)
theorem isT_ok {c : Nat} (h : isT c = true) : PyData.strOk (⟨#[c]⟩ : Str) = true := by
  have h := of_decide_eq_true h
  simp only [List.mem_cons, List.not_mem_nil, or_false] at h
  rcases h with rfl | rfl | rfl | rfl <;> decide +kernel
theorem sg_lay : ∀ t : List Nat, (∀ c ∈ t, isT c = true) → PyData.canLayAll0 (sgD t) = true
  | [], _ => rfl
  | c :: r, h => by
    have := sg_lay r fun x hx => h x (List.mem_cons_of_mem _ hx)
    show (PyData.strOk (⟨#[c]⟩ : Str) && PyData.canLayAll0 (sgD r)) = true
    rw [this, isT_ok (h c List.mem_cons_self)]
    rfl
theorem sg_depth : ∀ t : List Nat, PyData.depthAll (sgD t) = 0
  | [] => rfl
  | c :: r => by
    have := sg_depth r
    show max (PyData.depth (.str _)) (PyData.depthAll (sgD r)) = 0
    rw [this]
    rfl
theorem sg_shaped {t : List Nat} (h : ∀ c ∈ t, isT c = true) : SeqAt.shaped (.list (sgD t)) = true := by
  unfold SeqAt.shaped
  rw [show PyData.canLay0 (.list (sgD t)) = PyData.canLayAll0 (sgD t) from rfl, sg_lay t h]
  rw [show PyData.depth (.list (sgD t)) = PyData.depthAll (sgD t) + 1 from rfl, sg_depth]
  rfl
theorem sg_nil (t : List Nat) : PyData.eqv (.list (sgD t)) (.list []) = t.isEmpty := by
  cases t with
  | nil => rfl
  | cons c r => rfl
theorem sg_refl {t : List Nat} (h : ∀ c ∈ t, isT c = true) : PyData.eqv (.list (sgD t)) (.list (sgD t)) = true := SeqAt.eqv_refl _ (sg_lay t h)
theorem along_t {t ax : List Nat} (h : ∀ c ∈ t, isT c = true) : ∀ c ∈ along t ax, isT c = true := fun c hc => h c ((List.mem_filter.mp hc).1)
section
variable {P : Program} {w : World} {K : PySem.W.Frag} {mg : Str → Option Value} {base : Heap} {C fL : Addr} {fdL : FuncData}
abbrev NLc : List Str := ["_law_text_here", "_law_high", "_law_side", "_law_tilt"]
theorem scLc : FnScope NLc ["_law_text_here"] (defScope sLawCorner) := ⟨rfl, rfl, rfl, by decide +kernel, rfl, by decide +kernel, by decide +kernel⟩
def spLc : Sp := fun vs H Q _ => ∃ t : List Nat, vs = [.str (S t)] ∧ t.length ≤ 1000 ∧ (∀ c ∈ t, isT c = true) ∧ ∀ H', Same H H' → Q (cornerV t) H'
theorem ok_lc {f : Addr} {fd : FuncData} (F : Fun K "_law_corner" "_law_corner" sLawCorner f fd) : FnOk P w K mg base CX0 1 f fd ["_law_text_here"] spLc := by
  refine F.ok scLc (fun vs H Q E h => ?_) (fun cdv A outer s H vs Q E hr h => ?_)
  · obtain ⟨t, rfl, _⟩ := h
    rfl
  · obtain ⟨t, rfl, hl, ht, k⟩ := h
    refine ⟨_, pss_cons (ps_setLc (i := 1) (own := [("_law_tilt", 3)]) (g := gName 3) rfl scLc.nd rfl rfl (sw_true rfl rfl rfl (by decide +kernel)) (pi_str (pv 0)) (blkOk_by (N := NLc) (sc := defScope sLawCorner) (by decide +kernel)) (fun _ _ _ _ _ => pg_name (i := 3) scLc.nd rfl (.inl rfl))
        (fun _ _ _ _ _ => pts_one (pt_cmpR op_in_sign (pv 3) pe_str (by rfl))) (fun _ _ _ _ _ => pv 3))
      (pss_cons (ps_setLc (i := 2) (own := [("_law_tilt", 3)]) (g := gName 3) rfl scLc.nd rfl rfl (sw_true rfl rfl rfl (by decide +kernel)) (pi_str (pv 0)) (blkOk_by (N := NLc) (sc := defScope sLawCorner) (by decide +kernel)) (fun _ _ _ _ _ => pg_name (i := 3) scLc.nd rfl (.inl rfl))
        (fun _ _ _ _ _ => pts_one (pt_cmpR op_in_sign (pv 3) pe_str (by rfl))) (fun _ _ _ _ _ => pv 3))
      (pss_one (ps_ret (pe_ifExp (PW.pt (pw_and (pt_cmpR (op_neD hr.units) (pv 1) (pe_lst pa_nil) (nomark _)) (pw_and1 (pt_cmpR (op_neD hr.units) (pv 2) (pe_lst pa_nil) (nomark _)))))
        (pe_op op_add_str (pe_ix ix_list (pv 1) (pe_un un_neg pe_int) (fun _ _ => rfl)) (pe_ix ix_list (pv 2) (pe_un un_neg pe_int) (fun _ _ => rfl))) pe_non)))), ?_⟩
    refine ⟨_, rfl, _, rfl, fun D hD => lc_it (walk_str (z := S t)) (fun i H1 => Same H H1 ∧ H1 D = some (.lst ((along (t.take i) [117, 100]).map sg))) ⟨same_new hD, upd_same⟩ (fun _ _ _ _ => True.intro) ?_ ?_⟩
    · rintro i x H1 H2 hi ⟨sm, hL⟩ ⟨rfl, c, hc, rfl⟩
      rw [S_at] at hc
      refine ⟨rfl, _, rfl, c, S [117, 100], rfl, rfl, ?_⟩
      rw [S_list, along_snoc hc]
      by_cases e : c ∈ [117, 100]
      · rw [decide_eq_true e, if_pos e]
        refine ⟨_, rfl, iteT ⟨_, rfl, _, hL, ?_, ?_⟩⟩
        · rw [List.length_map]
          have := along_le (t.take i) [117, 100]
          rw [List.length_take] at this
          show _ < 16777216
          omega
        · refine ⟨same_put sm hD, ?_⟩
          rw [upd_same, List.map_append]
          rfl
      · rw [decide_eq_false e, if_neg e, List.append_nil]
        exact ⟨_, rfl, iteF ⟨sm, hL⟩⟩
    rintro H1 ⟨s1, hL1⟩
    rw [S_size, List.take_length] at hL1
    refine ⟨_, rfl, _, rfl, fun D2 hD2 => lc_it (walk_str (z := S t)) (fun i H2 => Same H1 H2 ∧ H2 D2 = some (.lst ((along (t.take i) [108, 114]).map sg))) ⟨same_new hD2, upd_same⟩ (fun _ _ _ _ => True.intro) ?_ ?_⟩
    · rintro i x H2 H3 hi ⟨sm, hL⟩ ⟨rfl, c, hc, rfl⟩
      rw [S_at] at hc
      refine ⟨rfl, _, rfl, c, S [108, 114], rfl, rfl, ?_⟩
      rw [S_list, along_snoc hc]
      by_cases e : c ∈ [108, 114]
      · rw [decide_eq_true e, if_pos e]
        refine ⟨_, rfl, iteT ⟨_, rfl, _, hL, ?_, ?_⟩⟩
        · rw [List.length_map]
          have := along_le (t.take i) [108, 114]
          rw [List.length_take] at this
          show _ < 16777216
          omega
        · refine ⟨same_put sm hD2, ?_⟩
          rw [upd_same, List.map_append]
          rfl
      · rw [decide_eq_false e, if_neg e, List.append_nil]
        exact ⟨_, rfl, iteF ⟨sm, hL⟩⟩
    rintro H2 ⟨s2, hL2⟩
    rw [S_size, List.take_length] at hL2
    have hL1' := s2 _ _ hL1
    refine ⟨_, rfl, by show 0 ≤ sizeLine; decide, fun p hp => ?_⟩
    have s3 := same_new (o := .lst []) hp
    refine ⟨_, _, .lst (SqL.of (s3 _ _ hL1')) (sg_dp _), .lst (SqL.of upd_same) .nil, sg_shaped (along_t ht), rfl, _, rfl, ?_⟩
    rw [sg_nil]
    have kk := fun H' sm => k H' sm
    unfold cornerV at kk
    have sA := (s1.trans s2).trans s3
    rcases List.eq_nil_or_concat (along t [117, 100]) with e | ⟨r, c, e⟩
    · rw [e] at kk ⊢
      exact iteF (iteF (kk _ sA))
    · rw [e, List.concat_eq_append] at kk hL1' ⊢
      rw [show (!((r ++ [c]).isEmpty)) = true by simp]
      refine iteT ⟨_, rfl, by show 0 ≤ sizeLine; decide, fun p2 hp2 => ?_⟩
      have s4 := same_new (o := .lst []) hp2
      have sB := sA.trans s4
      have hA := s4 _ _ (s3 _ _ hL1')
      have hB := s4 _ _ (s3 _ _ hL2)
      refine ⟨_, _, .lst (SqL.of hB) (sg_dp _), .lst (SqL.of upd_same) .nil, sg_shaped (along_t ht), rfl, _, rfl, ?_⟩
      rw [sg_nil]
      rw [List.getLast?_append] at kk
      rcases List.eq_nil_or_concat (along t [108, 114]) with e2 | ⟨r2, c2, e2⟩
      · rw [e2] at kk ⊢
        exact iteF (kk _ sB)
      · rw [e2, List.concat_eq_append] at kk hB ⊢
        rw [List.getLast?_append] at kk
        rw [show (!((r2 ++ [c2]).isEmpty)) = true by simp]
        rw [List.map_append] at hA hB
        exact iteT ⟨_, rfl, _, rfl, D, _, _, _, rfl, rfl, SqL.of hA, atI_last _ _, _, rfl, _, rfl, D2, _, _, _, rfl, rfl, SqL.of hB, atI_last _ _, _, _, rfl, rfl, by show 2 ≤ sizeLine; decide, kk _ sB⟩
end
end TA
end
section
set_option Elab.async false
set_option maxRecDepth 100000
set_option linter.all false
namespace TB
open PySem PySem.Spec PyProof.Rows L2 TK
theorem call_list_txt {X : Cx} (hc : X.calm = true) : CallR X (.type "list") (fun xs H Q => ∃ t : List Nat, xs = [.str (S t)] ∧ t.length ≤ 1000 ∧ ∀ l, H l = none → Q (.ref l) (upd H l (.lst (t.map sg)))) := by
  intro pins s σ H xs us Q I r h
  obtain ⟨t, rfl, ht, q⟩ := h
  obtain ⟨u, rfl, rx⟩ := r.one
  obtain ⟨a, rfl⟩ := (show ∃ a, u = Value.str (S t) a from rx)
  refine call_list_str (I.ok.hd hc) (S t) a (fun h' tk acc c' kp e it => ?_) (by rw [S_size]; show _ ≤ 16777216; omega)
  have hsz : acc.toList.length = t.length := by
    have := it.1
    rw [S_size] at this
    simpa using this
  have rv : Vals (t.map sg) acc.toList := TH.sgn_vals _ _ hsz fun k c hk => by
    have hlt : k < acc.size := by
      have := (List.getElem?_eq_some_iff.mp hk).1
      have e2 : acc.toList.length = acc.size := by simp
      omega
    obtain ⟨c2, u2, h1, h2⟩ := it.2 k acc[k] (by simp [hlt])
    rw [S_at, hk] at h1
    cases h1
    exact ⟨u2, by rw [← h2]; simp [hlt]⟩
  exact ⟨.ref s.heap.objs.size, _, I.laid (t' := tk) kp (Nat.le_refl _) (show ObjOk X.prog X.w _ h' _ (.lst (t.map sg)) from ⟨by rw [List.length_map]; show _ ≤ 16777216; omega, acc.toList, c', rv, by simpa using e⟩), rfl, q _ (I.hok.fresh (Nat.le_refl _))⟩
end TB
end
section
set_option Elab.async false
set_option maxRecDepth 100000
set_option linter.all false
namespace TA
open PySem PySem.Spec PyProof.Rows L2 LamX TX TK TM TB
theorem pe_told {X : Cx} {ce : Nat → Addr} {cT g c P : Addr} {fdg : FuncData} {T : List (Addr × Str)} {k : Nat} {params : Arguments} {body : Expr} {scope : Scope} {t : XK → TE} {p lpos pos : Pos} (FR : Fun X.K "_law_raised" "_law_raised" sLawRaised g fdg) (bR : L2.Binds X.K fdg ["_law_work"] [])
    (mR : X.mg "_law_raised" = some (.ref g)) (TE : TxtE X.K X.mg ce cT) (hg : Gl X "_law_raised") (TB : LamX.TabB X.base X.mg c P) (hcode : X.env.code = .ref c) (hmT : (P, X.env.qual ++ "<lambda>") ∈ T) (hu : ∀ p ∈ T, p.1 = P → p.2 = X.env.qual ++ "<lambda>") (hr : Room (k + 2) X.A)
    (L : LamS X.env.scope scope) (hdef : defaultsOf params X.env = ([], [])) (hbind : ∀ (q : Str) (cl : List (Str × Addr)) (pm cv ctv : Value), bindArgs (PySem.W.kla_fn "<lambda>" q params body scope cl pm cv ctv) ⟨[], []⟩ = pure [])
    (hbody : ∀ (A : Around) (outer : List Env) (s : Shared) (H : Hp) (E : XK) (f c' : Addr), Room k (A.deeper (lamEnv X scope s.heap.objs.size f c')) → PE (lamCx X A outer s H E scope f c') body (t E)) :
    PE X (.Call (.Name "_law_raised" p) [.Lambda params body scope lpos] [] pos) (tLam T (TRa ce) t) := by
  obtain ⟨oc, od, kV, doc, pm, an, cdv, ct, osl, rfl, lk, hcd⟩ := FR.ex
  exact pe_lamcall hg mR FR.kp lk hcd bR scRa rfl (.inl rfl) (raised_gives TE) TB hcode hmT hu hr L hdef hbind hbody
section
variable {P : Program} {w : World} {K : PySem.W.Frag} {mg : Str → Option Value} {base : Heap} {C CN fA fC fR : Addr} {fdA fdC fdR : FuncData}
abbrev NIw : List Str := ["_law_word", "_law_text_here", "_law_bad", "_law_tilt", "_law_k"]
theorem scLw : FnScope NIw ["_law_word", "_law_text_here"] (defScope sLawIsWord) := ⟨rfl, rfl, rfl, by decide +kernel, rfl, by decide +kernel, by decide +kernel⟩
structure OwnM (K : PySem.W.Frag) (C : Addr) (name : Str) (g : Addr) : Prop where
  find : PySem.W.findIn K (.ref C) name = some (some (.ref g))
  isf : PySem.W.isFn K (.ref g) = true
/-- what `_law_is_word` uses -/
structure LwF (P : Program) (w : World) (K : PySem.W.Frag) (mg : Str → Option Value) (base : Heap) (C CN : Addr) (ce : Nat → Addr) (cT : Addr) (T : List (Addr × Str)) (cW PW : Addr) : Prop where
  cw : ClsW K mg C
  txt : TxtW K mg
  al : TxtA K mg
  te : TxtE K mg ce cT
  cn : ce 4 = CN
  fT : ∃ pT gT fdT, PropOf K C "text" pT gT ∧ FnOk P w K mg base CX0 1 gT fdT ["self"] (spWtx C) ∧ Binds K fdT ["self"] []
  fC : ∃ pC gC fdC, PropOf K C "corner" pC gC ∧ FnOk P w K mg base CX0 2 gC fdC ["self"] (spCr C) ∧ Binds K fdC ["self"] []
  fL : ∃ gL, OwnM K C "__len__" gL ∧ FnR P w K mg base CX0 1 gL (spLe C)
  fG : ∃ gG, OwnM K C "__getitem__" gG ∧ PySem.W.fnIn K gG = true ∧ FnR P w K mg base (L2.CX P w) 2 gG (spGi K C CN)
  fI : ∃ gI, OwnM K C "__contains__" gI ∧ FnR P w K mg base CX0 2 gI (spCo K C)
  fA : ∃ gA fdA, Fun K "_law_alike" "_law_alike" sLawAlike gA fdA ∧ Binds K fdA ["_law_one", "_law_due"] [] ∧ mg "_law_alike" = some (.ref gA)
  fK : ∃ gK fdK, FnOk P w K mg base CX0 1 gK fdK ["_law_text_here"] spLc ∧ PySem.W.keepIn K (.ref gK) = true ∧ Binds K fdK ["_law_text_here"] [] ∧ mg "_law_corner" = some (.ref gK)
  fR : ∃ gR fdR, Fun K "_law_raised" "_law_raised" sLawRaised gR fdR ∧ Binds K fdR ["_law_work"] [] ∧ mg "_law_raised" = some (.ref gR)
  tb : LamX.TabB base mg cW PW
  tm : (PW, ("_law_is_word.<locals>.<lambda>" : Str)) ∈ T
  tu : ∀ p ∈ T, p.1 = PW → p.2 = ("_law_is_word.<locals>.<lambda>" : Str)
def spLw (K : PySem.W.Frag) (C : Addr) (T : List (Addr × Str)) : Sp := fun vs H Q _ => ∃ (p : Addr) (t : List Nat), vs = [.ref p, .str (S t)] ∧ WordAt C H p t ∧ Good t ∧ Tabs T H ∧ ∀ H', ExtN H H' → Tabs T H' → Q (.bl true) H'
variable {ce : Nat → Addr} {cT cW PW : Addr} {T : List (Addr × Str)}
theorem alk_corner {H : Hp} {n : Nat} (t : List Nat) : Alk K H n (cornerV t) (cornerV t) := by
  unfold cornerV
  split
  · exact .str _
  · exact .non
theorem extN_same {H H' : Hp} (s : Same H H') : ExtN H H' := ExtN.of s
theorem word_extN {H H' : Hp} {p : Addr} {t : List Nat} (h : WordAt C H p t) (e : ExtN H H') : WordAt C H' p t := by
  obtain ⟨dx, h⟩ := h
  exact ⟨dx, e _ _ h fun ps z => by cases z⟩
theorem tup_extN {H H' : Hp} {q : Addr} {xs : List V} (h : H q = some (.tup xs)) (e : ExtN H H') : H' q = some (.tup xs) := e _ _ h fun ps z => by cases z
theorem bad_kn {H : Hp} {t : List Nat} : ∀ x ∈ ([.int (t.length : Nat), .int (0 - 1), .non, .bl true, .str "l"] : List V), ∃ ty bb bi, Kn K H x ty bb bi ∧ isN x ((t.length : Int) - 1) = false := by
  intro x hx
  simp only [List.mem_cons, List.not_mem_nil, or_false] at hx
  rcases hx with rfl | rfl | rfl | rfl | rfl
  · refine ⟨_, _, _, kn_int _, ?_⟩
    show (decide ((0 : Int) ≤ (t.length : Nat)) && decide (((t.length : Nat) : Int) ≤ (t.length : Int) - 1)) = false
    rw [decide_eq_false (p := ((t.length : Nat) : Int) ≤ (t.length : Int) - 1) (by omega), Bool.and_false]
  · exact ⟨_, _, _, kn_int _, rfl⟩
  · exact ⟨_, _, _, kn_non, rfl⟩
  · exact ⟨_, _, _, kn_bl _, rfl⟩
  · exact ⟨_, _, _, kn_str _, rfl⟩
theorem no_non {H : Hp} : NoText K H .non := ⟨"NoneType", .base .non, by decide +kernel⟩
theorem no_int {H : Hp} (i : Int) : NoText K H (.int i) := ⟨"int", .base (.int i), by decide +kernel⟩
theorem tl_kn {H : Hp} : ∀ x ∈ ([.str "l", .str "r", .str "u", .str "d", .str "x", .str "", .str "lr", .non, .int 5] : List V), (∃ u : List Nat, x = .str (S u) ∧ u.length ≤ 1000) ∨ NoText K H x := by
  intro x hx
  simp only [List.mem_cons, List.not_mem_nil, or_false] at hx
  rcases hx with rfl | rfl | rfl | rfl | rfl | rfl | rfl | rfl | rfl
  · exact .inl ⟨[108], rfl, by decide⟩
  · exact .inl ⟨[114], rfl, by decide⟩
  · exact .inl ⟨[117], rfl, by decide⟩
  · exact .inl ⟨[100], rfl, by decide⟩
  · exact .inl ⟨[120], rfl, by decide⟩
  · exact .inl ⟨[], rfl, by decide⟩
  · exact .inl ⟨[108, 114], rfl, by decide⟩
  · exact .inr no_non
  · exact .inr (no_int 5)
theorem ok_lw {f : Addr} {oc kV doc pm ct : Value} {od an : Option Addr} {osl : Array (Option Value)} (lk : K.lookup f = some ⟨oc, od, .func (PySem.W.fnOf "_law_is_word" "_law_is_word" (defArgs sLawIsWord) (defBody sLawIsWord) (defScope sLawIsWord) .none kV doc pm an (.ref cW) ct), osl⟩) (hcd : PySem.W.codeIn K (.ref cW) "_law_is_word" = true)
    (L : LwF P w K mg base C CN ce cT T cW PW) :
    FnOk P w K mg base CX0 6 f (PySem.W.fnOf "_law_is_word" "_law_is_word" (defArgs sLawIsWord) (defBody sLawIsWord) (defScope sLawIsWord) .none kV doc pm an (.ref cW) ct) ["_law_word", "_law_text_here"] (spLw K C T) := by
  obtain ⟨pT, gT, fdT, PT', FT, bT⟩ := L.fT
  obtain ⟨pC, gC, fdC, PC, FC, bC⟩ := L.fC
  obtain ⟨gL, OL, FL⟩ := L.fL
  obtain ⟨gG, OG, nG, FG⟩ := L.fG
  obtain ⟨gI, OI, FI⟩ := L.fI
  obtain ⟨gA, fdA, FA, bA, mA⟩ := L.fA
  obtain ⟨gK, fdK, FK, kK, bK, mK⟩ := L.fK
  obtain ⟨gR, fdR, FR, bR, mR⟩ := L.fR
  have GA := ok_al (P := P) (w := w) (base := base) FA L.al bA mA 1
  have T' := L.txt
  have nd := scLw.nd
  refine fn_of lk hcd scLw (fun vs H Q E h => ?_) (fun A outer s H vs Q E hr h => ?_)
  · obtain ⟨p, t, rfl, _⟩ := h
    rfl
  · obtain ⟨p, t, rfl, ⟨dx, hp⟩, g, hT, k⟩ := h
    suffices h : ∃ t', PSs (cxOf CX0 P w K mg base NIw "_law_is_word" (defScope sLawIsWord) f (.ref cW) A outer s H E).nox (defBody sLawIsWord) t' ∧ t' { nx := fun _ H' => Q .non H', rt := Q } (L2.start NIw [.ref p, .str (S t)]) H by
      obtain ⟨t', h1, h2⟩ := h
      exact ⟨t', h1.nox, h2⟩
    refine ⟨_, pss_cons (ps_if (pt_not (pt_val (pe_call GA (hr.mono (by decide)) rfl mA FA.kp bA .nil pass0 (pa_cons (pe_lst (pa_cons (pe_prop (pv 0) L.cw.cl PT' FT (hr.mono (by decide)) bT .nil pass0 rfl) (pa_cons (pe_callB (call_lenOwn OL.find OL.isf FL (hr.mono (by decide)) pass0) (by rfl) T'.len PySem.boot_len (pa_cons (pv 0) pa_nil)) (pa_cons (pe_prop (pv 0) L.cw.cl PC FC (hr.mono (by decide)) bC .nil pass0 rfl) pa_nil))))
          (pa_cons (pe_lst (pa_cons (pv 1) (pa_cons (pe_callB call_len_str (by rfl) T'.len PySem.boot_len (pa_cons (pv 1) pa_nil)) (pa_cons (pe_call FK (hr.mono (by decide)) rfl mK kK bK .nil pass0 (pa_cons (pv 1) pa_nil)) pa_nil)))) pa_nil))))) pss_never pss_nil)
      (pss_cons (ps_if (pt_cmpR (op_neD hr.units) (pe_lc (own := [("_law_k", 4)]) (g := gName 4) (tt := tYes) rfl nd (pi_range1 (by rfl) L.al.range (pa_cons (pe_callB call_len_str (by rfl) T'.len PySem.boot_len (pa_cons (pv 1) pa_nil)) pa_nil)) (blkOk_by (N := NIw) (sc := defScope sLawIsWord) (by decide +kernel)) (fun _ _ _ _ _ => pg_name (i := 4) nd rfl (.inl rfl)) (fun _ _ _ _ _ => pts_nil)
          (fun _ _ _ _ _ => pe_subOwn OG.find nG OG.isf FG (hr.mono (by decide)) passL (pv 0) (pv 4) (fun _ _ => rfl)))
          (pe_callTy (call_list_txt rfl) (by rfl) L.al.lst (by decide +kernel) (pa_cons (pv 1) pa_nil)) (nomark _)) pss_never pss_nil)
      (pss_cons (ps_for PassesOwn.never rfl (pi_tup (pe_tup (pa_cons (pe_callB call_len_str (by rfl) T'.len PySem.boot_len (pa_cons (pv 1) pa_nil)) (pa_cons (pe_op op_sub pe_int pe_int) (pa_cons pe_non (pa_cons pe_bl (pa_cons pe_str pa_nil))))))) (pg_name (i := 2) nd rfl (.inr rfl))
          (pss_one (ps_if (pt_cmpR (op_neD hr.units) (pe_told FR bR mR L.te (by rfl) L.tb rfl L.tm L.tu hr (show LamS (defScope sLawIsWord) _ from lamS_by (by decide +kernel)) rfl (fun _ _ _ _ _ => rfl)
              (fun A outer s H E f c' hr' => pe_subOwn OG.find nG OG.isf FG hr' (passX (takes_of rfl rfl rfl rfl)) (pv 0) (pv 2) (fun _ _ => rfl))) (pe_tup (pa_cons pe_str pa_nil)) (nomark _)) pss_never pss_nil)))
      (pss_cons (ps_for PassesOwn.never rfl (pi_tup (pe_tup (pa_cons pe_str (pa_cons pe_str (pa_cons pe_str (pa_cons pe_str (pa_cons pe_str (pa_cons pe_str (pa_cons pe_str (pa_cons pe_non (pa_cons pe_int pa_nil))))))))))) (pg_name (i := 3) nd rfl (.inl rfl))
          (pss_one (ps_if (pt_cmpR op_ne (pe_cmpR (op_inOwn OI.find OI.isf FI (hr.mono (by decide)) pass0) (pv 3) (pv 0) (by rfl)) (pe_and (pe_callB call_isi (by rfl) T'.isi (by decide +kernel) (pa_cons (pv 3) (pa_cons (pe_bltn (v := .ty "str") (by rfl) T'.str (by decide +kernel) rfl) pa_nil)))
              (pe_and (pe_cmpR op_eq (pe_callB call_len_str (by rfl) T'.len PySem.boot_len (pa_cons (pv 3) pa_nil)) pe_int (nomark _)) (pe_one (pe_cmpR op_in_sign (pv 3) (pv 1) (by rfl))))) (nomark _)) pss_never pss_nil)))
      (pss_one (ps_ret pe_bl))))), ?_⟩
    have hl : t.length ≤ 1000 := Nat.le_trans g.1 (by decide)
    refine ⟨_, rfl, p, dx, _, rfl, hp, p, t, rfl, ⟨dx, hp⟩, ?_⟩
    refine ⟨_, rfl, p, dx, _, rfl, hp, p, t, rfl, ⟨dx, hp⟩, g, t.length, rfl, by omega, ?_⟩
    refine ⟨_, rfl, p, dx, _, rfl, hp, p, t, rfl, ⟨dx, hp⟩, g, fun H1 s1 => ?_⟩
    refine ⟨by show 3 ≤ sizeLine; decide, fun l1 hl1 => ?_⟩
    have s1a := s1.trans (same_new (o := .lst [V.str (S t), V.int (t.length : Nat), cornerV t]) hl1)
    refine ⟨_, rfl, _, rfl, _, rfl, S_line hl, _, rfl, t, rfl, hl, g.2, fun H2 s2 => ?_⟩
    refine ⟨by show 3 ≤ sizeLine; decide, fun l2 hl2 => ?_⟩
    rw [S_len]
    have s2a := (s1a.trans s2).trans (same_new (o := .lst [V.str (S t), V.int (t.length : Nat), cornerV t]) hl2)
    have e1 : (upd H2 l2 (.lst [V.str (S t), V.int (t.length : Nat), cornerV t])) l1 = some (.lst [V.str (S t), V.int (t.length : Nat), cornerV t]) := (same_new hl2) _ _ (s2 _ _ upd_same)
    refine ⟨_, _, rfl, .seq (by show 3 ≤ 1000; decide) (.lst (SqL.of e1)) (.lst (SqL.of upd_same)) rfl ?_, fun H3 s3 => ⟨true, rfl, iteF ?_⟩⟩
    · intro i x y hx hy
      match i with
      | 0 => cases hx; cases hy; exact .str _
      | 1 => cases hx; cases hy; exact .int _
      | 2 => cases hx; cases hy; exact alk_corner t
      | i + 3 => simp at hx
    have s03 := s2a.trans s3
    clear s3 e1 s2a hl2 s2 s1a hl1 s1
    refine ⟨_, rfl, _, rfl, S_line hl, ((S t).length : Int), rfl, by omega, by rw [S_len]; omega, fun D hD => lc_range (lo := 0) (n := (((S t).length : Nat) : Int).toNat) (fun i H4 => Same H3 H4 ∧ H4 D = some (.lst ((t.take i).map sg))) ⟨same_new hD, upd_same⟩ ?_ ?_⟩
    · rintro i H4 hi ⟨s4, hL⟩
      rw [Int.toNat_natCast, S_len] at hi
      rw [Int.zero_add]
      have hp4 := s4 _ _ (s03 _ _ hp)
      refine ⟨rfl, _, rfl, _, rfl, p, dx, _, rfl, hp4, p, .int (i : Nat), t, "int", false, true, rfl, ⟨dx, hp4⟩, g, kn_int _, .inl ⟨i, rfl, hi, _, hL, ?_, ?_⟩⟩
      · rw [List.length_map, List.length_take]
        show _ < 16777216
        omega
      · refine ⟨same_put s4 hD, ?_⟩
        rw [upd_same, List.take_add_one, List.getElem?_eq_getElem hi, List.map_append, List.getD_eq_getElem?_getD, List.getElem?_eq_getElem hi]
        rfl
    rintro H4 ⟨s4, hL⟩
    rw [Int.toNat_natCast, S_len, List.take_length] at hL
    refine ⟨_, rfl, t, rfl, hl, fun l hln => ?_⟩
    have s4a := (s03.trans s4).trans (same_new (o := .lst (t.map sg)) hln)
    refine ⟨_, _, .lst (SqL.of ((same_new hln) _ _ hL)) (sg_dp t), .lst (SqL.of upd_same) (sg_dp t), sg_shaped g.2, sg_shaped g.2, _, rfl, ?_⟩
    rw [sg_refl g.2]
    refine iteF ?_
    generalize upd H4 l (.lst (t.map sg)) = H5 at s4a
    clear hL s4 s03 hln
    refine ⟨_, rfl, _, rfl, S_line hl, _, _, rfl, rfl, by show 5 ≤ sizeLine; decide, fun tp htp => ?_⟩
    rw [S_len]
    have s5 := s4a.trans (same_new (o := .tup [.int (t.length : Nat), .int (0 - 1), .non, .bl true, .str "l"]) htp)
    refine ⟨tp, rfl, ⟨_, SqT.of upd_same⟩, for_tup (K := K) (a := tp) (xs := [.int (t.length : Nat), .int (0 - 1), .non, .bl true, .str "l"]) (fun i σ H6 => ∃ v2 v3 v4, σ = [some (.ref p), some (.str (S t)), v2, v3, v4] ∧ ExtN H H6 ∧ Tabs T H6 ∧ H6 tp = some (.tup [.int (t.length : Nat), .int (0 - 1), .non, .bl true, .str "l"]))
      ⟨none, none, none, rfl, extN_same s5, hT.ext s5, upd_same⟩ (fun i σ H6 _ h6 => by obtain ⟨_, _, _, _, _, _, h6⟩ := h6; exact SqT.of h6) ?_ ?_⟩
    · rintro i x σ H6 hx ⟨v2, v3, v4, rfl, e6, T6, h6⟩
      obtain ⟨ty, bb, bi, kn, hn⟩ := bad_kn (K := K) (H := H6) (t := t) x (List.mem_of_getElem? hx)
      refine ⟨T6, fun H7 e7 T7 => ?_⟩
      obtain ⟨dy, hp7⟩ := word_extN (word_extN ⟨dx, hp⟩ e6) e7
      obtain ⟨_, _, _, kn7, _⟩ := bad_kn (K := K) (H := H7) (t := t) x (List.mem_of_getElem? hx)
      refine ⟨_, rfl, _, rfl, p, dy, _, rfl, hp7, p, x, t, _, _, _, rfl, ⟨dy, hp7⟩, g, kn7, .inr ⟨hn, ?_⟩⟩
      refine ⟨4, [], [.str "number"], by decide, by rw [L.cn], (fun _ z => nomatch z), (fun z => absurd z (by decide)), rfl, fun H8 q s8 hq => ?_⟩
      refine ⟨by show 1 ≤ sizeLine; decide, fun q2 hq2 => ?_⟩
      have s9 := same_new (o := .tup [V.str "number"]) hq2
      refine ⟨_, _, .tup (SqT.of (s9 _ _ hq)) (.cons (.str _) .nil), .tup (SqT.of upd_same) (.cons (.str _) .nil), by decide +kernel, by decide +kernel, _, rfl, ?_⟩
      have s79 : Same H7 (upd H8 q2 (.tup [V.str "number"])) := Same.trans s8 s9
      exact iteF ⟨_, _, _, rfl, (e6.trans e7).trans (extN_same s79), T7.ext s79, s79 _ _ (tup_extN h6 e7)⟩
    rintro σ H6 ⟨v2, v3, v4, rfl, e6, T6, _⟩
    refine ⟨by show 9 ≤ sizeLine; decide, fun tq htq => ?_⟩
    have s7 := same_new (o := .tup [.str "l", .str "r", .str "u", .str "d", .str "x", .str "", .str "lr", .non, .int 5]) htq
    refine ⟨tq, rfl, ⟨_, SqT.of upd_same⟩, for_tup (K := K) (a := tq) (xs := [.str "l", .str "r", .str "u", .str "d", .str "x", .str "", .str "lr", .non, .int 5]) (fun i σ H7 => ∃ v2 v3 v4, σ = [some (.ref p), some (.str (S t)), v2, v3, v4] ∧ Same H6 H7 ∧ H7 tq = some (.tup [.str "l", .str "r", .str "u", .str "d", .str "x", .str "", .str "lr", .non, .int 5]))
      ⟨_, _, _, rfl, s7, upd_same⟩ (fun i σ H7 _ h7 => by obtain ⟨_, _, _, _, _, h7⟩ := h7; exact SqT.of h7) ?_ ?_⟩
    · rintro i x σ H7 hx ⟨w2, w3, w4, rfl, s7, h7⟩
      obtain ⟨dy, hp7⟩ := (word_extN ⟨dx, hp⟩ e6).same s7
      rcases tl_kn (K := K) (H := H7) x (List.mem_of_getElem? hx) with ⟨u, rfl, hu⟩ | nt
      · refine ⟨_, rfl, _, rfl, p, dy, _, rfl, hp7, p, .str (S u), t, rfl, ⟨dy, hp7⟩, g, .inl ⟨u, rfl, hu, _, rfl, ?_⟩⟩
        refine ⟨_, rfl, _, _, _, _, true, rfl, .ty _, .base (.str _), kit_ty (by decide +kernel), true, rfl, iteT ?_⟩
        refine ⟨_, rfl, _, rfl, S_line hu, rfl, _, rfl, ?_⟩
        rw [S_len]
        by_cases h1 : u.length = 1
        · obtain ⟨c, rfl⟩ := S_one h1
          rw [show decide (V.int (([c] : List Nat).length : Nat) = V.int 1) = true from decide_eq_true rfl]
          refine iteT ⟨_, rfl, _, rfl, c, S t, rfl, rfl, rfl, _, rfl, ?_⟩
          rw [S_list]
          rw [show (!decide (V.bl (decide (([c] : List Nat).length = 1) && decide (([c] : List Nat).getD 0 0 ∈ t)) = V.bl (decide (c ∈ t)))) = false by simp]
          exact iteF ⟨_, _, _, rfl, s7, h7⟩
        · rw [show decide (V.int (u.length : Nat) = V.int 1) = false from decide_eq_false (by intro z; injection z with z; omega)]
          refine iteF ⟨rfl, _, rfl, ?_⟩
          rw [decide_eq_false h1, Bool.false_and]
          exact iteF ⟨_, _, _, rfl, s7, h7⟩
      · refine ⟨_, rfl, _, rfl, p, dy, _, rfl, hp7, p, x, t, rfl, ⟨dy, hp7⟩, g, .inr ⟨nt, _, rfl, ?_⟩⟩
        obtain ⟨ty, hty, hk⟩ := nt
        exact ⟨_, rfl, _, _, _, _, false, rfl, .ty _, hty, kit_ty hk, false, rfl, iteF ⟨rfl, _, rfl, iteF ⟨_, _, _, rfl, s7, h7⟩⟩⟩
    · rintro σ H7 ⟨w2, w3, w4, rfl, s7, h7⟩
      exact k _ (e6.trans (extN_same s7)) (T6.ext s7)
end
end TA
end
section
set_option Elab.async false
set_option maxRecDepth 100000
set_option linter.all false
namespace TA
open PySem PySem.Spec PyProof.Rows L2 LamX TX TK TM TB
theorem opR_or {X : Cx} {f : Value → Value → Sem Value} {r r' : R2} (h : OpR X f r) (h' : OpR X f r') : OpR X f (fun x y H Q => r x y H Q ∨ r' x y H Q) := by
  intro pins s σ H x y v u Q I rx ry q
  rcases q with q | q
  · exact h pins s σ H x y v u Q I rx ry q
  · exact h' pins s σ H x y v u Q I rx ry q
/-- what an operator of C asks of the built-in type at its right -/
structure ArgT (K : PySem.W.Frag) (C : Addr) (op : Operator) (T : String) : Prop where
  h : ∃ fo ro, PySem.W.findIn K (.type T) (PySem.dunder op.info.2) = some fo ∧ PySem.W.findIn K (.type T) (dunderR op.info.2) = some ro
  s : PySem.W.subIn K (.type T) (.ref C) = some false
abbrev rMul (C : Addr) (sp : Sp) (E : XK) : R2 := fun x y H Q => rTypOwn C "int" sp E x y H Q ∨ rTypOwn C "NoneType" sp E x y H Q ∨ rTypOwn C "bool" sp E x y H Q
structure MulF (K : PySem.W.Frag) (C g : Addr) : Prop where
  sf : PySem.W.selfFirst K C = true
  m : OwnM K C (PySem.dunder Operator.Mult.info.2) g
  r : ∃ rc, PySem.W.findIn K (.ref C) (dunderR Operator.Mult.info.2) = some rc ∧ (rc = none ∨ ∃ g : Addr, rc = some (.ref g))
  i : ArgT K C .Mult "int"
  n : ArgT K C .Mult "NoneType"
  b : ArgT K C .Mult "bool"
theorem op_mulOwn {X : Cx} {CX : CXT} {n : Nat} {C g : Addr} {sp : Sp} {E : XK} (M : MulF X.K C g) (F : FnR X.prog X.w X.K X.mg X.base CX n g sp) (hr : Room n X.A) (hx : Passes CX X E) : OpR X (binaryOp .Mult) (rMul C sp E) := by
  obtain ⟨rc, h1, h2⟩ := M.r
  have one : ∀ {T : String}, ArgT X.K C .Mult T → OpR X (binaryOp .Mult) (rTypOwn C T sp E) := fun A => by
    obtain ⟨fo, ro, e1, e2⟩ := A.h
    exact op_typOwn M.sf M.m.find M.m.isf h1 h2 e1 e2 A.s F hr hx
  exact opR_or (one M.i) (opR_or (one M.n) (one M.b))
theorem tabs_but {T : List (Addr × Str)} {H H' : Hp} {r : Addr} {xs : List V} (h : Tabs T H) (hr : H r = some (.lst xs)) (b : But r H H') : Tabs T H' := fun p hp => by
  obtain ⟨ps, h1, h2, h3⟩ := h p hp
  refine ⟨ps, b _ _ h1 fun e => ?_, h2, fun pos cv hc => ?_⟩
  · rw [e, hr] at h1
    cases h1
  · obtain ⟨c, e, hc2⟩ := h3 pos cv hc
    refine ⟨c, e, b _ _ hc2 fun z => ?_⟩
    rw [z, hr] at hc2
    have hc3 : HO.lst xs = HO.ext _ := Option.some.inj hc2
    cases hc3
theorem row_extN {K : PySem.W.Frag} {a r : Addr} {ns : List Int} {H H' : Hp} (R : RowAt K a ns H r) (e : ExtN H H') : RowAt K a ns H' r := by
  obtain ⟨i, d, u, h, hi, q⟩ := R
  refine ⟨i, d, u, e _ _ h (fun ps z => by cases z), hi, ?_⟩
  rcases q with (q | ⟨o, q⟩) | q
  · exact .inl (.inl (e _ _ q fun ps z => by cases z))
  · exact .inl (.inr ⟨o, e _ _ q fun ps z => by cases z⟩)
  · exact .inr q
end TA
end
section
set_option Elab.async false
set_option maxRecDepth 100000
set_option linter.all false
namespace TA
open PySem PySem.Spec PyProof.Rows L2 LamX TX TK TM TB
theorem cut_lo {t : List Nat} {d : Nat} (h : d ≤ t.length) : cutS (S t) none (some (d : Int)) = S (t.take d) := by
  unfold cutS
  rw [S_len, S_list]
  have e1 : HT.sIx t.length 0 none = 0 := rfl
  have e2 : HT.sIx t.length t.length (some (d : Int)) = d := by
    unfold HT.sIx
    simp
    split
    · omega
    · omega
  rw [e1, e2]
  simp
theorem cut_hi {t : List Nat} {d : Nat} (h : d ≤ t.length) : cutS (S t) (some (d : Int)) none = S (t.drop d) := by
  unfold cutS
  rw [S_len, S_list]
  have e1 : HT.sIx t.length t.length none = t.length := rfl
  have e2 : HT.sIx t.length 0 (some (d : Int)) = d := by
    unfold HT.sIx
    simp
    split
    · omega
    · omega
  rw [e1, e2]
  have : (t.drop d).take (t.length - d) = t.drop d := List.take_of_length_le (by rw [List.length_drop]; exact Nat.le_refl _)
  rw [this]
theorem fw_in {t r : List Nat} {c : Nat} (h60 : t.length < 60) (g : ∀ x ∈ t, isT x = true) (hc : isT c = false) : Fw (t ++ c :: r) (some t.length) := by
  refine ⟨by simp, ?_, fun j hj => ?_⟩
  · unfold wrongAt
    rw [List.getD_eq_getElem?_getD, List.getElem?_append_right (Nat.le_refl _)]
    simp [hc]
  · unfold wrongAt
    rw [List.getD_eq_getElem?_getD, List.getElem?_append_left hj, List.getElem?_eq_getElem hj]
    rw [decide_eq_false (by omega), Bool.false_or]
    simp [g _ (List.getElem_mem hj)]
theorem fw_long {t : List Nat} (h : 60 < t.length) (g : ∀ j, j < 60 → isT (t.getD j 0) = true) : Fw t (some 60) := by
  refine ⟨h, ?_, fun j hj => ?_⟩
  · unfold wrongAt
    rfl
  · unfold wrongAt
    rw [decide_eq_false (by omega), Bool.false_or, g j hj]
    rfl
theorem bad_sg : ∀ x ∈ ([.str "x", .str "L", .str " ", .str "."] : List V), ∃ c, x = sg c ∧ isT c = false := by
  intro x hx
  simp only [List.mem_cons, List.not_mem_nil, or_false] at hx
  rcases hx with rfl | rfl | rfl | rfl
  · exact ⟨120, rfl, by decide⟩
  · exact ⟨76, rfl, by decide⟩
  · exact ⟨32, rfl, by decide⟩
  · exact ⟨46, rfl, by decide⟩
theorem mul_or {C p dp : Addr} {fs : List (Str × V)} {sp : Sp} {E : XK} {x : V} {H : Hp} {Q : VK} (hp : H p = some (.ins C dp fs)) (h : (∀ u, RelV x u → typeOf u = pure (.type "int")) ∨ (∀ u, RelV x u → typeOf u = pure (.type "NoneType")) ∨ ∀ u, RelV x u → typeOf u = pure (.type "bool"))
    (q : sp [.ref p, x] H Q E) : rMul C sp E (.ref p) x H Q := by
  rcases h with h | h | h
  · exact .inl ⟨p, dp, fs, rfl, hp, h, q⟩
  · exact .inr (.inl ⟨p, dp, fs, rfl, hp, h, q⟩)
  · exact .inr (.inr ⟨p, dp, fs, rfl, hp, h, q⟩)
theorem ty_int (i : Int) : ∀ u, RelV (.int i) u → typeOf u = pure (.type "int") := by
  rintro u ⟨b, rfl⟩
  rfl
theorem ty_non : ∀ u, RelV .non u → typeOf u = pure (.type "NoneType") := by
  intro u h
  cases (show u = Value.none from h)
  rfl
theorem ty_bl (b : Bool) : ∀ u, RelV (.bl b) u → typeOf u = pure (.type "bool") := by
  intro u h
  cases (show u = Value.bool b from h)
  rfl
theorem bad_mul {K : PySem.W.Frag} {H : Hp} : ∀ x ∈ ([.int (0 - 1), .int 61, .non, .bl true] : List V), ∃ ty bb bi, Kn K H x ty bb bi ∧ isN x 60 = false ∧
    ((∀ u, RelV x u → typeOf u = pure (.type "int")) ∨ (∀ u, RelV x u → typeOf u = pure (.type "NoneType")) ∨ ∀ u, RelV x u → typeOf u = pure (.type "bool")) := by
  intro x hx
  simp only [List.mem_cons, List.not_mem_nil, or_false] at hx
  rcases hx with rfl | rfl | rfl | rfl
  · exact ⟨_, _, _, kn_int _, rfl, .inl (ty_int _)⟩
  · exact ⟨_, _, _, kn_int _, rfl, .inl (ty_int _)⟩
  · exact ⟨_, _, _, kn_non, rfl, .inr (.inl ty_non)⟩
  · exact ⟨_, _, _, kn_bl _, rfl, .inr (.inr (ty_bl _))⟩
theorem mk_wordN2 {K : PySem.W.Frag} {C CE : Addr} {y : V} {H1 : Hp} {R : Addr → Hp → Prop} {E : XK} (hy : ∀ H2, Same H1 H2 → NoText K H2 y)
    (h2 : ∀ H2 d, Same H1 H2 → H2 d = some (.xd [("index", .int 0)]) → E (.ref CE) (some d) H2) :
    ∀ x dx, H1 x = none → H1 dx = none → dx ≠ x → spWix K C CE [.ref x, y] (upd (upd H1 dx (.own x)) x (.ins C dx [])) (fun v H2 => v = .non ∧ R x H2) E := by
  intro x dx nx ndx nex
  have sm : Same H1 (upd (upd H1 dx (.own x)) x (.ins C dx [])) := fun b o e => by
    rw [upd_ne (ne_of_none e nx), upd_ne (ne_of_none e ndx)]
    exact e
  exact ⟨x, dx, y, rfl, upd_same, .inr ⟨hy _ sm, fun H' d k nd e => h2 _ _ (sm.trans k) e⟩⟩
theorem fw_app {l r : List Nat} (g : Good l) (h : l.length = 60) (hr : r ≠ []) : Fw (l ++ r) (some 60) := by
  refine fw_long ?_ fun j hj => ?_
  · rw [List.length_append, h]
    have := List.length_pos_iff.mpr hr
    omega
  · rw [List.getD_eq_getElem?_getD, List.getElem?_append_left (by omega), List.getElem?_eq_getElem (by omega)]
    exact g.2 _ (List.getElem_mem _)
abbrev lu30 : List Nat := rep 30 [108, 117]
theorem lu_good : Good [108, 117] := ⟨by decide, fun c hc => by
  simp only [List.mem_cons, List.not_mem_nil, or_false] at hc
  rcases hc with rfl | rfl <;> decide⟩
theorem l_good : Good [108] := ⟨by decide, fun c hc => by
  simp only [List.mem_cons, List.not_mem_nil, or_false] at hc
  subst hc
  decide⟩
theorem lu_len : lu30.length = 60 := rep_len 30 [108, 117]
theorem word_lay (i : Int) : PyData.canLay0 (.tuple [.str "word", .int i]) = true := by
  show (PyData.strOk "word" && (true && true)) = true
  decide +kernel
theorem word_shaped (i : Int) : SeqAt.shaped (.tuple [.str "word", .int i]) = true := by
  unfold SeqAt.shaped
  rw [word_lay]
  rfl
theorem word_eqv (i : Int) : PyData.eqv (.tuple [.str "word", .int i]) (.tuple [.str "word", .int i]) = true := SeqAt.eqv_refl _ (word_lay i)
end TA
end
section
set_option Elab.async false
set_option maxRecDepth 100000
set_option linter.all false
namespace TA
open PySem PySem.Spec PyProof.Rows L2 LamX TX TK TM TB
abbrev NLaw : List Str := ["_law_script", "_law_row", "_law_text_here", "_law_other", "_law_word", "_law_second", "_law_times", "_law_one", "_law_due", "_law_opposite", "_law_k", "_law_bad", "_law_long", "_law_tilt"]
theorem scLaw : FnScope NLaw ["_law_script"] (defScope sLaw) := ⟨rfl, rfl, rfl, by decide +kernel, rfl, by decide +kernel, by decide +kernel⟩
structure LawF (P : Program) (w : World) (K : PySem.W.Frag) (mg : Str → Option Value) (base : Heap) (C CE CN : Addr) (ce : Nat → Addr) (cT : Addr) (T : List (Addr × Str)) (cL PL : Addr) : Prop where
  cw : ClsW K mg C
  txt : TxtW K mg
  te : TxtE K mg ce cT
  c0 : ce 0 = CE
  c4 : ce 4 = CN
  fW : ∃ g fd, FnOk P w K mg base CX0 6 g fd ["_law_word", "_law_text_here"] (spLw K C T) ∧ PySem.W.keepIn K (.ref g) = true ∧ Binds K fd ["_law_word", "_law_text_here"] [] ∧ mg "_law_is_word" = some (.ref g)
  fT : ∃ g fd, (∀ a ns, FnOk P w K mg base CX0 1 g fd ["_law_row", "_law_many"] (spTk K a ns)) ∧ PySem.W.keepIn K (.ref g) = true ∧ Binds K fd ["_law_row", "_law_many"] [] ∧ mg "_law_taken" = some (.ref g)
  fX : ∃ g fd, (∀ a ns, FnOk P w K mg base CX0 2 g fd ["_law_row", "_law_most"] (spTx K a ns)) ∧ PySem.W.keepIn K (.ref g) = true ∧ Binds K fd ["_law_row", "_law_most"] [] ∧ mg "_law_text" = some (.ref g)
  mw : ∃ g fd, Mk K C g ∧ FnOk P w K mg base (L2.CX P w) 3 g fd ["self", "text"] (spWix K C CE) ∧ Binds K fd ["self", "text"] []
  sf : PySem.W.selfFirst K C = true
  ad : ∃ g, OwnM K C (PySem.dunder Operator.Add.info.2) g ∧ FnR P w K mg base (L2.CX P w) 5 g (spAd C CE)
  mu : ∃ g, MulF K C g ∧ FnR P w K mg base (L2.CX P w) 5 g (spMu K C CE CN)
  ng : ∃ g, OwnM K C "__neg__" g ∧ FnR P w K mg base (L2.CX P w) 5 g (spNg C)
  eq : ∃ g, OwnM K C "__eq__" g ∧ FnR P w K mg base CX0 1 g (spWe K C)
  ne : PySem.W.findIn K (.ref C) "__ne__" = some (some (.builtin "object.__ne__"))
  ob : PySem.W.mroIn K C (.type "object") = some true
  nf : PySem.W.notFirst K C (.type "str") = true
  le : ∃ g, OwnM K C "__len__" g ∧ FnR P w K mg base CX0 1 g (spLe C)
  fR : ∃ g fd, Fun K "_law_raised" "_law_raised" sLawRaised g fd ∧ Binds K fd ["_law_work"] [] ∧ mg "_law_raised" = some (.ref g)
  tb : LamX.TabB base mg cL PL
  tm : (PL, ("law.<locals>.<lambda>" : Str)) ∈ T
  tu : ∀ p ∈ T, p.1 = PL → p.2 = ("law.<locals>.<lambda>" : Str)
section
variable {P : Program} {w : World} {K : PySem.W.Frag} {mg : Str → Option Value} {base : Heap} {C CE CN : Addr} {ce : Nat → Addr} {cT cL PL : Addr} {T : List (Addr × Str)}
theorem rep_good {t : List Nat} {m : Nat} (g : Good t) (h : m * t.length ≤ 60) : Good (rep m t) := by
  refine ⟨by rw [rep_len]; exact h, fun c hc => ?_⟩
  unfold rep at hc
  obtain ⟨l, hl, hc⟩ := List.mem_flatten.mp hc
  rw [(List.mem_replicate.mp hl).2] at hc
  exact g.2 c hc
theorem mk_word2 {t : List Nat} {H1 : Hp} {R : Addr → Hp → Prop} {E : XK} (hl : t.length ≤ 1000) (h1 : ∀ H2 r, Same H1 H2 → Fw t none → WordAt C H2 r t → R r H2)
    (h2 : ∀ H2 d i, Fw t (some i) → Same H1 H2 → H2 d = some (.xd [("index", .int (i : Nat))]) → E (.ref CE) (some d) H2) :
    ∀ x dx, H1 x = none → H1 dx = none → dx ≠ x → spWix K C CE [.ref x, .str (S t)] (upd (upd H1 dx (.own x)) x (.ins C dx [])) (fun v H2 => v = .non ∧ R x H2) E := by
  intro x dx nx ndx nex
  have sm : Same H1 (upd (upd H1 dx (.own x)) x (.ins C dx [])) := fun b o e => by
    rw [upd_ne (ne_of_none e nx), upd_ne (ne_of_none e ndx)]
    exact e
  refine ⟨x, dx, .str (S t), rfl, upd_same, .inl ⟨t, rfl, hl, fun H' hf hw kp => ⟨rfl, ?_⟩, fun H' d i hf k nd e => ?_⟩⟩
  · exact h1 _ _ (Same.made nx ndx kp) hf hw
  · exact h2 _ _ _ hf (sm.trans k) e
def spLaw (K : PySem.W.Frag) (T : List (Addr × Str)) : Sp := fun vs H Q _ => ∃ (a : Addr) (ns : List Int), vs = [.ref a] ∧ SqL K H a (ns.map V.int) ∧ Tabs T H ∧ ∀ H', Q (.bl true) H'
theorem ok_law {f : Addr} {oc kV doc pm ct : Value} {od an : Option Addr} {osl : Array (Option Value)} (lk : K.lookup f = some ⟨oc, od, .func (PySem.W.fnOf "law" "law" (defArgs sLaw) (defBody sLaw) (defScope sLaw) .none kV doc pm an (.ref cL) ct), osl⟩) (hcd : PySem.W.codeIn K (.ref cL) "law" = true)
    (L : LawF P w K mg base C CE CN ce cT T cL PL) :
    FnOk P w K mg base CX0 8 f (PySem.W.fnOf "law" "law" (defArgs sLaw) (defBody sLaw) (defScope sLaw) .none kV doc pm an (.ref cL) ct) ["_law_script"] (spLaw K T) := by
  obtain ⟨gW, fdW, FW, kW, bW, mW⟩ := L.fW
  obtain ⟨gT, fdT, FT, kT, bT, mT⟩ := L.fT
  obtain ⟨gX, fdX, FX, kX, bX, mX⟩ := L.fX
  obtain ⟨gI, fdI, M, FI, bI⟩ := L.mw
  obtain ⟨gAd, OAd, FAd⟩ := L.ad
  obtain ⟨gMu, OMu, FMu⟩ := L.mu
  obtain ⟨gNg, ONg, FNg⟩ := L.ng
  obtain ⟨gEq, OEq, FEq⟩ := L.eq
  obtain ⟨gL, OL, FL⟩ := L.le
  obtain ⟨gR, fdR, FR, bR, mR⟩ := L.fR
  have T' := L.txt
  have CW := L.cw
  have nd := scLaw.nd
  refine fn_of lk hcd scLaw (fun vs H Q E h => ?_) (fun A outer s H vs Q E hr h => ?_)
  · obtain ⟨a, ns, rfl, _⟩ := h
    rfl
  · obtain ⟨a, ns, rfl, hS, hT, k⟩ := h
    suffices h : ∃ t', PSs (cxOf CX0 P w K mg base NLaw "law" (defScope sLaw) f (.ref cL) A outer s H E).nox (defBody sLaw) t' ∧ t' { nx := fun _ H' => Q .non H', rt := Q } (L2.start NLaw [.ref a]) H by
      obtain ⟨t', h1, h2⟩ := h
      exact ⟨t', h1.nox, h2⟩
    have r1 : Room 1 _ := hr.mono (by decide)
    have r2 : Room 2 _ := hr.mono (by decide)
    have r3 : Room 3 _ := hr.mono (by decide)
    have r4 : Room 4 _ := hr.mono (by decide)
    have r5 : Room 5 _ := hr.mono (by decide)
    have r6 : Room 6 _ := hr.mono (by decide)
    have hu1 := hr.units
    replace hu1 := Nat.lt_of_le_of_lt (Nat.add_le_add_left (show 1 ≤ 64 by decide) _) hu1
    refine ⟨_, C8.pss_cut (ps_set (i := 1) nd rfl (.inl rfl) (pe_lst (pa_cons (pv 0) (pa_cons pe_int (pa_cons pe_int (pa_cons pe_int pa_nil))))))
      (C8.pss_cut (ps_asg (pe_tup (pa_cons (pe_call (FX a ns) r2 rfl mX kX bX .nil pass0 (pa_cons (pv 1) (pa_cons pe_int pa_nil))) (pa_cons (pe_call (FX a ns) r2 rfl mX kX bX .nil pass0 (pa_cons (pv 1) (pa_cons pe_int pa_nil))) pa_nil))) (pg_tup rfl (pgs_cons (pg_name (i := 2) nd rfl (.inr rfl)) (pgs_cons (pg_name (i := 3) nd rfl (.inl rfl)) pgs_nil))))
      (C8.pss_cut (ps_asg (pe_tup (pa_cons (pe_make M FI r4 rfl CW.mgC bI .nil passL (pa_cons (pv 2) pa_nil)) (pa_cons (pe_make M FI r4 rfl CW.mgC bI .nil passL (pa_cons (pv 3) pa_nil)) pa_nil))) (pg_tup rfl (pgs_cons (pg_name (i := 4) nd rfl (.inr rfl)) (pgs_cons (pg_name (i := 5) nd rfl (.inl rfl)) pgs_nil))))
      (C8.pss_cut (ps_set (i := 6) nd rfl (.inl rfl) (pe_call (FT a ns) r1 rfl mT kT bT .nil pass0 (pa_cons (pv 1) (pa_cons pe_int pa_nil))))
      (C8.pss_cut (ps_for PassesOwn.never rfl (pi_tup (pe_tup (pa_cons (pe_tup (pa_cons (pv 4) (pa_cons (pv 2) pa_nil))) (pa_cons (pe_tup (pa_cons (pe_op (op_sameOwn L.sf OAd.find OAd.isf FAd r5 passL) (pv 4) (pv 5)) (pa_cons (pe_op op_add_str (pv 2) (pv 3)) pa_nil))) pa_nil))))
          (pg_tup rfl (pgs_cons (pg_name (i := 7) nd rfl (.inl rfl)) (pgs_cons (pg_name (i := 8) nd rfl (.inl rfl)) pgs_nil))) (pss_one (ps_if (pt_not (pt_val (pe_call FW r6 rfl mW kW bW .nil pass0 (pa_cons (pv 7) (pa_cons (pv 8) pa_nil))))) pss_never pss_nil)))
      (C8.pss_cut (ps_set (i := 9) nd rfl (.inl rfl) (pe_join pe_str (pe_lc (own := [("_law_tilt", 13)]) (g := gName 13) (tt := tYes) rfl nd (pi_str (pv 2)) (blkOk_by (N := NLaw) (sc := defScope sLaw) (by decide +kernel)) (fun _ _ _ _ _ => pg_name (i := 13) nd rfl (.inl rfl)) (fun _ _ _ _ _ => pts_nil)
          (fun _ _ _ _ _ => pe_dget hu1 (pe_disp (pps_cons pe_str pe_str (pps_cons pe_str pe_str (pps_cons pe_str pe_str (pps_cons pe_str pe_str pps_nil)))) rfl rfl (by simp) (by decide)) (pv 13) (fun _ _ => rfl)))))
      (C8.pss_cut (ps_if (PW.pt (pw_or (pt_not (pt_val (pe_call FW r6 rfl mW kW bW .nil pass0 (pa_cons (pe_un (un_negOwn ONg.find ONg.isf FNg r5 passL) (pv 4)) (pa_cons (pv 9) pa_nil))))) (pw_or1 (PW.pt (pw_and (pt_cmpR op_le (pe_op op_mul (pe_callB call_len_str (by rfl) T'.len PySem.boot_len (pa_cons (pv 2) pa_nil)) (pv 6)) pe_int (nomark _))
          (pw_and1 (pt_not (pt_val (pe_call FW r6 rfl mW kW bW .nil pass0 (pa_cons (pe_op (op_mulOwn OMu FMu r5 passL) (pv 4) (pv 6)) (pa_cons (pe_op op_repS (pv 2) (pv 6)) pa_nil))))))))))) pss_never pss_nil)
      (C8.pss_cut (ps_if (PW.pt (pw_or (pt_cmpR op_ne (pe_cmpR (op_cmpOwn (op := .Eq) (fun _ _ => rfl) OEq.find OEq.isf FEq r1 pass0) (pv 4) (pv 5) (nomark _)) (pe_cmpR op_eq (pv 2) (pv 3) (nomark _)) (nomark _)) (pw_or (pt_cmpR (op_cmpOwn (op := .Eq) (fun _ _ => rfl) OEq.find OEq.isf FEq r1 pass0) (pv 4) (pv 2) (nomark _))
          (pw_or1 (pt_cmpR (op_neOwn L.ne L.ob OEq.find OEq.isf FEq r2 pass0) (pv 4) (pe_make M FI r4 rfl CW.mgC bI .nil passL (pa_cons (pv 2) pa_nil)) (nomark _)))))) pss_never pss_nil)
      (C8.pss_cut (ps_set (i := 10) nd rfl (.inr rfl) (pe_call (FT a ns) r1 rfl mT kT bT .nil pass0 (pa_cons (pv 1) (pa_cons (pe_op op_add (pe_callB call_len_str (by rfl) T'.len PySem.boot_len (pa_cons (pv 2) pa_nil)) pe_int) pa_nil))))
      (C8.pss_cut (ps_for PassesOwn.never rfl (pi_tup (pe_tup (pa_cons pe_str (pa_cons pe_str (pa_cons pe_str (pa_cons pe_str pa_nil)))))) (pg_name (i := 11) nd rfl (.inr rfl)) (pss_one (ps_if (pt_cmpR (op_neD hr.units) (pe_told FR bR mR L.te (by rfl) L.tb rfl L.tm L.tu (k := 5) hr (show LamS (defScope sLaw) _ from lamS_by (by decide +kernel)) rfl (fun _ _ _ _ _ => rfl) (fun A outer s H E f c' hr' => pe_make M FI (hr'.mono (by decide)) rfl CW.mgC bI .nil (passX (takes_of rfl rfl rfl rfl)) (pa_cons (pe_op op_add_str (pe_op op_add_str (pe_slice sl_str (pv 2) po_none (po_some (pv 10))) (pv 11)) (pe_slice sl_str (pv 2) (po_some (pv 10)) po_none)) pa_nil))) (pe_tup (pa_cons pe_str (pa_cons (pv 10) pa_nil))) (nomark _)) pss_never pss_nil)))
      (C8.pss_cut (ps_for PassesOwn.never rfl (pi_tup (pe_tup (pa_cons pe_non (pa_cons pe_int (pa_cons (pe_tup (pa_cons pe_str pa_nil)) (pa_cons (pe_lst (pa_cons pe_str pa_nil)) pa_nil)))))) (pg_name (i := 11) nd rfl (.inr rfl)) (pss_one (ps_if (pt_cmpR (op_neD hr.units) (pe_told FR bR mR L.te (by rfl) L.tb rfl L.tm L.tu (k := 5) hr (show LamS (defScope sLaw) _ from lamS_by (by decide +kernel)) rfl (fun _ _ _ _ _ => rfl) (fun A outer s H E f c' hr' => pe_make M FI (hr'.mono (by decide)) rfl CW.mgC bI .nil (passX (takes_of rfl rfl rfl rfl)) (pa_cons (pv 11) pa_nil))) (pe_tup (pa_cons pe_str (pa_cons pe_int pa_nil))) (nomark _)) pss_never pss_nil)))
      (C8.pss_cut (ps_for PassesOwn.never rfl (pi_tup (pe_tup (pa_cons (pe_op op_sub pe_int pe_int) (pa_cons pe_int (pa_cons pe_non (pa_cons pe_bl pa_nil)))))) (pg_name (i := 11) nd rfl (.inr rfl)) (pss_one (ps_if (pt_cmpR (op_neD hr.units) (pe_told FR bR mR L.te (by rfl) L.tb rfl L.tm L.tu (k := 5) hr (show LamS (defScope sLaw) _ from lamS_by (by decide +kernel)) rfl (fun _ _ _ _ _ => rfl) (fun A outer s H E f c' hr' => pe_op (op_mulOwn OMu FMu hr' (passX (takes_of rfl rfl rfl rfl))) (pv 4) (pv 11))) (pe_tup (pa_cons pe_str pa_nil)) (nomark _)) pss_never pss_nil)))
      (C8.pss_cut (ps_set (i := 12) nd rfl (.inr rfl) (pe_make M FI r4 rfl CW.mgC bI .nil passL (pa_cons (pe_op op_repS pe_str pe_int) pa_nil)))
      (C8.pss_cut (ps_if (pt_cmpR (op_neD hr.units) (pe_told FR bR mR L.te (by rfl) L.tb rfl L.tm L.tu (k := 5) hr (show LamS (defScope sLaw) _ from lamS_by (by decide +kernel)) rfl (fun _ _ _ _ _ => rfl) (fun A outer s H E f c' hr' => pe_make M FI (hr'.mono (by decide)) rfl CW.mgC bI .nil (passX (takes_of rfl rfl rfl rfl)) (pa_cons (pe_op op_add_str (pe_op op_repS pe_str pe_int) pe_str) pa_nil))) (pe_tup (pa_cons pe_str (pa_cons pe_int pa_nil))) (nomark _)) pss_never pss_nil)
      (C8.pss_cut (ps_if (pt_cmpR (op_neD hr.units) (pe_told FR bR mR L.te (by rfl) L.tb rfl L.tm L.tu (k := 5) hr (show LamS (defScope sLaw) _ from lamS_by (by decide +kernel)) rfl (fun _ _ _ _ _ => rfl) (fun A outer s H E f c' hr' => pe_op (op_sameOwn L.sf OAd.find OAd.isf FAd hr' (passX (takes_of rfl rfl rfl rfl))) (pv 12) (pe_make M FI (hr'.mono (by decide)) rfl CW.mgC bI .nil (passX (takes_of rfl rfl rfl rfl)) (pa_cons (pe_str) pa_nil)))) (pe_tup (pa_cons pe_str (pa_cons pe_int pa_nil))) (nomark _)) pss_never pss_nil)
      (pss_one (ps_ret (pe_and (pe_cmpR (op_eqD hr.units) (pe_told FR bR mR L.te (by rfl) L.tb rfl L.tm L.tu (k := 5) hr (show LamS (defScope sLaw) _ from lamS_by (by decide +kernel)) rfl (fun _ _ _ _ _ => rfl) (fun A outer s H E f c' hr' => pe_op (op_mulOwn OMu FMu hr' (passX (takes_of rfl rfl rfl rfl))) (pv 12) pe_int)) (pe_tup (pa_cons pe_str (pa_cons pe_int pa_nil))) (nomark _)) (pe_and (pe_cmpR op_eq (pe_callB (call_lenOwn OL.find OL.isf FL r2 pass0) (by rfl) T'.len PySem.boot_len (pa_cons (pe_op (op_mulOwn OMu FMu r5 passL) (pv 12) pe_int) pa_nil)) pe_int (nomark _)) (pe_one (pe_cmpR op_eq (ClX.pe_cval (pe_glob (v := .ref C) rfl CW.mgC rfl)) pe_int (nomark _))))))))))))))))))))), ?_⟩
    have lst_of : ∀ {H1 : Hp} {r : Addr}, RowAt K a ns H1 r → ∃ xs, H1 r = some (.lst xs) := fun ⟨_, _, _, h, _⟩ => ⟨_, h⟩
    have tabs_row : ∀ {H1 H2 : Hp} {r : Addr}, RowAt K a ns H1 r → Tabs T H1 → But r H1 H2 → Tabs T H2 := fun R h b => by
      obtain ⟨xs, h1⟩ := lst_of R
      exact tabs_but h h1 b
    have word_row : ∀ {H1 H2 : Hp} {r p : Addr} {t : List Nat}, RowAt K a ns H1 r → WordAt C H1 p t → But r H1 H2 → WordAt C H2 p t := fun {H1 H2 r p t} R hw b => by
      obtain ⟨xs, h1⟩ := lst_of R
      obtain ⟨dx, hw⟩ := hw
      refine ⟨dx, b _ _ hw fun e => ?_⟩
      rw [e, h1] at hw
      cases hw
    have no : ∀ {t : List Nat} {i : Nat} {X : Prop}, Good t → Fw t (some i) → X := fun g h => (good_fw g h).elim
    refine ⟨fun σ H1 => ∃ r, σ = [some (.ref a), some (.ref r), none, none, none, none, none, none, none, none, none, none, none, none] ∧ RowAt K a ns H1 r ∧ Tabs T H1, ?_, ?_⟩
    · refine ⟨_, rfl, by show 4 ≤ sizeLine; decide, fun r hn => ?_⟩
      exact ⟨r, rfl, ⟨0, 0, 0, upd_same, by decide, (same_new hn).seq hS⟩, hT.ext (same_new hn)⟩
    rintro σ H1 ⟨r, rfl, R1, T1⟩
    refine ⟨fun σ H1 => ∃ t u, σ = [some (.ref a), some (.ref r), some (.str (S t)), some (.str (S u)), none, none, none, none, none, none, none, none, none, none] ∧ Good t ∧ t.length ≤ 20 ∧ Good u ∧ u.length ≤ 30 ∧ RowAt K a ns H1 r ∧ Tabs T H1, ?_, ?_⟩
    · refine ⟨_, rfl, r, 20, rfl, R1, by decide, fun H2 t gt lt R2 b2 => ⟨_, rfl, r, 30, rfl, R2, by decide, fun H3 u gu lu R3 b3 => ⟨by show 2 ≤ sizeLine; decide, fun l hl => ?_⟩⟩⟩
      refine ⟨l, _, rfl, SqT.of upd_same, rfl, _, _, rfl, _, _, rfl, rfl, ?_⟩
      exact ⟨t, u, rfl, gt, lt, gu, lu, R3.same (same_new hl), (tabs_row R1 T1 (b2.trans b3)).ext (same_new hl)⟩
    clear R1 T1
    rintro σ H1 ⟨t, u, rfl, gt, lt, gu, lu, R1, T1⟩
    refine ⟨fun σ H1 => ∃ p q, σ = [some (.ref a), some (.ref r), some (.str (S t)), some (.str (S u)), some (.ref p), some (.ref q), none, none, none, none, none, none, none, none] ∧ WordAt C H1 p t ∧ WordAt C H1 q u ∧ RowAt K a ns H1 r ∧ Tabs T H1, ?_, ?_⟩
    · refine ⟨_, rfl, ?_⟩
      dsimp only [tNil]
      refine mk_word2 (H1 := H1) (t := t) (by omega) (fun H2 p s2 _ w2 => ?_) (fun _ _ _ hf _ _ => no gt hf)
      refine ⟨_, rfl, ?_⟩
      dsimp only [tNil]
      refine mk_word2 (H1 := H2) (t := u) (by omega) (fun H3 q s3 _ w3 => ?_) (fun _ _ _ hf _ _ => no gu hf)
      refine ⟨by show 2 ≤ sizeLine; decide, fun l hl => ?_⟩
      refine ⟨l, _, rfl, SqT.of upd_same, rfl, _, _, rfl, _, _, rfl, rfl, ?_⟩
      have s4 := (s2.trans s3).trans (same_new (o := .tup [.ref p, .ref q]) hl)
      exact ⟨p, q, rfl, (w2.same s3).same (same_new hl), w3.same (same_new hl), R1.same s4, T1.ext s4⟩
    clear R1 T1
    rintro σ H1 ⟨p, q, rfl, W1, V1, R1, T1⟩
    refine ⟨fun σ H1 => ∃ m : Nat, σ = [some (.ref a), some (.ref r), some (.str (S t)), some (.str (S u)), some (.ref p), some (.ref q), some (.int m), none, none, none, none, none, none, none] ∧ m < 4 ∧ WordAt C H1 p t ∧ WordAt C H1 q u ∧ RowAt K a ns H1 r ∧ Tabs T H1, ?_, ?_⟩
    · refine ⟨_, rfl, r, 4, rfl, R1, by decide, by decide, fun H2 m hm R2 b2 => ?_⟩
      exact ⟨m, rfl, by omega, word_row R1 W1 b2, word_row R1 V1 b2, R2, tabs_row R1 T1 b2⟩
    clear R1 T1 W1 V1
    rintro σ H1 ⟨m, rfl, hm, W1, V1, R1, T1⟩
    have gtu : Good (t ++ u) := ⟨by rw [List.length_append]; omega, fun c hc => by
      rcases List.mem_append.mp hc with h | h
      · exact gt.2 c h
      · exact gu.2 c h⟩
    refine ⟨fun σ H1 => ∃ v7 v8, σ = [some (.ref a), some (.ref r), some (.str (S t)), some (.str (S u)), some (.ref p), some (.ref q), some (.int m), v7, v8, none, none, none, none, none] ∧ WordAt C H1 p t ∧ WordAt C H1 q u ∧ RowAt K a ns H1 r ∧ Tabs T H1, ?_, ?_⟩
    · obtain ⟨dp, hp⟩ := W1
      obtain ⟨dq, hq⟩ := V1
      refine ⟨_, rfl, _, rfl, by show 2 ≤ sizeLine; decide, fun l1 hl1 => ?_⟩
      have s1 := same_new (o := .tup [.ref p, .str (S t)]) hl1
      refine ⟨_, rfl, _, rfl, p, dp, _, q, dq, _, rfl, rfl, s1 _ _ hp, s1 _ _ hq, p, q, t, u, rfl, ⟨dp, s1 _ _ hp⟩, ⟨dq, s1 _ _ hq⟩, gt, gu, fun H2 z s2 _ w2 => ?_, fun _ _ _ hf _ _ => no gtu hf⟩
      refine ⟨_, rfl, _, rfl, S t, S u, rfl, rfl, ?_, ?_⟩
      · rw [S_len, S_len]
        show _ ≤ 16777216
        omega
      have ecat : S t ++ S u = S (t ++ u) := by
        show Str.mk (t.toArray ++ u.toArray) = _
        simp
      rw [ecat]
      refine ⟨by show 2 ≤ sizeLine; decide, fun l2 hl2 => ⟨by show 2 ≤ sizeLine; decide, fun l3 hl3 => ?_⟩⟩
      have s3 := same_new (o := .tup [.ref z, .str (S (t ++ u))]) hl2
      have s4 := same_new (o := .tup [.ref l1, .ref l2]) hl3
      have s5 := ((s1.trans s2).trans s3).trans s4
      have i1 := s4 _ _ (s3 _ _ (s2 _ _ upd_same))
      have i2 := s4 _ _ (show (upd H2 l2 (.tup [.ref z, .str (S (t ++ u))])) l2 = _ from upd_same)
      refine ⟨l3, rfl, ⟨_, SqT.of upd_same⟩, for_tup (K := K) (a := l3) (xs := [.ref l1, .ref l2]) (fun i σ H3 => ∃ v7 v8, σ = [some (.ref a), some (.ref r), some (.str (S t)), some (.str (S u)), some (.ref p), some (.ref q), some (.int m), v7, v8, none, none, none, none, none] ∧ WordAt C H3 p t ∧ WordAt C H3 q u ∧ RowAt K a ns H3 r ∧ Tabs T H3 ∧ WordAt C H3 z (t ++ u) ∧
          H3 l1 = some (.tup [.ref p, .str (S t)]) ∧ H3 l2 = some (.tup [.ref z, .str (S (t ++ u))]) ∧ H3 l3 = some (.tup [.ref l1, .ref l2])) ⟨none, none, rfl, ⟨dp, s5 _ _ hp⟩, ⟨dq, s5 _ _ hq⟩, R1.same s5, T1.ext s5, (w2.same s3).same s4, i1, i2, upd_same⟩ ?_ ?_ ?_⟩
      · rintro i σ H3 _ ⟨_, _, _, _, _, _, _, _, _, _, h3⟩
        exact SqT.of h3
      · rintro i x σ H3 hx ⟨v7, v8, rfl, W3, V3, R3, T3, Z3, h1, h2, h3⟩
        match i with
        | 0 =>
          cases hx
          refine ⟨l1, _, rfl, SqT.of h1, rfl, _, _, rfl, _, _, rfl, rfl, ?_⟩
          refine ⟨_, rfl, _, rfl, p, t, rfl, W3, gt, T3, fun H4 e4 T4 => ⟨true, rfl, iteF ?_⟩⟩
          exact ⟨_, _, rfl, word_extN W3 e4, word_extN V3 e4, row_extN R3 e4, T4, word_extN Z3 e4, tup_extN h1 e4, tup_extN h2 e4, tup_extN h3 e4⟩
        | 1 =>
          cases hx
          refine ⟨l2, _, rfl, SqT.of h2, rfl, _, _, rfl, _, _, rfl, rfl, ?_⟩
          refine ⟨_, rfl, _, rfl, z, t ++ u, rfl, Z3, gtu, T3, fun H4 e4 T4 => ⟨true, rfl, iteF ?_⟩⟩
          exact ⟨_, _, rfl, word_extN W3 e4, word_extN V3 e4, row_extN R3 e4, T4, word_extN Z3 e4, tup_extN h1 e4, tup_extN h2 e4, tup_extN h3 e4⟩
        | i + 2 => simp at hx
      · rintro σ H3 ⟨v7, v8, rfl, W3, V3, R3, T3, _⟩
        exact ⟨v7, v8, rfl, W3, V3, R3, T3⟩
    clear R1 T1 W1 V1
    rintro σ H1 ⟨v7, v8, rfl, W1, V1, R1, T1⟩
    refine ⟨fun σ H1 => σ = [some (.ref a), some (.ref r), some (.str (S t)), some (.str (S u)), some (.ref p), some (.ref q), some (.int m), v7, v8, some (.str (S (t.map opp))), none, none, none, none] ∧ WordAt C H1 p t ∧ WordAt C H1 q u ∧ RowAt K a ns H1 r ∧ Tabs T H1, ?_, ?_⟩
    · refine ⟨⟨_, rfl⟩, _, rfl, S t, rfl, fun D hD => lc_it (walk_str (z := S t)) (fun i H2 => Same H1 H2 ∧ H2 D = some (.lst (((t.take i).map opp).map sg))) ⟨same_new hD, upd_same⟩ (fun _ _ _ _ => True.intro) ?_ ?_⟩
      · rintro i x H2 H3 hi ⟨sm, hL⟩ ⟨rfl, c, hc, rfl⟩
        rw [S_at] at hc
        have hcm := gt.2 c (List.mem_of_getElem? hc)
        refine ⟨rfl, fun d hd => ⟨upd_same, [(.inr "l", .str "r"), (.inr "r", .str "l"), (.inr "u", .str "d"), (.inr "d", .str "u")], rfl, by decide, _, rfl, d, sg (opp c), rfl, ?_, ((t.take i).map opp).map sg, ?_, ?_, ?_⟩⟩
        · have hc4 := of_decide_eq_true hcm
          simp only [List.mem_cons, List.not_mem_nil, or_false] at hc4
          refine .inl ⟨_, .inr (S [c]), .inl upd_same, rfl, ?_⟩
          rcases hc4 with rfl | rfl | rfl | rfl <;> decide +kernel
        · rw [upd_ne (ne_of_none hL hd), upd_ne (ne_of_none hL hd)]
          exact hL
        · rw [List.length_map, List.length_map, List.length_take]
          show _ < 16777216
          omega
        · have sd : Same H3 (upd (upd H3 d (.dK [])) d (.dK (mergeK [] [(.inr "l", .str "r"), (.inr "r", .str "l"), (.inr "u", .str "d"), (.inr "d", .str "u")]))) := fun b o e => by
            rw [upd_ne (ne_of_none e hd), upd_ne (ne_of_none e hd)]
            exact e
          refine ⟨same_put (sm.trans sd) hD, ?_⟩
          rw [upd_same, take_opp hc]
      · rintro H2 ⟨sm, hL⟩
        rw [S_size, List.take_length] at hL
        have gw := opp_good gt
        refine ⟨_, D, (t.map opp).map fun c => S [c], rfl, rfl, .inl ?_, ?_, ?_⟩
        · rw [List.map_map]
          exact SqL.of hL
        · rw [sum_ones, List.length_map]
          have := gw.1
          show _ + _ * 0 ≤ _
          omega
        · rw [join_signs]
          exact ⟨rfl, W1.same sm, V1.same sm, R1.same sm, T1.ext sm⟩
    clear R1 T1 W1 V1
    rintro σ H1 ⟨rfl, W1, V1, R1, T1⟩
    refine ⟨fun σ H1 => σ = [some (.ref a), some (.ref r), some (.str (S t)), some (.str (S u)), some (.ref p), some (.ref q), some (.int m), v7, v8, some (.str (S (t.map opp))), none, none, none, none] ∧ WordAt C H1 p t ∧ WordAt C H1 q u ∧ RowAt K a ns H1 r ∧ Tabs T H1, ?_, ?_⟩
    · obtain ⟨dp, hp⟩ := id W1
      refine ⟨_, rfl, p, dp, _, rfl, hp, p, t, rfl, W1, gt, fun H2 z s2 wz => ⟨_, rfl, z, t.map opp, rfl, wz, opp_good gt, T1.ext s2, fun H3 e3 T3 => ⟨true, rfl, iteF ?_⟩⟩⟩
      have e13 := (extN_same s2).trans e3
      have W3 := word_extN W1 e13
      obtain ⟨dp3, hp3⟩ := id W3
      refine ⟨_, rfl, S t, rfl, S_line (by omega), _, rfl, _, _, rfl, rfl, ?_, _, _, rfl, rfl, _, rfl, ?_⟩
      · exact .inr ⟨by omega, by omega⟩
      rw [S_len]
      by_cases hle : ((t.length : Nat) : Int) * (m : Int) ≤ 60
      · rw [decide_eq_true hle]
        have hmt : m * t.length ≤ 60 := by
          have e : ((t.length : Nat) : Int) * (m : Int) = ((m * t.length : Nat) : Int) := by rw [Int.natCast_mul, Int.mul_comm]
          rw [e] at hle
          omega
        have gr := rep_good gt hmt
        refine iteT ⟨_, rfl, _, rfl, .inl ⟨p, dp3, _, rfl, hp3, ?_, p, .int m, t, "int", false, true, rfl, W3, gt, kn_int _, .inl ⟨m, rfl, by omega, by omega, fun H4 z2 s4 _ wz2 => ?_, fun _ _ _ hf _ _ => no gr hf⟩⟩⟩
        · rintro x ⟨b, rfl⟩
          rfl
        refine ⟨_, rfl, _, rfl, t, m, rfl, rfl, by omega, by omega, ?_⟩
        refine ⟨z2, rep m t, rfl, wz2, gr, T3.ext s4, fun H5 e5 T5 => ⟨true, rfl, iteF ?_⟩⟩
        have e15 := (e13.trans (extN_same s4)).trans e5
        exact ⟨rfl, word_extN W1 e15, word_extN V1 e15, row_extN R1 e15, T5⟩
      · rw [decide_eq_false hle]
        exact iteF ⟨rfl, W3, word_extN V1 e13, row_extN R1 e13, T3⟩
    clear R1 T1 W1 V1
    rintro σ H1 ⟨rfl, W1, V1, R1, T1⟩
    refine ⟨fun σ H1 => σ = [some (.ref a), some (.ref r), some (.str (S t)), some (.str (S u)), some (.ref p), some (.ref q), some (.int m), v7, v8, some (.str (S (t.map opp))), none, none, none, none] ∧ WordAt C H1 p t ∧ WordAt C H1 q u ∧ RowAt K a ns H1 r ∧ Tabs T H1, ?_, ?_⟩
    · obtain ⟨dp, hp⟩ := id W1
      obtain ⟨dq, hq⟩ := id V1
      refine ⟨_, rfl, _, rfl, p, dp, _, rfl, hp, .inl ⟨q, dq, _, rfl, hq⟩, p, t, .ref q, rfl, W1, .inl ⟨q, u, rfl, V1, _, rfl, _, rfl, rfl, rfl, _, rfl, ?_⟩⟩
      rw [show decide (V.str (S t) = V.str (S u)) = decide (t = u) from Sd t u]
      rw [show (!decide (V.bl (decide (t = u)) = V.bl (decide (t = u)))) = false by simp]
      refine iteF ⟨_, rfl, _, rfl, p, dp, _, rfl, hp, .inr ⟨"str", ?_, L.nf⟩, p, t, .str (S t), rfl, W1, .inr ⟨S t, rfl, _, rfl, iteF ?_⟩⟩
      · rintro x ⟨b, rfl⟩
        rfl
      refine ⟨_, rfl, _, rfl, ?_⟩
      dsimp only [tNil]
      refine mk_word2 (H1 := H1) (t := t) (by omega) (fun H2 z s2 _ wz => ?_) (fun _ _ _ hf _ _ => no gt hf)
      obtain ⟨dz, hz⟩ := id wz
      refine ⟨p, dp, _, z, dz, _, rfl, rfl, s2 _ _ hp, hz, p, t, .ref z, rfl, ⟨dp, s2 _ _ hp⟩, .inl ⟨z, t, rfl, wz, _, rfl, _, rfl, ?_⟩⟩
      rw [decide_eq_true (p := t = t) rfl]
      exact iteF ⟨rfl, W1.same s2, V1.same s2, R1.same s2, T1.ext s2⟩
    clear R1 T1 W1 V1
    rintro σ H1 ⟨rfl, W1, V1, R1, T1⟩
    refine ⟨fun σ H1 => ∃ d : Nat, d ≤ t.length ∧ σ = [some (.ref a), some (.ref r), some (.str (S t)), some (.str (S u)), some (.ref p), some (.ref q), some (.int m), v7, v8, some (.str (S (t.map opp))), some (.int d), none, none, none] ∧ WordAt C H1 p t ∧ Tabs T H1, ?_, ?_⟩
    · refine ⟨_, rfl, _, rfl, S t, rfl, S_line (by omega), _, _, rfl, rfl, ?_⟩
      rw [S_len]
      refine ⟨r, _, rfl, R1, by omega, by omega, fun H2 d hd R2 b2 => ?_⟩
      exact ⟨d, by omega, rfl, word_row R1 W1 b2, tabs_row R1 T1 b2⟩
    clear R1 T1 W1 V1
    rintro σ H1 ⟨d, hd, rfl, W1, T1⟩
    refine ⟨fun σ H1 => ∃ v11, σ = [some (.ref a), some (.ref r), some (.str (S t)), some (.str (S u)), some (.ref p), some (.ref q), some (.int m), v7, v8, some (.str (S (t.map opp))), some (.int d), v11, none, none] ∧ WordAt C H1 p t ∧ Tabs T H1, ?_, ?_⟩
    · refine ⟨by show 4 ≤ sizeLine; decide, fun tp htp => ?_⟩
      have s1 := same_new (o := .tup [.str "x", .str "L", .str " ", .str "."]) htp
      refine ⟨tp, rfl, ⟨_, SqT.of upd_same⟩, for_tup (K := K) (a := tp) (xs := [.str "x", .str "L", .str " ", .str "."]) (fun i σ H3 => ∃ v11, σ = [some (.ref a), some (.ref r), some (.str (S t)), some (.str (S u)), some (.ref p), some (.ref q), some (.int m), v7, v8, some (.str (S (t.map opp))), some (.int d), v11, none, none] ∧ WordAt C H3 p t ∧ Tabs T H3 ∧ H3 tp = some (.tup [.str "x", .str "L", .str " ", .str "."]))
        ⟨none, rfl, W1.same s1, T1.ext s1, upd_same⟩ ?_ ?_ ?_⟩
      · rintro i σ H3 _ ⟨_, _, _, _, h3⟩
        exact SqT.of h3
      · rintro i x σ H3 hx ⟨v11, rfl, W3, T3, h3⟩
        obtain ⟨c, rfl, hc⟩ := bad_sg _ (List.mem_of_getElem? hx)
        refine ⟨T3, fun H7 e7 T7 => ?_⟩
        have hfw : Fw (t.take d ++ c :: t.drop d) (some d) := by
          have h := fw_in (t := t.take d) (r := t.drop d) (c := c) (by rw [List.length_take]; omega) (fun x hx => gt.2 x (List.mem_of_mem_take hx)) hc
          rwa [List.length_take, Nat.min_eq_left hd] at h
        have ecat : (S (t.take d) ++ (⟨#[c]⟩ : Str)) ++ S (t.drop d) = S (t.take d ++ c :: t.drop d) := by
          show Str.mk (((t.take d).toArray ++ #[c]) ++ (t.drop d).toArray) = _
          simp
        refine ⟨_, rfl, _, rfl, _, rfl, S t, rfl, S_line (by omega), ?_⟩
        rw [cut_lo hd]
        refine ⟨_, rfl, _, _, rfl, rfl, ?_, _, rfl, _, rfl, _, rfl, S t, rfl, S_line (by omega), ?_⟩
        · rw [S_len, List.length_take]
          show _ + 1 ≤ 16777216
          omega
        rw [cut_hi hd]
        refine ⟨_, _, rfl, rfl, ?_, ?_⟩
        · show (((t.take d).toArray ++ #[c]).size + (S (t.drop d)).length) ≤ 16777216
          rw [S_len, List.length_drop]
          simp
          omega
        rw [ecat]
        dsimp only [tNil]
        refine mk_word2 (H1 := H7) (t := t.take d ++ c :: t.drop d) (by simp; omega) (fun _ _ _ hf _ => by cases Fw.uniq hf hfw) (fun H8 dd i hf s8 hx8 => ?_)
        obtain rfl : i = d := Option.some.inj (Fw.uniq hf hfw)
        refine ⟨0, [("index", .int (i : Nat))], [.str "word", .int (i : Nat)], by decide, by rw [L.c0], (fun d2 z => by cases z; exact hx8), (fun _ z => nomatch z), rfl, fun H9 q1 s9 hq1 => ?_⟩
        refine ⟨_, rfl, by show 2 ≤ sizeLine; decide, fun q2 hq2 => ?_⟩
        have s10 := same_new (o := .tup [V.str "word", V.int (i : Nat)]) hq2
        refine ⟨_, _, .tup (SqT.of (s10 _ _ hq1)) (.cons (.str _) (.cons (.int _) .nil)), .tup (SqT.of upd_same) (.cons (.str _) (.cons (.int _) .nil)), word_shaped _, word_shaped _, _, rfl, ?_⟩
        rw [word_eqv]
        have e70 := (e7.trans (extN_same s8)).trans ((extN_same (show Same H8 H9 from s9)).trans (extN_same s10))
        exact iteF ⟨_, rfl, word_extN W3 e70, ((T7.ext s8).ext s9).ext s10, tup_extN h3 e70⟩
      · rintro σ H3 ⟨v11, rfl, W3, T3, _⟩
        exact ⟨v11, rfl, W3, T3⟩
    clear T1 W1
    rintro σ H1 ⟨v11, rfl, W1, T1⟩
    refine ⟨fun σ H1 => ∃ v11, σ = [some (.ref a), some (.ref r), some (.str (S t)), some (.str (S u)), some (.ref p), some (.ref q), some (.int m), v7, v8, some (.str (S (t.map opp))), some (.int d), v11, none, none] ∧ WordAt C H1 p t ∧ Tabs T H1, ?_, ?_⟩
    · refine ⟨by show 1 ≤ sizeLine; decide, fun a1 ha1 => ⟨by show 1 ≤ sizeLine; decide, fun a2 ha2 => ⟨by show 4 ≤ sizeLine; decide, fun tp htp => ?_⟩⟩⟩
      have s1 := same_new (o := .tup [V.str "l"]) ha1
      have s2 := same_new (o := .lst [V.str "l"]) ha2
      have s3 := same_new (o := .tup [.non, .int 5, .ref a1, .ref a2]) htp
      have s4 := (s1.trans s2).trans s3
      have i1 := s3 _ _ (s2 _ _ (show (upd H1 a1 (.tup [V.str "l"])) a1 = _ from upd_same))
      have i2 := s3 _ _ (show (upd (upd H1 a1 (.tup [V.str "l"])) a2 (.lst [V.str "l"])) a2 = _ from upd_same)
      refine ⟨tp, rfl, ⟨_, SqT.of upd_same⟩, for_tup (K := K) (a := tp) (xs := [.non, .int 5, .ref a1, .ref a2]) (fun i σ H3 => ∃ v11, σ = [some (.ref a), some (.ref r), some (.str (S t)), some (.str (S u)), some (.ref p), some (.ref q), some (.int m), v7, v8, some (.str (S (t.map opp))), some (.int d), v11, none, none] ∧ WordAt C H3 p t ∧ Tabs T H3 ∧ H3 tp = some (.tup [.non, .int 5, .ref a1, .ref a2]) ∧ H3 a1 = some (.tup [V.str "l"]) ∧ H3 a2 = some (.lst [V.str "l"]))
        ⟨_, rfl, W1.same s4, T1.ext s4, upd_same, i1, i2⟩ ?_ ?_ ?_⟩
      · rintro i σ H3 _ ⟨_, _, _, _, h3, _⟩
        exact SqT.of h3
      · rintro i x σ H3 hx ⟨v11, rfl, W3, T3, h3, j1, j2⟩
        refine ⟨T3, fun H7 e7 T7 => ?_⟩
        have k1 := tup_extN j1 e7
        have k2 : H7 a2 = some (.lst [V.str "l"]) := e7 _ _ j2 fun ps z => by cases z
        refine ⟨_, rfl, ?_⟩
        dsimp only [tNil]
        refine mk_wordN2 (H1 := H7) (fun H8 s8 => ?_) (fun H8 dd s8 hx8 => ?_)
        · match i with
          | 0 => cases hx; exact no_non
          | 1 => cases hx; exact no_int _
          | 2 => cases hx; exact ⟨"tuple", sq_ty (.tup (SqT.of (s8 _ _ k1))), by decide +kernel⟩
          | 3 => cases hx; exact ⟨"list", sq_ty (.lst (SqL.of (s8 _ _ k2))), by decide +kernel⟩
          | i + 4 => simp at hx
        refine ⟨0, [("index", .int 0)], [.str "word", .int 0], by decide, by rw [L.c0], (fun d2 z => by cases z; exact hx8), (fun _ z => nomatch z), rfl, fun H9 q1 s9 hq1 => ?_⟩
        refine ⟨by show 2 ≤ sizeLine; decide, fun q2 hq2 => ?_⟩
        have s10 := same_new (o := .tup [V.str "word", V.int 0]) hq2
        refine ⟨_, _, .tup (SqT.of (s10 _ _ hq1)) (.cons (.str _) (.cons (.int _) .nil)), .tup (SqT.of upd_same) (.cons (.str _) (.cons (.int _) .nil)), word_shaped _, word_shaped _, _, rfl, ?_⟩
        rw [word_eqv]
        have e70 := (e7.trans (extN_same s8)).trans ((extN_same (show Same H8 H9 from s9)).trans (extN_same s10))
        exact iteF ⟨_, rfl, word_extN W3 e70, ((T7.ext s8).ext s9).ext s10, tup_extN h3 e70, tup_extN j1 e70, e70 _ _ j2 fun ps z => by cases z⟩
      · rintro σ H3 ⟨v11, rfl, W3, T3, _⟩
        exact ⟨v11, rfl, W3, T3⟩
    clear T1 W1
    clear v11
    rintro σ H1 ⟨v11, rfl, W1, T1⟩
    refine ⟨fun σ H1 => ∃ v11, σ = [some (.ref a), some (.ref r), some (.str (S t)), some (.str (S u)), some (.ref p), some (.ref q), some (.int m), v7, v8, some (.str (S (t.map opp))), some (.int d), v11, none, none] ∧ Tabs T H1, ?_, ?_⟩
    · refine ⟨_, _, rfl, rfl, by show 4 ≤ sizeLine; decide, fun tp htp => ?_⟩
      have s1 := same_new (o := .tup [.int (0 - 1), .int 61, .non, .bl true]) htp
      refine ⟨tp, rfl, ⟨_, SqT.of upd_same⟩, for_tup (K := K) (a := tp) (xs := [.int (0 - 1), .int 61, .non, .bl true]) (fun i σ H3 => ∃ v11, σ = [some (.ref a), some (.ref r), some (.str (S t)), some (.str (S u)), some (.ref p), some (.ref q), some (.int m), v7, v8, some (.str (S (t.map opp))), some (.int d), v11, none, none] ∧ WordAt C H3 p t ∧ Tabs T H3 ∧ H3 tp = some (.tup [.int (0 - 1), .int 61, .non, .bl true]))
        ⟨_, rfl, W1.same s1, T1.ext s1, upd_same⟩ ?_ ?_ ?_⟩
      · rintro i σ H3 _ ⟨_, _, _, _, h3⟩
        exact SqT.of h3
      · rintro i x σ H3 hx ⟨v11, rfl, W3, T3, h3⟩
        refine ⟨T3, fun H7 e7 T7 => ?_⟩
        obtain ⟨ty, bb, bi, kn, hn, hty⟩ := bad_mul (K := K) (H := H7) x (List.mem_of_getElem? hx)
        obtain ⟨dy, hp7⟩ := word_extN W3 e7
        refine ⟨_, rfl, _, rfl, mul_or hp7 hty ⟨p, x, t, ty, bb, bi, rfl, ⟨dy, hp7⟩, gt, kn, .inr ⟨hn, ?_⟩⟩⟩
        refine ⟨4, [], [.str "number"], by decide, by rw [L.c4], (fun _ z => nomatch z), (fun z => absurd z (by decide)), rfl, fun H8 q1 s8 hq => ?_⟩
        refine ⟨by show 1 ≤ sizeLine; decide, fun q2 hq2 => ?_⟩
        have s9 := same_new (o := .tup [V.str "number"]) hq2
        refine ⟨_, _, .tup (SqT.of (s9 _ _ hq)) (.cons (.str _) .nil), .tup (SqT.of upd_same) (.cons (.str _) .nil), by decide +kernel, by decide +kernel, _, rfl, ?_⟩
        have s79 : Same H7 (upd H8 q2 (.tup [V.str "number"])) := Same.trans s8 s9
        have e79 := e7.trans (extN_same s79)
        exact iteF ⟨_, rfl, word_extN W3 e79, T7.ext s79, tup_extN h3 e79⟩
      · rintro σ H3 ⟨v11, rfl, W3, T3, _⟩
        exact ⟨v11, rfl, T3⟩
    clear T1 W1
    clear v11
    rintro σ H1 ⟨v11, rfl, T1⟩
    have glu : Good lu30 := rep_good lu_good (by decide)
    refine ⟨fun σ H1 => ∃ z, σ = [some (.ref a), some (.ref r), some (.str (S t)), some (.str (S u)), some (.ref p), some (.ref q), some (.int m), v7, v8, some (.str (S (t.map opp))), some (.int d), v11, some (.ref z), none] ∧ WordAt C H1 z lu30 ∧ Tabs T H1, ?_, ?_⟩
    · refine ⟨[108, 117], 30, rfl, rfl, by decide, by decide, ?_⟩
      dsimp only [tNil]
      refine mk_word2 (H1 := H1) (t := lu30) (by rw [lu_len]; decide) (fun H2 z s2 _ wz => ?_) (fun _ _ _ hf _ _ => no glu hf)
      exact ⟨z, rfl, wz, T1.ext s2⟩
    clear T1
    rintro σ H1 ⟨z, rfl, Z1, T1⟩
    refine ⟨fun σ H1 => σ = [some (.ref a), some (.ref r), some (.str (S t)), some (.str (S u)), some (.ref p), some (.ref q), some (.int m), v7, v8, some (.str (S (t.map opp))), some (.int d), v11, some (.ref z), none] ∧ WordAt C H1 z lu30 ∧ Tabs T H1, ?_, ?_⟩
    · refine ⟨T1, fun H7 e7 T7 => ?_⟩
      refine ⟨[108, 117], 30, rfl, rfl, by decide, by decide, _, _, rfl, rfl, ?_, ?_⟩
      · show (S lu30).length + 1 ≤ 16777216
        rw [S_len, lu_len]
        decide
      · have ecat : S lu30 ++ (Str.ofString "x") = S (lu30 ++ [120]) := by
          show Str.mk (lu30.toArray ++ #[120]) = _
          simp
        rw [show S (rep 30 [108, 117]) ++ Str.ofString "x" = S (lu30 ++ [120]) from ecat]
        dsimp only [tNil]
        have hfw : Fw (lu30 ++ [120]) (some 60) := fw_app glu lu_len (by simp)
        refine mk_word2 (H1 := H7) (t := lu30 ++ [120]) (by rw [List.length_append, lu_len]; decide) (fun _ _ _ hf _ => by cases Fw.uniq hf hfw) (fun H8 dd i hf s8 hx8 => ?_)
        obtain rfl : i = 60 := Option.some.inj (Fw.uniq hf hfw)
        refine ⟨0, [("index", .int (60 : Nat))], [.str "word", .int (60 : Nat)], by decide, by rw [L.c0], (fun d2 z => by cases z; exact hx8), (fun _ z => nomatch z), rfl, fun H9 q1 s9 hq1 => ?_⟩
        refine ⟨by show 2 ≤ sizeLine; decide, fun q2 hq2 => ?_⟩
        have s10 := same_new (o := .tup [V.str "word", V.int 60]) hq2
        refine ⟨_, _, .tup (SqT.of (s10 _ _ hq1)) (.cons (.str _) (.cons (.int _) .nil)), .tup (SqT.of upd_same) (.cons (.str _) (.cons (.int _) .nil)), word_shaped _, word_shaped _, _, rfl, ?_⟩
        rw [show PyData.eqv (.tuple [.str "word", .int ((60 : Nat) : Int)]) (.tuple [.str "word", .int 60]) = true from word_eqv 60]
        have e70 := (e7.trans (extN_same s8)).trans ((extN_same (show Same H8 H9 from s9)).trans (extN_same s10))
        exact iteF ⟨rfl, word_extN Z1 e70, ((T7.ext s8).ext s9).ext s10⟩
    clear T1 Z1
    rintro σ H1 ⟨rfl, Z1, T1⟩
    refine ⟨fun σ H1 => σ = [some (.ref a), some (.ref r), some (.str (S t)), some (.str (S u)), some (.ref p), some (.ref q), some (.int m), v7, v8, some (.str (S (t.map opp))), some (.int d), v11, some (.ref z), none] ∧ WordAt C H1 z lu30 ∧ Tabs T H1, ?_, ?_⟩
    · refine ⟨T1, fun H7 e7 T7 => ?_⟩
      refine ⟨_, rfl, ?_⟩
      dsimp only [tNil]
      refine mk_word2 (H1 := H7) (t := [108]) (by decide) (fun H6 y s6 _ wy => ?_) (fun _ _ _ hf _ _ => no l_good hf)
      · obtain ⟨dz, hz⟩ := (word_extN Z1 e7).same s6
        obtain ⟨dy, hy⟩ := id wy
        have hfw : Fw (lu30 ++ [108]) (some 60) := fw_app glu lu_len (by simp)
        refine ⟨z, dz, _, y, dy, _, rfl, rfl, hz, hy, z, y, lu30, [108], rfl, ⟨dz, hz⟩, wy, glu, l_good, fun _ _ _ hf _ => (by cases Fw.uniq hf hfw), fun H8 dd i hf s8 hx8 => ?_⟩
        obtain rfl : i = 60 := Option.some.inj (Fw.uniq hf hfw)
        refine ⟨0, [("index", .int (60 : Nat))], [.str "word", .int (60 : Nat)], by decide, by rw [L.c0], (fun d2 z => by cases z; exact hx8), (fun _ z => nomatch z), rfl, fun H9 q1 s9 hq1 => ?_⟩
        refine ⟨by show 2 ≤ sizeLine; decide, fun q2 hq2 => ?_⟩
        have s10 := same_new (o := .tup [V.str "word", V.int 60]) hq2
        refine ⟨_, _, .tup (SqT.of (s10 _ _ hq1)) (.cons (.str _) (.cons (.int _) .nil)), .tup (SqT.of upd_same) (.cons (.str _) (.cons (.int _) .nil)), word_shaped _, word_shaped _, _, rfl, ?_⟩
        rw [show PyData.eqv (.tuple [.str "word", .int ((60 : Nat) : Int)]) (.tuple [.str "word", .int 60]) = true from word_eqv 60]
        have e70 := (e7.trans (extN_same (s6.trans s8))).trans ((extN_same (show Same H8 H9 from s9)).trans (extN_same s10))
        exact iteF ⟨rfl, word_extN Z1 e70, ((T7.ext (s6.trans s8)).ext s9).ext s10⟩
    clear T1 Z1
    rintro σ H1 ⟨rfl, Z1, T1⟩
    refine ⟨T1, fun H7 e7 T7 => ?_⟩
    obtain ⟨dz, hz⟩ := word_extN Z1 e7
    have hl2 : (rep 2 lu30).length = 120 := by rw [rep_len, lu_len]
    have hfw : Fw (rep 2 lu30) (some 60) := by
      have e : rep 2 lu30 = lu30 ++ lu30 := by simp [rep, List.replicate]
      rw [e]
      exact fw_app glu lu_len (by intro z; have := lu_len; rw [z] at this; cases this)
    refine ⟨_, rfl, mul_or hz (.inl (ty_int _)) ⟨z, .int 2, lu30, "int", false, true, rfl, ⟨dz, hz⟩, glu, kn_int _, .inl ⟨2, rfl, by decide, by rw [lu_len]; decide, fun _ _ _ hf _ => (by cases Fw.uniq hf hfw), fun H8 dd i hf s8 hx8 => ?_⟩⟩⟩
    obtain rfl : i = 60 := Option.some.inj (Fw.uniq hf hfw)
    refine ⟨0, [("index", .int (60 : Nat))], [.str "word", .int (60 : Nat)], by decide, by rw [L.c0], (fun d2 z => by cases z; exact hx8), (fun _ z => nomatch z), rfl, fun H9 q1 s9 hq1 => ?_⟩
    refine ⟨by show 2 ≤ sizeLine; decide, fun q2 hq2 => ?_⟩
    have s10 := same_new (o := .tup [V.str "word", V.int 60]) hq2
    refine ⟨_, _, .tup (SqT.of (s10 _ _ hq1)) (.cons (.str _) (.cons (.int _) .nil)), .tup (SqT.of upd_same) (.cons (.str _) (.cons (.int _) .nil)), word_shaped _, word_shaped _, ?_⟩
    rw [show PyData.eqv (.tuple [.str "word", .int ((60 : Nat) : Int)]) (.tuple [.str "word", .int 60]) = true from word_eqv 60]
    refine ⟨true, rfl, iteT ?_⟩
    have hzz := s10 _ _ ((show Same H8 H9 from s9) _ _ (s8 _ _ hz))
    refine ⟨_, rfl, mul_or hzz (.inl (ty_int _)) ⟨z, .int 0, lu30, "int", false, true, rfl, ⟨dz, hzz⟩, glu, kn_int _, .inl ⟨0, rfl, by decide, by decide, fun H10 y s11 _ wy => ?_, fun _ _ _ hf _ _ => no (rep_good glu (by decide)) hf⟩⟩⟩
    obtain ⟨dy, hy⟩ := id wy
    refine ⟨y, dy, _, rfl, hy, y, rep 0 lu30, rfl, wy, rep_good glu (by decide), (rep 0 lu30).length, rfl, by rw [rep_len]; decide, rfl, ?_⟩
    rw [rep_len]
    refine ⟨true, rfl, iteT ?_⟩
    obtain ⟨mc, mu, cr, cv⟩ := CW.mx
    exact ⟨C, mc, _, mu, rfl, cr, cv, rfl, k _⟩
end
end TA
end
section
set_option Elab.async false
set_option maxRecDepth 100000
set_option linter.all false
namespace TA
open PySem PySem.Spec PyProof.Rows L2 LamX TX TK TM TB
def ceF (a0 a1 a2 a3 a4 a5 : Addr) : Nat → Addr
  | 0 => a0
  | 1 => a1
  | 2 => a2
  | 3 => a3
  | 4 => a4
  | _ => a5
theorem six_two {p : Nat → Nat → Prop} (h0 : ∀ k, k < 6 → p 0 k) (h1 : ∀ k, k < 6 → p 1 k) (h2 : ∀ k, k < 6 → p 2 k) (h3 : ∀ k, k < 6 → p 3 k) (h4 : ∀ k, k < 6 → p 4 k) (h5 : ∀ k, k < 6 → p 5 k) : ∀ j k, j < 6 → k < 6 → p j k := fun j k hj hk => six_all (p := fun j => ∀ k, k < 6 → p j k) h0 h1 h2 h3 h4 h5 j hj k hk
theorem raw0 {P : Program} {w : World} {K : PySem.W.Frag} {mg : Str → Option Value} {base : Heap} {CX : CXT} {k : Nat} {f : Addr} {fd : FuncData} {ps : List Str} {sp : Sp} (F : FnOk P w K mg base CX k f fd ps sp) (b : Binds K fd ps []) : FnR P w K mg base CX k f sp := (F.raw b .nil).imp fun vs H Q E h => by rw [List.append_nil]; exact h
set_option maxHeartbeats 1000000
theorem all_mk {P : Program} {w : World} {K : PySem.W.Frag} {h : Heap} {mg : Str → Option Value} {fa : Addr} {C e0 e1 e2 e3 e4 e5 eT aO fIx cc cdIx cdIw cdLw PIw PLw N0 qWt qWc fNu fIt fFw fLa fWi fWt fWc fLe fGi fCo fAd fMu fNg fWe fTk fAl fRa fTx fLc fIw fLw : Addr} {tAR tAC tMT tMX tl tr tu td tfX : Tok} {zAR zAC zl zr zu zd fileX nm0 q0 : Str} {iMT iMX : Int} {foi roi fon ron fob rob : Option Value} {rWt rWc bs0 bm0 sub0 : List Value} {sn0 : List Str} {ab0 : Bool} {col0 : Option Bool} {dd0 : Option Addr} {m0 m1 m2 m3 m5 : Option Value} {esO : Array DictEntry} {nO : Nat}
    {odNu anNu odIt anIt odFw anFw odLa anLa odWi anWi odWt anWt odWc anWc odLe anLe odGi anGi odCo anCo odAd anAd odMu anMu odNg anNg odWe anWe odTk anTk odAl anAl odRa anRa odTx anTx odLc anLc odIw anIw odLw anLw odIx anIx cdd cld0 od2Iw od2Lw : Option Addr} {slNu slIt slFw slLa slWi slWt slWc slLe slGi slCo slAd slMu slNg slWe slTk slAl slRa slTx slLc slIw slLw slIx ccs csl0 sl2Iw sl2Lw : Array (Option Value)} {vsx vsIw vsLw : Array Value} {ocNu kVNu dcNu pmNu ctNu ocIt kVIt dcIt pmIt ctIt ocFw kVFw dcFw pmFw ctFw ocLa kVLa dcLa pmLa ctLa ocWi kVWi dcWi pmWi ctWi ocWt kVWt dcWt pmWt ctWt ocWc kVWc dcWc pmWc ctWc ocLe kVLe dcLe pmLe ctLe ocGi kVGi dcGi pmGi ctGi ocCo kVCo dcCo pmCo ctCo ocAd kVAd dcAd pmAd ctAd ocMu kVMu dcMu pmMu ctMu ocNg kVNg dcNg pmNg ctNg ocWe kVWe dcWe pmWe ctWe ocTk kVTk dcTk pmTk ctTk ocAl kVAl dcAl pmAl ctAl ocRa kVRa dcRa pmRa ctRa ocTx kVTx dcTx pmTx ctTx ocLc kVLc dcLc pmLc ctLc ocIw kVIw dcIw pmIw ctIw ocLw kVLw dcLw pmLw ctLw cdNu cdIt cdFw cdLa cdWi cdWt cdWc cdLe cdGi cdCo cdAd cdMu cdNg cdWe cdTk cdAl cdRa cdTx cdLc ocIx kVIx dcIx pmIx ctIx ccl cl0 : Value}
    (X : K.In h) (G : h.Ns mainGlobals mg) (hfa : mg "law" = some (.ref fa))
    (aC : PySem.W.nsIn K mainGlobals "Word" = some (some (.ref C)))
    (ge0 : PySem.W.nsIn K mainGlobals "InvalidWord" = some (some (.ref e0)))
    (ge1 : PySem.W.nsIn K mainGlobals "InvalidTray" = some (some (.ref e1)))
    (ge2 : PySem.W.nsIn K mainGlobals "UnknownMarble" = some (some (.ref e2)))
    (ge3 : PySem.W.nsIn K mainGlobals "InvalidPlace" = some (some (.ref e3)))
    (ge4 : PySem.W.nsIn K mainGlobals "InvalidNumber" = some (some (.ref e4)))
    (ge5 : PySem.W.nsIn K mainGlobals "SameMarble" = some (some (.ref e5)))
    (geT : PySem.W.nsIn K mainGlobals "TrayError" = some (some (.ref eT)))
    (cAR : PySem.W.nsIn K mainGlobals "ALONG_ROWS" = some (some (.str zAR tAR)))
    (cAC : PySem.W.nsIn K mainGlobals "ALONG_COLUMNS" = some (some (.str zAC tAC)))
    (cMT : PySem.W.nsIn K mainGlobals "MAX_TIMES" = some (some (.int iMT tMT)))
    (cOP : PySem.W.nsIn K mainGlobals "OPPOSITES" = some (some (.ref aO)))
    (b_len : PySem.W.nsIn K mainGlobals "len" = some (none))
    (b_isinstance : PySem.W.nsIn K mainGlobals "isinstance" = some (none))
    (b_str : PySem.W.nsIn K mainGlobals "str" = some (none))
    (b_enumerate : PySem.W.nsIn K mainGlobals "enumerate" = some (none))
    (b_tuple : PySem.W.nsIn K mainGlobals "tuple" = some (none))
    (b_list : PySem.W.nsIn K mainGlobals "list" = some (none))
    (b_bool : PySem.W.nsIn K mainGlobals "bool" = some (none))
    (b_int : PySem.W.nsIn K mainGlobals "int" = some (none))
    (b_range : PySem.W.nsIn K mainGlobals "range" = some (none))
    (b_min : PySem.W.nsIn K mainGlobals "min" = some (none))
    (b_super : PySem.W.nsIn K mainGlobals "super" = some (none))
    (b_ValueError : PySem.W.nsIn K mainGlobals "ValueError" = some (none))
    (pgC : PySem.W.plainGet K C Str.empty = true)
    (hdC : PySem.W.hasDictIn K C = true)
    (poC : PySem.W.plainOver K C = true)
    (saC : PySem.W.findIn K (.ref C) "__setattr__" = some (some (.builtin "object.__setattr__")))
    (mkC : PySem.W.makesIn K C = true)
    (kcC : PySem.W.keepIn K (.ref C) = true)
    (rdC : PySem.W.readsIn K C (.type "type") = true)
    (gaC : PySem.W.specialIn K (.ref C) "__getattribute__" = some (some (.builtin "type.__getattribute__")))
    (nT : PySem.W.findIn K (.ref C) "_text" = some none)
    (ih : PySem.W.findIn K (.ref C) "__class__" = some (some (.builtin "object.__class__")))
    (in_ : PySem.W.specialIn K (.builtin "object.__class__") "__get__" = some (some (.builtin "getset_descriptor.__get__")))
    (itk : PySem.W.takesIn K (.builtin "object.__class__") = some true)
    (im : PySem.W.mroIn K C (.type "object") = some true)
    (mx : PySem.W.findCls K (.ref C) (.type "type") "MAX_TILTS" = some (.val (.int iMX tMX)))
    (sfC : PySem.W.selfFirst K C = true)
    (nfC : PySem.W.notFirst K C (.type "str") = true)
    (neC : PySem.W.findIn K (.ref C) "__ne__" = some (some (.builtin "object.__ne__")))
    (ksC : PySem.W.kitOne K (.type "str") (.ref C) = some false)
    (rmC : PySem.W.findIn K (.ref C) "__rmul__" = some none)
    (fi : PySem.W.findIn K (.type "int") "__mul__" = some foi)
    (ri : PySem.W.findIn K (.type "int") "__rmul__" = some roi)
    (si : PySem.W.subIn K (.type "int") (.ref C) = some false)
    (fn : PySem.W.findIn K (.type "NoneType") "__mul__" = some fon)
    (rn : PySem.W.findIn K (.type "NoneType") "__rmul__" = some ron)
    (sn : PySem.W.subIn K (.type "NoneType") (.ref C) = some false)
    (fb : PySem.W.findIn K (.type "bool") "__mul__" = some fob)
    (rb : PySem.W.findIn K (.type "bool") "__rmul__" = some rob)
    (sb : PySem.W.subIn K (.type "bool") (.ref C) = some false)
    (aNu : PySem.W.nsIn K mainGlobals "is_number" = some (some (.ref fNu)))
    (lNu : K.lookup fNu = some ⟨ocNu, odNu, .func (PySem.W.fnOf "is_number" "is_number" (defArgs sIsNumber) (defBody sIsNumber) (defScope sIsNumber) .none kVNu dcNu pmNu anNu cdNu ctNu), slNu⟩)
    (cNu : PySem.W.codeIn K cdNu "is_number" = true)
    (kNu : PySem.W.keepIn K (.ref fNu) = true)
    (aIt : PySem.W.nsIn K mainGlobals "is_tilt" = some (some (.ref fIt)))
    (lIt : K.lookup fIt = some ⟨ocIt, odIt, .func (PySem.W.fnOf "is_tilt" "is_tilt" (defArgs sIsTilt) (defBody sIsTilt) (defScope sIsTilt) .none kVIt dcIt pmIt anIt cdIt ctIt), slIt⟩)
    (cIt : PySem.W.codeIn K cdIt "is_tilt" = true)
    (kIt : PySem.W.keepIn K (.ref fIt) = true)
    (aFw : PySem.W.nsIn K mainGlobals "_first_wrong_index" = some (some (.ref fFw)))
    (lFw : K.lookup fFw = some ⟨ocFw, odFw, .func (PySem.W.fnOf "_first_wrong_index" "_first_wrong_index" (defArgs sFirstWrongIndex) (defBody sFirstWrongIndex) (defScope sFirstWrongIndex) .none kVFw dcFw pmFw anFw cdFw ctFw), slFw⟩)
    (cFw : PySem.W.codeIn K cdFw "_first_wrong_index" = true)
    (kFw : PySem.W.keepIn K (.ref fFw) = true)
    (aLa : PySem.W.nsIn K mainGlobals "_last_along" = some (some (.ref fLa)))
    (lLa : K.lookup fLa = some ⟨ocLa, odLa, .func (PySem.W.fnOf "_last_along" "_last_along" (defArgs sLastAlong) (defBody sLastAlong) (defScope sLastAlong) .none kVLa dcLa pmLa anLa cdLa ctLa), slLa⟩)
    (cLa : PySem.W.codeIn K cdLa "_last_along" = true)
    (kLa : PySem.W.keepIn K (.ref fLa) = true)
    (aWi : PySem.W.findIn K (.ref C) "__init__" = some (some (.ref fWi)))
    (iWi : PySem.W.isFn K (.ref fWi) = true)
    (lWi : K.lookup fWi = some ⟨ocWi, odWi, .func (PySem.W.fnOf "__init__" "Word.__init__" (defArgs sWordInit) (defBody sWordInit) (defScope sWordInit) .none kVWi dcWi pmWi anWi cdWi ctWi), slWi⟩)
    (cWi : PySem.W.codeIn K cdWi "Word.__init__" = true)
    (kWi : PySem.W.keepIn K (.ref fWi) = true)
    (pWt : PySem.W.findIn K (.ref C) "text" = some (some (.ref qWt)))
    (pgtWt : PySem.W.specialIn K (.ref qWt) "__get__" = some (some (.builtin "property.__get__")))
    (ptkWt : PySem.W.takesIn K (.ref qWt) = some true)
    (aWt : PySem.W.recIn K qWt "property" = some (.ref fWt :: rWt))
    (lWt : K.lookup fWt = some ⟨ocWt, odWt, .func (PySem.W.fnOf "text" "Word.text" (defArgs sWordText) (defBody sWordText) (defScope sWordText) .none kVWt dcWt pmWt anWt cdWt ctWt), slWt⟩)
    (cWt : PySem.W.codeIn K cdWt "Word.text" = true)
    (kWt : PySem.W.keepIn K (.ref fWt) = true)
    (pWc : PySem.W.findIn K (.ref C) "corner" = some (some (.ref qWc)))
    (pgtWc : PySem.W.specialIn K (.ref qWc) "__get__" = some (some (.builtin "property.__get__")))
    (ptkWc : PySem.W.takesIn K (.ref qWc) = some true)
    (aWc : PySem.W.recIn K qWc "property" = some (.ref fWc :: rWc))
    (lWc : K.lookup fWc = some ⟨ocWc, odWc, .func (PySem.W.fnOf "corner" "Word.corner" (defArgs sWordCorner) (defBody sWordCorner) (defScope sWordCorner) .none kVWc dcWc pmWc anWc cdWc ctWc), slWc⟩)
    (cWc : PySem.W.codeIn K cdWc "Word.corner" = true)
    (kWc : PySem.W.keepIn K (.ref fWc) = true)
    (aLe : PySem.W.findIn K (.ref C) "__len__" = some (some (.ref fLe)))
    (iLe : PySem.W.isFn K (.ref fLe) = true)
    (lLe : K.lookup fLe = some ⟨ocLe, odLe, .func (PySem.W.fnOf "__len__" "Word.__len__" (defArgs sWordLen) (defBody sWordLen) (defScope sWordLen) .none kVLe dcLe pmLe anLe cdLe ctLe), slLe⟩)
    (cLe : PySem.W.codeIn K cdLe "Word.__len__" = true)
    (kLe : PySem.W.keepIn K (.ref fLe) = true)
    (aGi : PySem.W.findIn K (.ref C) "__getitem__" = some (some (.ref fGi)))
    (iGi : PySem.W.isFn K (.ref fGi) = true)
    (lGi : K.lookup fGi = some ⟨ocGi, odGi, .func (PySem.W.fnOf "__getitem__" "Word.__getitem__" (defArgs sWordGetitem) (defBody sWordGetitem) (defScope sWordGetitem) .none kVGi dcGi pmGi anGi cdGi ctGi), slGi⟩)
    (cGi : PySem.W.codeIn K cdGi "Word.__getitem__" = true)
    (kGi : PySem.W.keepIn K (.ref fGi) = true)
    (aCo : PySem.W.findIn K (.ref C) "__contains__" = some (some (.ref fCo)))
    (iCo : PySem.W.isFn K (.ref fCo) = true)
    (lCo : K.lookup fCo = some ⟨ocCo, odCo, .func (PySem.W.fnOf "__contains__" "Word.__contains__" (defArgs sWordContains) (defBody sWordContains) (defScope sWordContains) .none kVCo dcCo pmCo anCo cdCo ctCo), slCo⟩)
    (cCo : PySem.W.codeIn K cdCo "Word.__contains__" = true)
    (kCo : PySem.W.keepIn K (.ref fCo) = true)
    (aAd : PySem.W.findIn K (.ref C) "__add__" = some (some (.ref fAd)))
    (iAd : PySem.W.isFn K (.ref fAd) = true)
    (lAd : K.lookup fAd = some ⟨ocAd, odAd, .func (PySem.W.fnOf "__add__" "Word.__add__" (defArgs sWordAdd) (defBody sWordAdd) (defScope sWordAdd) .none kVAd dcAd pmAd anAd cdAd ctAd), slAd⟩)
    (cAd : PySem.W.codeIn K cdAd "Word.__add__" = true)
    (kAd : PySem.W.keepIn K (.ref fAd) = true)
    (aMu : PySem.W.findIn K (.ref C) "__mul__" = some (some (.ref fMu)))
    (iMu : PySem.W.isFn K (.ref fMu) = true)
    (lMu : K.lookup fMu = some ⟨ocMu, odMu, .func (PySem.W.fnOf "__mul__" "Word.__mul__" (defArgs sWordMul) (defBody sWordMul) (defScope sWordMul) .none kVMu dcMu pmMu anMu cdMu ctMu), slMu⟩)
    (cMu : PySem.W.codeIn K cdMu "Word.__mul__" = true)
    (kMu : PySem.W.keepIn K (.ref fMu) = true)
    (aNg : PySem.W.findIn K (.ref C) "__neg__" = some (some (.ref fNg)))
    (iNg : PySem.W.isFn K (.ref fNg) = true)
    (lNg : K.lookup fNg = some ⟨ocNg, odNg, .func (PySem.W.fnOf "__neg__" "Word.__neg__" (defArgs sWordNeg) (defBody sWordNeg) (defScope sWordNeg) .none kVNg dcNg pmNg anNg cdNg ctNg), slNg⟩)
    (cNg : PySem.W.codeIn K cdNg "Word.__neg__" = true)
    (kNg : PySem.W.keepIn K (.ref fNg) = true)
    (aWe : PySem.W.findIn K (.ref C) "__eq__" = some (some (.ref fWe)))
    (iWe : PySem.W.isFn K (.ref fWe) = true)
    (lWe : K.lookup fWe = some ⟨ocWe, odWe, .func (PySem.W.fnOf "__eq__" "Word.__eq__" (defArgs sWordEq) (defBody sWordEq) (defScope sWordEq) .none kVWe dcWe pmWe anWe cdWe ctWe), slWe⟩)
    (cWe : PySem.W.codeIn K cdWe "Word.__eq__" = true)
    (kWe : PySem.W.keepIn K (.ref fWe) = true)
    (aTk : PySem.W.nsIn K mainGlobals "_law_taken" = some (some (.ref fTk)))
    (lTk : K.lookup fTk = some ⟨ocTk, odTk, .func (PySem.W.fnOf "_law_taken" "_law_taken" (defArgs sLawTaken) (defBody sLawTaken) (defScope sLawTaken) .none kVTk dcTk pmTk anTk cdTk ctTk), slTk⟩)
    (cTk : PySem.W.codeIn K cdTk "_law_taken" = true)
    (kTk : PySem.W.keepIn K (.ref fTk) = true)
    (aAl : PySem.W.nsIn K mainGlobals "_law_alike" = some (some (.ref fAl)))
    (lAl : K.lookup fAl = some ⟨ocAl, odAl, .func (PySem.W.fnOf "_law_alike" "_law_alike" (defArgs sLawAlike) (defBody sLawAlike) (defScope sLawAlike) .none kVAl dcAl pmAl anAl cdAl ctAl), slAl⟩)
    (cAl : PySem.W.codeIn K cdAl "_law_alike" = true)
    (kAl : PySem.W.keepIn K (.ref fAl) = true)
    (aRa : PySem.W.nsIn K mainGlobals "_law_raised" = some (some (.ref fRa)))
    (lRa : K.lookup fRa = some ⟨ocRa, odRa, .func (PySem.W.fnOf "_law_raised" "_law_raised" (defArgs sLawRaised) (defBody sLawRaised) (defScope sLawRaised) .none kVRa dcRa pmRa anRa cdRa ctRa), slRa⟩)
    (cRa : PySem.W.codeIn K cdRa "_law_raised" = true)
    (kRa : PySem.W.keepIn K (.ref fRa) = true)
    (aTx : PySem.W.nsIn K mainGlobals "_law_text" = some (some (.ref fTx)))
    (lTx : K.lookup fTx = some ⟨ocTx, odTx, .func (PySem.W.fnOf "_law_text" "_law_text" (defArgs sLawText) (defBody sLawText) (defScope sLawText) .none kVTx dcTx pmTx anTx cdTx ctTx), slTx⟩)
    (cTx : PySem.W.codeIn K cdTx "_law_text" = true)
    (kTx : PySem.W.keepIn K (.ref fTx) = true)
    (aLc : PySem.W.nsIn K mainGlobals "_law_corner" = some (some (.ref fLc)))
    (lLc : K.lookup fLc = some ⟨ocLc, odLc, .func (PySem.W.fnOf "_law_corner" "_law_corner" (defArgs sLawCorner) (defBody sLawCorner) (defScope sLawCorner) .none kVLc dcLc pmLc anLc cdLc ctLc), slLc⟩)
    (cLc : PySem.W.codeIn K cdLc "_law_corner" = true)
    (kLc : PySem.W.keepIn K (.ref fLc) = true)
    (aIw : PySem.W.nsIn K mainGlobals "_law_is_word" = some (some (.ref fIw)))
    (lIw : K.lookup fIw = some ⟨ocIw, odIw, .func (PySem.W.fnOf "_law_is_word" "_law_is_word" (defArgs sLawIsWord) (defBody sLawIsWord) (defScope sLawIsWord) .none kVIw dcIw pmIw anIw (.ref cdIw) ctIw), slIw⟩)
    (cIw : PySem.W.codeIn K (.ref cdIw) "_law_is_word" = true)
    (kIw : PySem.W.keepIn K (.ref fIw) = true)
    (aLw : PySem.W.nsIn K mainGlobals "law" = some (some (.ref fLw)))
    (lLw : K.lookup fLw = some ⟨ocLw, odLw, .func (PySem.W.fnOf "law" "law" (defArgs sLaw) (defBody sLaw) (defScope sLaw) .none kVLw dcLw pmLw anLw (.ref cdLw) ctLw), slLw⟩)
    (cLw : PySem.W.codeIn K (.ref cdLw) "law" = true)
    (kLw : PySem.W.keepIn K (.ref fLw) = true)
    (fnGi : PySem.W.fnIn K fGi = true)
    (xL : K.lookup e0 = some (excClassObj nm0 q0 e0 N0 bs0 bm0 true sn0 sub0 ab0 col0 dd0 m0 m1 m2 m3 m5 "ValueError.__new__"))
    (xb : PySem.HandSPX.refsVE bm0 = true)
    (xsa : PySem.W.findIn K (.ref e0) "__setattr__" = some (some (.builtin "object.__setattr__")))
    (xex : PySem.W.subIn K (.ref e0) (.type "BaseException") = some true)
    (xty : PySem.W.typeIn K (.ref e0) = some (.type "type"))
    (xk : PySem.W.keepIn K (.ref e0) = true)
    (aIx : PySem.W.findIn K (.ref e0) "__init__" = some (some (.ref fIx)))
    (tIx : PySem.W.typeIn K (.ref fIx) = some (.type "function"))
    (lIx : K.lookup fIx = some ⟨ocIx, odIx, .func (PySem.W.fnX "__init__" "InvalidWord.__init__" (defArgs sInvalidWordInit) (defBody sInvalidWordInit) (defScope sInvalidWordInit) [("__class__", cc)] .none kVIx dcIx pmIx anIx (.ref cdIx) ctIx), slIx⟩)
    (cIx : PySem.W.codeIn K (.ref cdIx) "InvalidWord.__init__" = true)
    (kx1 : K.lookup cdIx = some ⟨ccl, cdd, .fields vsx, ccs⟩)
    (kx2 : vsx[2]? = some (.str fileX tfX))
    (kx3 : ((P.main.file : Str) == fileX) = true)
    (kx4 : K.lookup cc = some ⟨cl0, cld0, .cell (some (.ref e0)), csl0⟩)
    (kx5 : PySem.W.mroIn K e0 (.ref e0) = some true)
    (kx6 : PySem.W.ks_superIn K e0 e0 "__init__" = some (some (.builtin "ValueError.__init__")))
    (kx7 : PySem.W.subIn K (.ref e0) (.type "ValueError") = some true)
    (kx8 : PySem.W.nsIn K cStatics "thirdparty.any" = some none)
    (kx9 : (P.main.scope.names.lookup ("super" : Str)).isSome = false)
    (nI0 : PySem.W.findIn K (.ref e0) "index" = some none)
    (nI1 : PySem.W.findIn K (.ref e1) "row" = some none)
    (nI2 : PySem.W.findIn K (.ref e1) "column" = some none)
    (nI3 : PySem.W.findIn K (.ref e2) "marble" = some none)
    (hg0 : PySem.W.findIn K (.ref e0) "__getattribute__" = some (some (.builtin "BaseException.__getattribute__")))
    (hk0 : PySem.W.findIn K (.ref e0) "__getattr__" = some none)
    (hs0 : PySem.W.subIn K (.ref e0) (.type "BaseException") = some true)
    (hd0 : PySem.W.hasDictIn K e0 = true)
    (ha0 : PySem.W.findIn K (.ref e0) "__class__" = some (some (.builtin "object.__class__")))
    (hm0 : PySem.W.mroIn K e0 (.type "object") = some true)
    (hv0 : PySem.W.kitOne K (.ref e0) (.type "ValueError") = some true)
    (ht0 : PySem.W.exmOne K (.ref e0) (.ref eT) = some true)
    (o00 : PySem.W.kitOne K (.ref e0) (.ref e0) = some true)
    (o01 : PySem.W.kitOne K (.ref e0) (.ref e1) = some false)
    (o02 : PySem.W.kitOne K (.ref e0) (.ref e2) = some false)
    (o03 : PySem.W.kitOne K (.ref e0) (.ref e3) = some false)
    (o04 : PySem.W.kitOne K (.ref e0) (.ref e4) = some false)
    (o05 : PySem.W.kitOne K (.ref e0) (.ref e5) = some false)
    (hg1 : PySem.W.findIn K (.ref e1) "__getattribute__" = some (some (.builtin "BaseException.__getattribute__")))
    (hk1 : PySem.W.findIn K (.ref e1) "__getattr__" = some none)
    (hs1 : PySem.W.subIn K (.ref e1) (.type "BaseException") = some true)
    (hd1 : PySem.W.hasDictIn K e1 = true)
    (ha1 : PySem.W.findIn K (.ref e1) "__class__" = some (some (.builtin "object.__class__")))
    (hm1 : PySem.W.mroIn K e1 (.type "object") = some true)
    (hv1 : PySem.W.kitOne K (.ref e1) (.type "ValueError") = some true)
    (ht1 : PySem.W.exmOne K (.ref e1) (.ref eT) = some true)
    (o10 : PySem.W.kitOne K (.ref e1) (.ref e0) = some false)
    (o11 : PySem.W.kitOne K (.ref e1) (.ref e1) = some true)
    (o12 : PySem.W.kitOne K (.ref e1) (.ref e2) = some false)
    (o13 : PySem.W.kitOne K (.ref e1) (.ref e3) = some false)
    (o14 : PySem.W.kitOne K (.ref e1) (.ref e4) = some false)
    (o15 : PySem.W.kitOne K (.ref e1) (.ref e5) = some false)
    (hg2 : PySem.W.findIn K (.ref e2) "__getattribute__" = some (some (.builtin "BaseException.__getattribute__")))
    (hk2 : PySem.W.findIn K (.ref e2) "__getattr__" = some none)
    (hs2 : PySem.W.subIn K (.ref e2) (.type "BaseException") = some true)
    (hd2 : PySem.W.hasDictIn K e2 = true)
    (ha2 : PySem.W.findIn K (.ref e2) "__class__" = some (some (.builtin "object.__class__")))
    (hm2 : PySem.W.mroIn K e2 (.type "object") = some true)
    (hv2 : PySem.W.kitOne K (.ref e2) (.type "ValueError") = some true)
    (ht2 : PySem.W.exmOne K (.ref e2) (.ref eT) = some true)
    (o20 : PySem.W.kitOne K (.ref e2) (.ref e0) = some false)
    (o21 : PySem.W.kitOne K (.ref e2) (.ref e1) = some false)
    (o22 : PySem.W.kitOne K (.ref e2) (.ref e2) = some true)
    (o23 : PySem.W.kitOne K (.ref e2) (.ref e3) = some false)
    (o24 : PySem.W.kitOne K (.ref e2) (.ref e4) = some false)
    (o25 : PySem.W.kitOne K (.ref e2) (.ref e5) = some false)
    (hg3 : PySem.W.findIn K (.ref e3) "__getattribute__" = some (some (.builtin "BaseException.__getattribute__")))
    (hk3 : PySem.W.findIn K (.ref e3) "__getattr__" = some none)
    (hs3 : PySem.W.subIn K (.ref e3) (.type "BaseException") = some true)
    (hd3 : PySem.W.hasDictIn K e3 = true)
    (ha3 : PySem.W.findIn K (.ref e3) "__class__" = some (some (.builtin "object.__class__")))
    (hm3 : PySem.W.mroIn K e3 (.type "object") = some true)
    (hv3 : PySem.W.kitOne K (.ref e3) (.type "ValueError") = some true)
    (ht3 : PySem.W.exmOne K (.ref e3) (.ref eT) = some true)
    (o30 : PySem.W.kitOne K (.ref e3) (.ref e0) = some false)
    (o31 : PySem.W.kitOne K (.ref e3) (.ref e1) = some false)
    (o32 : PySem.W.kitOne K (.ref e3) (.ref e2) = some false)
    (o33 : PySem.W.kitOne K (.ref e3) (.ref e3) = some true)
    (o34 : PySem.W.kitOne K (.ref e3) (.ref e4) = some false)
    (o35 : PySem.W.kitOne K (.ref e3) (.ref e5) = some false)
    (hg4 : PySem.W.findIn K (.ref e4) "__getattribute__" = some (some (.builtin "BaseException.__getattribute__")))
    (hk4 : PySem.W.findIn K (.ref e4) "__getattr__" = some none)
    (hs4 : PySem.W.subIn K (.ref e4) (.type "BaseException") = some true)
    (hd4 : PySem.W.hasDictIn K e4 = true)
    (ha4 : PySem.W.findIn K (.ref e4) "__class__" = some (some (.builtin "object.__class__")))
    (hm4 : PySem.W.mroIn K e4 (.type "object") = some true)
    (hv4 : PySem.W.kitOne K (.ref e4) (.type "ValueError") = some true)
    (ht4 : PySem.W.exmOne K (.ref e4) (.ref eT) = some true)
    (o40 : PySem.W.kitOne K (.ref e4) (.ref e0) = some false)
    (o41 : PySem.W.kitOne K (.ref e4) (.ref e1) = some false)
    (o42 : PySem.W.kitOne K (.ref e4) (.ref e2) = some false)
    (o43 : PySem.W.kitOne K (.ref e4) (.ref e3) = some false)
    (o44 : PySem.W.kitOne K (.ref e4) (.ref e4) = some true)
    (o45 : PySem.W.kitOne K (.ref e4) (.ref e5) = some false)
    (hg5 : PySem.W.findIn K (.ref e5) "__getattribute__" = some (some (.builtin "BaseException.__getattribute__")))
    (hk5 : PySem.W.findIn K (.ref e5) "__getattr__" = some none)
    (hs5 : PySem.W.subIn K (.ref e5) (.type "BaseException") = some true)
    (hd5 : PySem.W.hasDictIn K e5 = true)
    (ha5 : PySem.W.findIn K (.ref e5) "__class__" = some (some (.builtin "object.__class__")))
    (hm5 : PySem.W.mroIn K e5 (.type "object") = some true)
    (hv5 : PySem.W.kitOne K (.ref e5) (.type "ValueError") = some true)
    (ht5 : PySem.W.exmOne K (.ref e5) (.ref eT) = some true)
    (o50 : PySem.W.kitOne K (.ref e5) (.ref e0) = some false)
    (o51 : PySem.W.kitOne K (.ref e5) (.ref e1) = some false)
    (o52 : PySem.W.kitOne K (.ref e5) (.ref e2) = some false)
    (o53 : PySem.W.kitOne K (.ref e5) (.ref e3) = some false)
    (o54 : PySem.W.kitOne K (.ref e5) (.ref e4) = some false)
    (o55 : PySem.W.kitOne K (.ref e5) (.ref e5) = some true)
    (q4 : PySem.W.excIn K e4 [.type "ValueError", .type "Exception", .type "BaseException", .type "object"] "ValueError.__new__" = true)
    (k4 : PySem.W.keepIn K (.ref e4) = true)
    (t4 : PySem.W.typeIn K (.ref e4) = some (.type "type"))
    (lO : K.lookup aO = some ⟨.type "dict", none, .dict esO nO, #[]⟩)
    (hO : PySem.W.KeysLit w.params esO.toList)
    (Ol : PySem.W.nsIn K aO "l" = some (some (.str zl tl)))
    (Or : PySem.W.nsIn K aO "r" = some (some (.str zr tr)))
    (Ou : PySem.W.nsIn K aO "u" = some (some (.str zu tu)))
    (Od : PySem.W.nsIn K aO "d" = some (some (.str zd td)))
    (vIw : K.lookup cdIw = some ⟨.type "code", od2Iw, .fields vsIw, sl2Iw⟩)
    (ppIw : vsIw[11]? = some (.ref PIw))
    (HIw : PySem.W.codeHdIn K cdIw PIw = true)
    (NIw : K.lookup PIw = none)
    (ZIw : h.get? PIw = some { cls := .none, data := .fields #[] })
    (vLw : K.lookup cdLw = some ⟨.type "code", od2Lw, .fields vsLw, sl2Lw⟩)
    (ppLw : vsLw[11]? = some (.ref PLw))
    (HLw : PySem.W.codeHdIn K cdLw PLw = true)
    (NLw : K.lookup PLw = none)
    (ZLw : h.get? PLw = some { cls := .none, data := .fields #[] })
    (eAR : zAR = S [108, 114])
    (eAC : zAC = S [117, 100])
    (eMT : iMT = 60)
    (eMX : iMX = 60)
    (el : zl = S [114])
    (er : zr = S [108])
    (eu : zu = S [100])
    (ed : zd = S [117])
    (nPP : PIw ≠ PLw)
    : ∃ (fd : FuncData) (cs : List (Addr × Addr)) (sp : Sp), (∀ p ∈ cs, h.get? p.2 = some { cls := .none, data := .fields #[] }) ∧ (∀ p ∈ cs, K.lookup p.2 = none) ∧ (∀ p ∈ cs, PySem.W.CodeHd h p.1 p.2) ∧ (∀ (s : Shared) (u : Value), BindsTo s fd ⟨[u], []⟩ [("_law_script", u)]) ∧
      (∀ (H : Hp) (a : Addr) (ns : List Int), ns.length ≤ 63 → (∀ z ∈ ns, Builtin.Int.intBits z ≤ 1048576) → (∀ p ∈ cs, H p.2 = some (.tbl #[])) → SqL K H a (ns.map V.int) → sp [.ref a] H (fun v _ => v = .bl true) fun _ _ _ => False) ∧
      ∀ base : Heap, K.In base → base.Ns mainGlobals mg → (∀ p ∈ cs, TabB base mg p.1 p.2) → FnOk P w K mg base CX0 8 fa fd ["_law_script"] sp := by
  subst eAR eAC eMT eMX el er eu ed
  have g : ∀ {n : Str} {v : Value}, PySem.W.nsIn K mainGlobals n = some (some v) → mg n = some v := fun e => PySem.W.mg_of X G e
  have g0 : ∀ {n : Str}, PySem.W.nsIn K mainGlobals n = some none → mg n = none := fun e => PySem.W.mg_none_of X G e
  obtain rfl : fLw = fa := by
    have e := hfa.symm.trans (g aLw)
    cases e
    rfl
  have two : ∀ {p : Addr × Addr → Prop}, p (cdIw, PIw) → p (cdLw, PLw) → ∀ q ∈ [(cdIw, PIw), (cdLw, PLw)], p q := fun {p} h1 h2 q hq => by
    rcases List.mem_cons.mp hq with rfl | hq
    · exact h1
    · rcases List.mem_cons.mp hq with rfl | hq
      · exact h2
      · cases hq
  have twoT : ∀ {p : Addr × Str → Prop}, p (PIw, "_law_is_word.<locals>.<lambda>") → p (PLw, "law.<locals>.<lambda>") → ∀ q ∈ [(PIw, ("_law_is_word.<locals>.<lambda>" : Str)), (PLw, ("law.<locals>.<lambda>" : Str))], p q := fun {p} h1 h2 q hq => by
    rcases List.mem_cons.mp hq with rfl | hq
    · exact h1
    · rcases List.mem_cons.mp hq with rfl | hq
      · exact h2
      · cases hq
  refine ⟨PySem.W.fnOf "law" "law" (defArgs sLaw) (defBody sLaw) (defScope sLaw) .none kVLw dcLw pmLw anLw (.ref cdLw) ctLw, [(cdIw, PIw), (cdLw, PLw)], spLaw K [(PIw, "_law_is_word.<locals>.<lambda>"), (PLw, "law.<locals>.<lambda>")], two ZIw ZLw, two NIw NLw, two (PySem.W.codeHd_of_K X HIw) (PySem.W.codeHd_of_K X HLw), fun s u => .of_eq rfl, fun H a ns _ _ hT hS => ⟨a, ns, rfl, hS, twoT (TabS.nil (hT _ (.head _))) (TabS.nil (hT _ (.tail _ (.head _)))), fun _ => rfl⟩, fun base _ _ TB => ?_⟩
  have T : TxtW K mg := ⟨g0 b_len, g0 b_isinstance, g0 b_str, g0 b_enumerate, ⟨_, g cAR, _, rfl⟩, ⟨_, g cAC, _, rfl⟩⟩
  have L : TxtL K mg := ⟨g0 b_int, g0 b_range, g0 b_min⟩
  have A : TxtA K mg := by constructor <;> first | exact g0 b_isinstance | exact g0 b_tuple | exact g0 b_list | exact g0 b_bool | exact g0 b_len | exact g0 b_range
  have N : TxtN K mg := ⟨g0 b_isinstance, g0 b_bool, g0 b_int⟩
  have clC : Cls K C := ⟨pgC, hdC, poC, saC⟩
  have CW : ClsW K mg C := ⟨clC, nT, g aC, .type "type", _, ⟨rdC, gaC⟩, mx, _, rfl⟩
  have IW : IsW K C := ⟨ih, in_, itk, im, if_pos (by simp), ksC⟩
  have MC : Mk K C fWi := ⟨mkC, aWi, iWi, kcC⟩
  have E : TxtE K mg (ceF e0 e1 e2 e3 e4 e5) eT := { g0 := g ge0, g1 := g ge1, g2 := g ge2, g3 := g ge3, g4 := g ge4, g5 := g ge5, gT := g geT, isi := g0 b_isinstance, ve := g0 b_ValueError, x0 := ⟨hg0, hk0, hs0, hd0⟩, x1 := ⟨hg1, hk1, hs1, hd1⟩, x2 := ⟨hg2, hk2, hs2, hd2⟩, n0 := nI0, n1 := nI1, n2 := nI2, n3 := nI3, xc := six_all ⟨hg0, hk0, hs0, hd0, ha0, in_, itk, hm0⟩ ⟨hg1, hk1, hs1, hd1, ha1, in_, itk, hm1⟩ ⟨hg2, hk2, hs2, hd2, ha2, in_, itk, hm2⟩ ⟨hg3, hk3, hs3, hd3, ha3, in_, itk, hm3⟩ ⟨hg4, hk4, hs4, hd4, ha4, in_, itk, hm4⟩ ⟨hg5, hk5, hs5, hd5, ha5, in_, itk, hm5⟩, one := six_two (six_all o00 o01 o02 o03 o04 o05) (six_all o10 o11 o12 o13 o14 o15) (six_all o20 o21 o22 o23 o24 o25) (six_all o30 o31 o32 o33 o34 o35) (six_all o40 o41 o42 o43 o44 o45) (six_all o50 o51 o52 o53 o54 o55), isv := six_all hv0 hv1 hv2 hv3 hv4 hv5, ism := six_all ht0 ht1 ht2 ht3 ht4 ht5 }
  have FNu := fun_mk (st := sIsNumber) lNu cNu kNu
  have BNu := FNu.binds (ps := ["value", "limit"]) fun _ _ _ _ _ _ us hl => match us, hl with | [_, _], _ => rfl
  have FIt := fun_mk (st := sIsTilt) lIt cIt kIt
  have BIt := FIt.binds (ps := ["value"]) fun _ _ _ _ _ _ us hl => match us, hl with | [_], _ => rfl
  have FFw := fun_mk (st := sFirstWrongIndex) lFw cFw kFw
  have BFw := FFw.binds (ps := ["text"]) fun _ _ _ _ _ _ us hl => match us, hl with | [_], _ => rfl
  have FLa := fun_mk (st := sLastAlong) lLa cLa kLa
  have BLa := FLa.binds (ps := ["text", "axis"]) fun _ _ _ _ _ _ us hl => match us, hl with | [_, _], _ => rfl
  have FWi := fun_mk (st := sWordInit) lWi cWi kWi
  have BWi := FWi.binds (ps := ["self", "text"]) fun _ _ _ _ _ _ us hl => match us, hl with | [_, _], _ => rfl
  have FWt := fun_mk (st := sWordText) lWt cWt kWt
  have BWt := FWt.binds (ps := ["self"]) fun _ _ _ _ _ _ us hl => match us, hl with | [_], _ => rfl
  have FWc := fun_mk (st := sWordCorner) lWc cWc kWc
  have BWc := FWc.binds (ps := ["self"]) fun _ _ _ _ _ _ us hl => match us, hl with | [_], _ => rfl
  have FLe := fun_mk (st := sWordLen) lLe cLe kLe
  have BLe := FLe.binds (ps := ["self"]) fun _ _ _ _ _ _ us hl => match us, hl with | [_], _ => rfl
  have FGi := fun_mk (st := sWordGetitem) lGi cGi kGi
  have BGi := FGi.binds (ps := ["self", "at"]) fun _ _ _ _ _ _ us hl => match us, hl with | [_, _], _ => rfl
  have FCo := fun_mk (st := sWordContains) lCo cCo kCo
  have BCo := FCo.binds (ps := ["self", "x"]) fun _ _ _ _ _ _ us hl => match us, hl with | [_, _], _ => rfl
  have FAd := fun_mk (st := sWordAdd) lAd cAd kAd
  have BAd := FAd.binds (ps := ["self", "other"]) fun _ _ _ _ _ _ us hl => match us, hl with | [_, _], _ => rfl
  have FMu := fun_mk (st := sWordMul) lMu cMu kMu
  have BMu := FMu.binds (ps := ["self", "other"]) fun _ _ _ _ _ _ us hl => match us, hl with | [_, _], _ => rfl
  have FNg := fun_mk (st := sWordNeg) lNg cNg kNg
  have BNg := FNg.binds (ps := ["self"]) fun _ _ _ _ _ _ us hl => match us, hl with | [_], _ => rfl
  have FWe := fun_mk (st := sWordEq) lWe cWe kWe
  have BWe := FWe.binds (ps := ["self", "other"]) fun _ _ _ _ _ _ us hl => match us, hl with | [_, _], _ => rfl
  have FTk := fun_mk (st := sLawTaken) lTk cTk kTk
  have BTk := FTk.binds (ps := ["_law_row", "_law_many"]) fun _ _ _ _ _ _ us hl => match us, hl with | [_, _], _ => rfl
  have FAl := fun_mk (st := sLawAlike) lAl cAl kAl
  have BAl := FAl.binds (ps := ["_law_one", "_law_due"]) fun _ _ _ _ _ _ us hl => match us, hl with | [_, _], _ => rfl
  have FRa := fun_mk (st := sLawRaised) lRa cRa kRa
  have BRa := FRa.binds (ps := ["_law_work"]) fun _ _ _ _ _ _ us hl => match us, hl with | [_], _ => rfl
  have FTx := fun_mk (st := sLawText) lTx cTx kTx
  have BTx := FTx.binds (ps := ["_law_row", "_law_most"]) fun _ _ _ _ _ _ us hl => match us, hl with | [_, _], _ => rfl
  have FLc := fun_mk (st := sLawCorner) lLc cLc kLc
  have BLc := FLc.binds (ps := ["_law_text_here"]) fun _ _ _ _ _ _ us hl => match us, hl with | [_], _ => rfl
  have FIw := fun_mk (st := sLawIsWord) lIw cIw kIw
  have FLw := fun_mk (st := sLaw) lLw cLw kLw
  have BIw := FIw.binds (ps := ["_law_word", "_law_text_here"]) fun _ _ _ _ _ _ us hl => match us, hl with | [_, _], _ => rfl
  have ox : OexC K e0 := ⟨⟨nm0, q0, N0, bs0, bm0, sn0, sub0, ab0, col0, dd0, m0, m1, m2, m3, m5, xL, xb⟩, xsa, xex, xty, xk⟩
  have XT : ExcT K mg "InvalidWord" e0 fIx := ⟨ox, g ge0, aIx, tIx⟩
  have XN : ExN K mg "InvalidNumber" e4 := ⟨q4, g ge4, k4, hs4, t4⟩
  have GIx := ok_iw (P := P) (w := w) (base := base) (mg := mg) (CX := CX0) lIx cIx ⟨⟨_, _, _, lIx⟩, rfl, ⟨_, _, _, _, _, _, kx1, kx2, kx3⟩, ⟨_, _, _, kx4⟩, kx5, kx6, kx7, kx8, kx9⟩ rfl ox (g0 b_super) nI0
  have BIx : Binds K (PySem.W.fnX "__init__" "InvalidWord.__init__" (defArgs sInvalidWordInit) (defBody sInvalidWordInit) (defScope sInvalidWordInit) [("__class__", cc)] .none kVIx dcIx pmIx anIx (.ref cdIx) ctIx) ["self", "index"] [] := Binds.all fun us hl => match us, hl with | [_, _], _ => rfl
  have GIt : FnOk P w K mg base CX0 1 fIt _ ["value"] (spItG K) := ok_itG FIt T
  have GFw : FnOk P w K mg base CX0 2 fFw _ ["text"] (spFwx K) := ok_fwx FFw T CW FIt BIt (g aIt)
  have GWi : FnOk P w K mg base (L2.CX P w) 3 fWi _ ["self", "text"] (spWix K C e0) := ok_wix FWi CW GFw kFw BFw (g aFw) XT GIx BIx
  have GNu : FnOk P w K mg base CX0 1 fNu _ ["value", "limit"] (spNum K) := ok_num FNu N
  have GCo : FnOk P w K mg base CX0 2 fCo _ ["self", "x"] (spCo K C) := ok_co FCo CW GIt kIt BIt (g aIt)
  have GLe : FnOk P w K mg base CX0 1 fLe _ ["self"] (spLe C) := ok_le FLe CW T
  have GWt : FnOk P w K mg base CX0 1 fWt _ ["self"] (spWtx C) := ok_wtx FWt CW
  have GGi : FnOk P w K mg base (L2.CX P w) 2 fGi _ ["self", "at"] (spGi K C e4) := ok_gi FGi CW T GNu kNu BNu (g aNu) XN
  have GWe : FnOk P w K mg base CX0 1 fWe _ ["self", "other"] (spWe K C) := ok_we FWe CW IW T
  have GAd : FnOk P w K mg base (L2.CX P w) 5 fAd _ ["self", "other"] (spAd C e0) := ok_ad FAd CW IW T MC GWi BWi
  have GMu : FnOk P w K mg base (L2.CX P w) 5 fMu _ ["self", "other"] (spMu K C e0 e4) := ok_mu FMu CW GNu kNu BNu (g aNu) ⟨_, g cMT, _, rfl⟩ XN MC GWi BWi
  have GLa : FnOk P w K mg base CX0 1 fLa _ ["text", "axis"] spLa := ok_la FLa
  have GWc : FnOk P w K mg base CX0 2 fWc _ ["self"] (spCr C) := ok_cr FWc CW T GLa kLa BLa (g aLa)
  have dO : ∀ c, isT c = true → KDct K w aO (S [c]) (sg (opp c)) := fun c hc => by
    have h4 : c = 108 ∨ c = 114 ∨ c = 117 ∨ c = 100 := by
      simp only [isT, decide_eq_true_eq, List.mem_cons, List.not_mem_nil, or_false] at hc
      omega
    rcases h4 with rfl | rfl | rfl | rfl
    · exact ⟨_, _, _, lO, hO, Ol, _, rfl⟩
    · exact ⟨_, _, _, lO, hO, Or, _, rfl⟩
    · exact ⟨_, _, _, lO, hO, Ou, _, rfl⟩
    · exact ⟨_, _, _, lO, hO, Od, _, rfl⟩
  have GNg : FnOk P w K mg base (L2.CX P w) 5 fNg _ ["self"] (spNg C) := ok_ng FNg CW (g cOP) dO MC GWi BWi
  have GTk : ∀ a ns, FnOk P w K mg base CX0 1 fTk _ ["_law_row", "_law_many"] (spTk K a ns) := fun a ns => ok_tk FTk T L
  have GTx : ∀ a ns, FnOk P w K mg base CX0 2 fTx _ ["_law_row", "_law_most"] (spTx K a ns) := fun a ns => ok_tx FTx L (GTk a ns) kTk BTk (g aTk)
  have GLc : FnOk P w K mg base CX0 1 fLc _ ["_law_text_here"] spLc := ok_lc FLc
  have PWt : PropOf K C "text" qWt fWt := ⟨pWt, pgtWt, ptkWt, _, aWt⟩
  have PWc : PropOf K C "corner" qWc fWc := ⟨pWc, pgtWc, ptkWc, _, aWc⟩
  have d1 : PySem.dunder Operator.Mult.info.2 = ("__mul__" : Str) := by decide +kernel
  have d2 : PySem.dunderR Operator.Mult.info.2 = ("__rmul__" : Str) := by decide +kernel
  have d3 : PySem.dunder Operator.Add.info.2 = ("__add__" : Str) := by decide +kernel
  have MF : MulF K C fMu := ⟨sfC, ⟨by rw [d1]; exact aMu, iMu⟩, ⟨_, by rw [d2]; exact rmC, .inl rfl⟩, ⟨⟨_, _, by rw [d1]; exact fi, by rw [d2]; exact ri⟩, si⟩, ⟨⟨_, _, by rw [d1]; exact fn, by rw [d2]; exact rn⟩, sn⟩, ⟨⟨_, _, by rw [d1]; exact fb, by rw [d2]; exact rb⟩, sb⟩⟩
  have LW : LwF P w K mg base C e4 (ceF e0 e1 e2 e3 e4 e5) eT [(PIw, "_law_is_word.<locals>.<lambda>"), (PLw, "law.<locals>.<lambda>")] cdIw PIw := { cw := CW, txt := T, al := A, te := E, cn := rfl, fT := ⟨_, _, _, PWt, GWt, BWt⟩, fC := ⟨_, _, _, PWc, GWc, BWc⟩, fL := ⟨_, ⟨aLe, iLe⟩, raw0 GLe BLe⟩, fG := ⟨_, ⟨aGi, iGi⟩, fnGi, raw0 GGi BGi⟩, fI := ⟨_, ⟨aCo, iCo⟩, raw0 GCo BCo⟩, fA := ⟨_, _, FAl, BAl, g aAl⟩, fK := ⟨_, _, GLc, kLc, BLc, g aLc⟩, fR := ⟨_, _, FRa, BRa, g aRa⟩, tb := TB _ (.head _), tm := .head _, tu := twoT (p := fun p => p.1 = PIw → p.2 = ("_law_is_word.<locals>.<lambda>" : Str)) (fun _ => rfl) fun z => absurd z.symm nPP }
  have GIw := ok_lw lIw cIw LW
  have LL : LawF P w K mg base C e0 e4 (ceF e0 e1 e2 e3 e4 e5) eT [(PIw, "_law_is_word.<locals>.<lambda>"), (PLw, "law.<locals>.<lambda>")] cdLw PLw := { cw := CW, txt := T, te := E, c0 := rfl, c4 := rfl, fW := ⟨_, _, GIw, kIw, BIw, g aIw⟩, fT := ⟨_, _, GTk, kTk, BTk, g aTk⟩, fX := ⟨_, _, GTx, kTx, BTx, g aTx⟩, mw := ⟨_, _, MC, GWi, BWi⟩, sf := sfC, ad := ⟨_, ⟨by rw [d3]; exact aAd, iAd⟩, raw0 GAd BAd⟩, mu := ⟨_, MF, raw0 GMu BMu⟩, ng := ⟨_, ⟨aNg, iNg⟩, raw0 GNg BNg⟩, eq := ⟨_, ⟨aWe, iWe⟩, raw0 GWe BWe⟩, ne := neC, ob := im, nf := nfC, le := ⟨_, ⟨aLe, iLe⟩, raw0 GLe BLe⟩, fR := ⟨_, _, FRa, BRa, g aRa⟩, tb := TB _ (.tail _ (.head _)), tm := .tail _ (.head _), tu := twoT (p := fun p => p.1 = PLw → p.2 = ("law.<locals>.<lambda>" : Str)) (fun z => absurd z nPP) fun _ => rfl }
  exact ok_law lLw cLw LL
end TA
end
set_option Elab.async false
open PySem PySem.W PySem.W.X PyProof.Rows
set_option maxRecDepth 100000 in
set_option maxHeartbeats 0 in
theorem PySem.Challenge.cw_tiltheap_k01_words_of_tilts_holds : PySem.Challenge.rw_tiltheap_k01_words_of_tilts.Holds := by
  w_on; o_law; k_head; (case hw => w_witness2)
  k_fill
  refine LamX.walk_ofTs (l := PySem.Challenge.rw_tiltheap_k01_words_of_tilts) (n := 63) (k := 8) (x := "_law_script") (CX := fun _ => L2.CX0) rfl (by decide) rfl ⟨rfl, by decide, by decide⟩ (fun w h Y => km_in_of Y) ?F (fun _ _ _ _ _ z => z)
  case F =>
    intro w mg fa h Y KX G hmg
    refine' TA.all_mk KX G hmg ?aC ?ge0 ?ge1 ?ge2 ?ge3 ?ge4 ?ge5 ?geT ?cAR ?cAC ?cMT ?cOP ?b_len ?b_isinstance ?b_str ?b_enumerate ?b_tuple ?b_list ?b_bool ?b_int ?b_range ?b_min ?b_super ?b_ValueError ?pgC ?hdC ?poC ?saC ?mkC ?kcC ?rdC ?gaC ?nT ?ih ?in_ ?itk ?im ?mx ?sfC ?nfC ?neC ?ksC ?rmC ?fi ?ri ?si ?fn ?rn ?sn ?fb ?rb ?sb ?aNu ?lNu ?cNu ?kNu ?aIt ?lIt ?cIt ?kIt ?aFw ?lFw ?cFw ?kFw ?aLa ?lLa ?cLa ?kLa ?aWi ?iWi ?lWi ?cWi ?kWi ?pWt ?pgtWt ?ptkWt ?aWt ?lWt ?cWt ?kWt ?pWc ?pgtWc ?ptkWc ?aWc ?lWc ?cWc ?kWc ?aLe ?iLe ?lLe ?cLe ?kLe ?aGi ?iGi ?lGi ?cGi ?kGi ?aCo ?iCo ?lCo ?cCo ?kCo ?aAd ?iAd ?lAd ?cAd ?kAd ?aMu ?iMu ?lMu ?cMu ?kMu ?aNg ?iNg ?lNg ?cNg ?kNg ?aWe ?iWe ?lWe ?cWe ?kWe ?aTk ?lTk ?cTk ?kTk ?aAl ?lAl ?cAl ?kAl ?aRa ?lRa ?cRa ?kRa ?aTx ?lTx ?cTx ?kTx ?aLc ?lLc ?cLc ?kLc ?aIw ?lIw ?cIw ?kIw ?aLw ?lLw ?cLw ?kLw ?fnGi ?xL ?xb ?xsa ?xex ?xty ?xk ?aIx ?tIx ?lIx ?cIx ?kx1 ?kx2 ?kx3 ?kx4 ?kx5 ?kx6 ?kx7 ?kx8 ?kx9 ?nI0 ?nI1 ?nI2 ?nI3 ?hg0 ?hk0 ?hs0 ?hd0 ?ha0 ?hm0 ?hv0 ?ht0 ?o00 ?o01 ?o02 ?o03 ?o04 ?o05 ?hg1 ?hk1 ?hs1 ?hd1 ?ha1 ?hm1 ?hv1 ?ht1 ?o10 ?o11 ?o12 ?o13 ?o14 ?o15 ?hg2 ?hk2 ?hs2 ?hd2 ?ha2 ?hm2 ?hv2 ?ht2 ?o20 ?o21 ?o22 ?o23 ?o24 ?o25 ?hg3 ?hk3 ?hs3 ?hd3 ?ha3 ?hm3 ?hv3 ?ht3 ?o30 ?o31 ?o32 ?o33 ?o34 ?o35 ?hg4 ?hk4 ?hs4 ?hd4 ?ha4 ?hm4 ?hv4 ?ht4 ?o40 ?o41 ?o42 ?o43 ?o44 ?o45 ?hg5 ?hk5 ?hs5 ?hd5 ?ha5 ?hm5 ?hv5 ?ht5 ?o50 ?o51 ?o52 ?o53 ?o54 ?o55 ?q4 ?k4 ?t4 ?lO ?hO ?Ol ?Or ?Ou ?Od ?vIw ?ppIw ?HIw ?NIw ?ZIw ?vLw ?ppLw ?HLw ?NLw ?ZLw ?eAR ?eAC ?eMT ?eMX ?el ?er ?eu ?ed ?nPP
    (case aC => k_is)
    (case ge0 => k_is)
    (case ge1 => k_is)
    (case ge2 => k_is)
    (case ge3 => k_is)
    (case ge4 => k_is)
    (case ge5 => k_is)
    (case geT => k_is)
    (case cAR => k_is)
    (case cAC => k_is)
    (case cMT => k_is)
    (case cOP => k_is)
    (case b_len => k_is)
    (case b_isinstance => k_is)
    (case b_str => k_is)
    (case b_enumerate => k_is)
    (case b_tuple => k_is)
    (case b_list => k_is)
    (case b_bool => k_is)
    (case b_int => k_is)
    (case b_range => k_is)
    (case b_min => k_is)
    (case b_super => k_is)
    (case b_ValueError => k_is)
    (case pgC => k_is)
    (case hdC => k_is)
    (case poC => k_is)
    (case saC => k_is)
    (case mkC => k_is)
    (case kcC => k_is)
    (case rdC => k_is)
    (case gaC => k_is)
    (case nT => k_is)
    (case ih => k_is)
    (case in_ => k_is)
    (case itk => k_is)
    (case im => k_is)
    (case mx => k_is)
    (case sfC => k_is)
    (case nfC => k_is)
    (case neC => k_is)
    (case ksC => kernel_rfl)
    (case rmC => k_is)
    (case fi => k_is)
    (case ri => k_is)
    (case si => k_is)
    (case fn => k_is)
    (case rn => k_is)
    (case sn => k_is)
    (case fb => k_is)
    (case rb => k_is)
    (case sb => k_is)
    (case aNu => k_is)
    (case lNu => k_is)
    (case cNu => k_is)
    (case kNu => k_is)
    (case aIt => k_is)
    (case lIt => k_is)
    (case cIt => k_is)
    (case kIt => k_is)
    (case aFw => k_is)
    (case lFw => k_is)
    (case cFw => k_is)
    (case kFw => k_is)
    (case aLa => k_is)
    (case lLa => k_is)
    (case cLa => k_is)
    (case kLa => k_is)
    (case aWi => k_is)
    (case iWi => k_is)
    (case lWi => k_is)
    (case cWi => k_is)
    (case kWi => k_is)
    (case pWt => k_is)
    (case pgtWt => k_is)
    (case ptkWt => k_is)
    (case aWt => k_is)
    (case lWt => k_is)
    (case cWt => k_is)
    (case kWt => k_is)
    (case pWc => k_is)
    (case pgtWc => k_is)
    (case ptkWc => k_is)
    (case aWc => k_is)
    (case lWc => k_is)
    (case cWc => k_is)
    (case kWc => k_is)
    (case aLe => k_is)
    (case iLe => k_is)
    (case lLe => k_is)
    (case cLe => k_is)
    (case kLe => k_is)
    (case aGi => k_is)
    (case iGi => k_is)
    (case lGi => k_is)
    (case cGi => k_is)
    (case kGi => k_is)
    (case aCo => k_is)
    (case iCo => k_is)
    (case lCo => k_is)
    (case cCo => k_is)
    (case kCo => k_is)
    (case aAd => k_is)
    (case iAd => k_is)
    (case lAd => k_is)
    (case cAd => k_is)
    (case kAd => k_is)
    (case aMu => k_is)
    (case iMu => k_is)
    (case lMu => k_is)
    (case cMu => k_is)
    (case kMu => k_is)
    (case aNg => k_is)
    (case iNg => k_is)
    (case lNg => k_is)
    (case cNg => k_is)
    (case kNg => k_is)
    (case aWe => k_is)
    (case iWe => k_is)
    (case lWe => k_is)
    (case cWe => k_is)
    (case kWe => k_is)
    (case aTk => k_is)
    (case lTk => k_is)
    (case cTk => k_is)
    (case kTk => k_is)
    (case aAl => k_is)
    (case lAl => k_is)
    (case cAl => k_is)
    (case kAl => k_is)
    (case aRa => k_is)
    (case lRa => k_is)
    (case cRa => k_is)
    (case kRa => k_is)
    (case aTx => k_is)
    (case lTx => k_is)
    (case cTx => k_is)
    (case kTx => k_is)
    (case aLc => k_is)
    (case lLc => k_is)
    (case cLc => k_is)
    (case kLc => k_is)
    (case aIw => k_is)
    (case lIw => k_is)
    (case cIw => k_is)
    (case kIw => k_is)
    (case aLw => k_is)
    (case lLw => k_is)
    (case cLw => k_is)
    (case kLw => k_is)
    (case fnGi => k_is)
    (case xL => k_is)
    (case xb => first | rfl | decide +kernel)
    (case xsa => k_is)
    (case xex => k_is)
    (case xty => k_is)
    (case xk => k_is)
    (case aIx => k_is)
    (case tIx => k_is)
    (case lIx => k_is)
    (case cIx => k_is)
    (case kx1 => k_is)
    (case kx2 => rfl)
    (case kx3 => first | rfl | decide +kernel)
    (case kx4 => k_is)
    (case kx5 => k_is)
    (case kx6 => kernel_rfl)
    (case kx7 => k_is)
    (case kx8 => k_is)
    (case kx9 => first | rfl | decide +kernel)
    (case nI0 => k_is)
    (case nI1 => k_is)
    (case nI2 => k_is)
    (case nI3 => k_is)
    (case hg0 => k_is)
    (case hk0 => k_is)
    (case hs0 => k_is)
    (case hd0 => k_is)
    (case ha0 => k_is)
    (case hm0 => k_is)
    (case hv0 => kernel_rfl)
    (case ht0 => kernel_rfl)
    (case o00 => kernel_rfl)
    (case o01 => kernel_rfl)
    (case o02 => kernel_rfl)
    (case o03 => kernel_rfl)
    (case o04 => kernel_rfl)
    (case o05 => kernel_rfl)
    (case hg1 => k_is)
    (case hk1 => k_is)
    (case hs1 => k_is)
    (case hd1 => k_is)
    (case ha1 => k_is)
    (case hm1 => k_is)
    (case hv1 => kernel_rfl)
    (case ht1 => kernel_rfl)
    (case o10 => kernel_rfl)
    (case o11 => kernel_rfl)
    (case o12 => kernel_rfl)
    (case o13 => kernel_rfl)
    (case o14 => kernel_rfl)
    (case o15 => kernel_rfl)
    (case hg2 => k_is)
    (case hk2 => k_is)
    (case hs2 => k_is)
    (case hd2 => k_is)
    (case ha2 => k_is)
    (case hm2 => k_is)
    (case hv2 => kernel_rfl)
    (case ht2 => kernel_rfl)
    (case o20 => kernel_rfl)
    (case o21 => kernel_rfl)
    (case o22 => kernel_rfl)
    (case o23 => kernel_rfl)
    (case o24 => kernel_rfl)
    (case o25 => kernel_rfl)
    (case hg3 => k_is)
    (case hk3 => k_is)
    (case hs3 => k_is)
    (case hd3 => k_is)
    (case ha3 => k_is)
    (case hm3 => k_is)
    (case hv3 => kernel_rfl)
    (case ht3 => kernel_rfl)
    (case o30 => kernel_rfl)
    (case o31 => kernel_rfl)
    (case o32 => kernel_rfl)
    (case o33 => kernel_rfl)
    (case o34 => kernel_rfl)
    (case o35 => kernel_rfl)
    (case hg4 => k_is)
    (case hk4 => k_is)
    (case hs4 => k_is)
    (case hd4 => k_is)
    (case ha4 => k_is)
    (case hm4 => k_is)
    (case hv4 => kernel_rfl)
    (case ht4 => kernel_rfl)
    (case o40 => kernel_rfl)
    (case o41 => kernel_rfl)
    (case o42 => kernel_rfl)
    (case o43 => kernel_rfl)
    (case o44 => kernel_rfl)
    (case o45 => kernel_rfl)
    (case hg5 => k_is)
    (case hk5 => k_is)
    (case hs5 => k_is)
    (case hd5 => k_is)
    (case ha5 => k_is)
    (case hm5 => k_is)
    (case hv5 => kernel_rfl)
    (case ht5 => kernel_rfl)
    (case o50 => kernel_rfl)
    (case o51 => kernel_rfl)
    (case o52 => kernel_rfl)
    (case o53 => kernel_rfl)
    (case o54 => kernel_rfl)
    (case o55 => kernel_rfl)
    (case q4 => kernel_rfl)
    (case k4 => k_is)
    (case t4 => k_is)
    (case lO => k_is)
    (case hO => exact ⟨⟨_, _, rfl, rfl⟩, ⟨_, _, rfl, rfl⟩, ⟨_, _, rfl, rfl⟩, ⟨_, _, rfl, rfl⟩, trivial⟩)
    (case Ol => k_is)
    (case Or => k_is)
    (case Ou => k_is)
    (case Od => k_is)
    (case vIw => k_is)
    (case ppIw => rfl)
    (case HIw => kernel_rfl)
    (case NIw => first | rfl | kernel_rfl)
    (case ZIw => exact km_tabs_of Y _ (by simp))
    (case vLw => k_is)
    (case ppLw => rfl)
    (case HLw => kernel_rfl)
    (case NLw => first | rfl | kernel_rfl)
    (case ZLw => exact km_tabs_of Y _ (by simp))
    (case eAR => first | rfl | decide +kernel)
    (case eAC => first | rfl | decide +kernel)
    (case eMT => first | rfl | decide +kernel)
    (case eMX => first | rfl | decide +kernel)
    (case el => first | rfl | decide +kernel)
    (case er => first | rfl | decide +kernel)
    (case eu => first | rfl | decide +kernel)
    (case ed => first | rfl | decide +kernel)
    (case nPP => decide)
