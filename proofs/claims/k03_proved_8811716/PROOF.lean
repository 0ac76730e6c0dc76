import PyProof.Rows.All
import Wide.All
import OpenK.AllK
import Wide.FinOn
import KE.GoesMore
import KE.KStar
import HandS.ForMost
import HandS.Star
import HandS.Walk
import HandS.SlotsOwn
import HandS.ClsMeth
import HandS.Property
import HandS.OwnEq
import KE.KOpsOwn
import HandS.Text
import HandS.Replace
import HandS.Codes
import HandS.IsInst
import HandS.SetKeys
import PyProof.Rows.StrPadFill
import PyProof.Rows.StrStrike
import HandS.ExcInit
import HandS.Nested
import HandS.FStr
import KE.KExcSuper
import KE.KSuper
import HandS.WordsExc
import HandS.ExcIs
import HandS.ExcField
import HandS.Lambda
import KE.KExcIs
import HandS.TupSets
import PyProof.InstNe
import HandS.ExcOwn
import PyProof.ExcBaseAll.ValueError
import PyProof.ListStr
import HandS.Comp
import HandS.StrMore
import HandS.ExcValue
import HandS.Deep
import HandS.EndTab
import KE.KNestM
import PySem.Challenge.RW_tiltheap_k03_trays
namespace TH
end TH
namespace TH
end TH
section
set_option Elab.async false
set_option maxRecDepth 100000
set_option maxHeartbeats 4000000
namespace TH
open PySem PySem.Spec PyProof.Rows L2
section
variable {prog : Program} {w : World} {A : Around} {E : Value → Shared → Prop}
theorem strIter_other {h h' : Heap} {a c : Addr} {ty : String} {x : Str} {t : Tok} {i : Nat} (q : h.IsStrIter a ty x t i) (sb : Heap.SameBut c h h') (hne : a ≠ c) : h'.IsStrIter a ty x t i := by
  obtain ⟨o, ho, r⟩ := q
  exact ⟨o, (sb.2 a hne).trans ho, r⟩
end
end TH
end
namespace TH
end TH
namespace TH
end TH
namespace TH
end TH
section
set_option Elab.async false
set_option maxRecDepth 100000
set_option maxHeartbeats 4000000
set_option linter.all false
namespace TH
open PySem PySem.Spec PyProof.Rows L2
theorem meets_enum_any {v : Value} {o : Obj} {H : Heap → Prop} (B : Begins v o H) :
    Meets (Builtin.«enumerate.__new__» ⟨[.type "enumerate", v], []⟩) (fun _ R s => H s.heap ∧
      R (.ok (.ret (.ref (s.heap.push o).objs.size))) { s with heap := (s.heap.push o).push { cls := .type "enumerate", data := .fields #[.none, .bool false, .ref s.heap.objs.size, rawInt 0, .none, .none] } }) :=
  .of_wp fun prog w A R s hR => by
    obtain ⟨hp, g, d, tk, os⟩ := s
    obtain ⟨hH, hR⟩ := hR
    have hsub := sub_enumerate
    have it1 : ∀ {A' : Around} {E : Value → Shared → Prop} {Q : Value → Shared → Prop}, Q (.ref hp.objs.size) ⟨hp.push o, g, d, tk, os⟩ → wpAny (model prog w) A' (pyIter v) Q E ⟨hp, g, d, tk, os⟩ :=
      fun q => B.iter prog w _ _ ⟨hp, g, d, tk, os⟩ _ hH q
    wp_walk using it1
    refine wpAny_stack_any fun st => wpAny_pure ?_
    split
    · rename_i c _ _ _ _ _
      cases (c == Value.type "enumerate")
      all_goals
        wp_walk using it1
        exact ⟨_, rfl, hR⟩
    · wp_walk using it1
      exact ⟨_, rfl, hR⟩
theorem enum_any {prog : Program} {w : World} {A : Around} {E : Value → Shared → Prop} {s : Shared} {v : Value} {o : Obj} {H : Heap → Prop} {Q : Value → Shared → Prop} (B : Begins v o H) (hH : H s.heap)
    (h : ∀ h', IsEnum h' (s.heap.objs.size + 1) s.heap.objs.size 0 .none → h'.get? s.heap.objs.size = some o → (∀ b o, s.heap.get? b = some o → h'.get? b = some o) → Q (.ref (s.heap.objs.size + 1)) { s with heap := h' }) :
    wpAny (model prog w) A (call (.type "enumerate") [v]) Q E s := by
  refine callType_new F.called_enumerate (by decide) (F.typeCall_enumerate_1 _) (F.newCall_enumerate_1 _) (fun obj => F.args_object_init_2 obj _) F.entry_enumerate_new (meets_enum_any B) ⟨hH, ?_⟩
  have sz : (s.heap.push o).objs.size = s.heap.objs.size + 1 := Heap.size_push ..
  have at1 := Heap.get?_push_size (s.heap.push o) (o := { cls := .type "enumerate", data := .fields #[.none, .bool false, .ref s.heap.objs.size, rawInt 0, .none, .none] }) rfl
  rw [sz] at at1
  show _ ∧ _
  rw [sz]
  exact ⟨⟨_, at1, rfl⟩, h _ at1 (Heap.get?_push_of_some _ (Heap.get?_push_size _ B.free)) fun b o x => Heap.get?_push_of_some _ (Heap.get?_push_of_some _ x)⟩

/-- the signs of a text with their places -/
def Ites (x : Str) : It := ⟨fun i _ => i < x.cps.size, fun i H v H' => ∃ (T : Addr) (c : Nat), v = .ref T ∧ H T = none ∧ H' = upd H T (.tup [.int (i : Nat), .str ⟨#[c]⟩]) ∧ x.cps[i]? = some c, fun i _ => i = x.cps.size⟩
/-- the items of the tuple at a with their places -/
def Itet (K : PySem.W.Frag) (a : Addr) : It :=
  ⟨fun i H => ∃ xs y, SqT K H a xs ∧ xs[i]? = some y, fun i H v H' => ∃ (T : Addr) (y : V), v = .ref T ∧ H T = none ∧ H' = upd H T (.tup [.int (i : Nat), y]) ∧ ∀ xs, SqT K H a xs → xs[i]? = some y, fun i H => ∃ xs, SqT K H a xs ∧ i = xs.length⟩
section
variable {P : Program} {w : World} {K : PySem.W.Frag} {elts : List Expr} {kk : Nat} {tpos : Pos}
theorem turn_enums {x : Str} {t : Tok} (e it : Addr) (hne : e ≠ it) :
    Turn P w K (.Tuple elts kk tpos) (Ites x) [e, it] e (fun i h => (∃ old, IsEnum h e it ((i : Nat) : Int) old) ∧ h.IsStrIter it (strIterType x) x t i) where
  mem := by simp
  obj := fun i h st b hb => by
    obtain ⟨⟨old, he⟩, ⟨o, ho, hc, hd⟩⟩ := st
    rcases (show b = e ∨ b = it by simpa using hb) with z | z
    · rw [z]
      exact ⟨_, he, fun v q => nomatch q⟩
    · rw [z]
      exact ⟨o, ho, fun v q => by rw [hd] at q; cases q⟩
  keep := fun i h h' st k => by
    obtain ⟨⟨old, he⟩, ⟨o, ho, r⟩⟩ := st
    exact ⟨⟨old, k e (by simp) _ he⟩, ⟨o, k it (by simp) _ ho, r⟩⟩
  item := by
    intro X hP hw hK hc i pins s σ H E I hf st hg
    subst hP hw hK
    obtain ⟨⟨old, he⟩, hit⟩ := st
    have hel : e < s.heap.objs.size := Heap.lt_size he
    have hil : it < s.heap.objs.size := by obtain ⟨_, q, _⟩ := hit; exact Heap.lt_size q
    refine wpAny_pyNext_enum_itemD (Draws.text (A := X.A.in1) (I.ok.hd hc) it x t) he hit hg hne (by simpa using hne) fun y h' tk hy ho hit' hT hsz hk => ?_
    obtain ⟨c, u, hcx, rfl⟩ := hy
    refine ⟨_, rfl, wpAny_letOwnedTupleGo_enum (s := { s with heap := h', toks := tk + 1 }) ho fun h'' he' sb => ?_⟩
    have hT2 : h''.get? s.heap.objs.size = some { cls := .type "tuple", data := .seq #[.int i tk, .str ⟨#[c]⟩ u] } := (sb.2 _ (Nat.ne_of_gt hel)).trans hT
    have new : ObjOk X.prog X.w (upd H s.heap.objs.size (.tup [.int (i : Nat), .str ⟨#[c]⟩])) h'' s.heap.objs.size (.tup [.int (i : Nat), .str ⟨#[c]⟩]) :=
      ⟨by show 2 ≤ sizeLine; decide, [.int i tk, .str ⟨#[c]⟩ u], .cons ⟨_, rfl⟩ (.cons ⟨_, rfl⟩ .nil), ⟨_, hT2, rfl, _, rfl⟩⟩
    have I1 : Inv X pins σ (upd H s.heap.objs.size (.tup [.int (i : Nat), .str ⟨#[c]⟩])) { s with heap := h'', toks := tk + 1 } :=
      I.turnedNew (ch := [e, it]) (fun b ob hb q => (sb.2 b (fun z => hb (by simp [z]))).trans (hk b ob (fun z => hb (by simp [z])) (fun z => hb (by simp [z])) q)) hf (Nat.le_refl _) new
    refine ⟨.ref s.heap.objs.size, _, I1, rfl, ⟨_, c, rfl, I.hok.fresh (Nat.le_refl _), rfl, hcx⟩, ⟨⟨Value.str ⟨#[c]⟩ u, ?_⟩, strIter_other hit' sb (Ne.symm hne)⟩, fun b hb => ?_⟩
    · have e1 : ((i + 1 : Nat) : Int) = (i : Int) + 1 := by omega
      rw [e1]
      exact he'
    · have hb' : b < s.heap.objs.size := by
        rcases (show b = e ∨ b = it by simpa using hb) with z | z
        · rw [z]; exact hel
        · rw [z]; exact hil
      rw [upd_ne (Nat.ne_of_lt hb')]
      exact (hf b hb).1
  done := by
    intro X hP hw hK hc i pins s σ H E I hf st hg
    subst hP hw hK
    obtain ⟨⟨old, he⟩, hit⟩ := st
    obtain ⟨f0, f1, f2, f3, f4, f5⟩ := hf it (by simp)
    have hi : i = x.cps.size := hg
    subst hi
    exact wpAny_pyNext_enum_endD (Draws.text (A := X.A.in1) (I.ok.hd hc) it x t) he hit fun h' eb => ⟨rfl, I.turned (t' := s.toks) (fun b o hb q => eb b o hb q) f0 f1 f3 f4 f5⟩
  self := fun A i s Q E st h => by
    obtain ⟨⟨_, he⟩, _⟩ := st
    exact wpAny_pyIter_enum he h
theorem turn_enumt {a : Addr} (e it : Addr) (hne : e ≠ it) (hae : a ≠ e) (hai : a ≠ it) :
    Turn P w K (.Tuple elts kk tpos) (Itet K a) [e, it] e (fun i h => (∃ old, IsEnum h e it ((i : Nat) : Int) old) ∧ h.IsTupleIter it a i) where
  mem := by simp
  obj := fun i h st b hb => by
    obtain ⟨⟨old, he⟩, ⟨o, ho, hc, hd⟩⟩ := st
    rcases (show b = e ∨ b = it by simpa using hb) with z | z
    · rw [z]
      exact ⟨_, he, fun v q => nomatch q⟩
    · rw [z]
      exact ⟨o, ho, fun v q => by rw [hd] at q; cases q⟩
  keep := fun i h h' st k => by
    obtain ⟨⟨old, he⟩, ⟨o, ho, r⟩⟩ := st
    exact ⟨⟨old, k e (by simp) _ he⟩, ⟨o, k it (by simp) _ ho, r⟩⟩
  item := by
    intro X hP hw hK hc i pins s σ H E I hf st hg
    subst hP hw hK
    obtain ⟨⟨old, he⟩, hit⟩ := st
    obtain ⟨xs, y, hq, hx⟩ := hg
    obtain ⟨its, rv, p, hz⟩ := I.tuple hq
    obtain ⟨u, hu, ru⟩ := rv.get hx
    have hel : e < s.heap.objs.size := Heap.lt_size he
    have hil : it < s.heap.objs.size := by obtain ⟨_, q, _⟩ := hit; exact Heap.lt_size q
    have hlt : i < its.toArray.size := by rw [List.size_toArray]; exact (List.getElem?_eq_some_iff.mp hu).1
    refine wpAny_pyNext_enum_itemD (St := fun i h => h.IsTupleIter it a i ∧ h.IsTuple a its.toArray) (Draws.tuple (A := X.A.in1) (I.ok.hd hc) it a hai its.toArray) he ⟨hit, p⟩ hlt hne (by simp [hne, Ne.symm hae]) fun y' h' tk hy ho hit' hT hsz hk => ?_
    have ey : y' = u := by
      have hy' : its.toArray[i]? = some y' := hy
      rw [List.getElem?_toArray, hu] at hy'
      exact (Option.some.inj hy').symm
    subst ey
    refine ⟨_, rfl, wpAny_letOwnedTupleGo_enum (s := { s with heap := h', toks := tk + 1 }) ho fun h'' he' sb => ?_⟩
    have hT2 : h''.get? s.heap.objs.size = some { cls := .type "tuple", data := .seq #[.int i tk, y'] } := (sb.2 _ (Nat.ne_of_gt hel)).trans hT
    have new : ObjOk X.prog X.w (upd H s.heap.objs.size (.tup [.int (i : Nat), y])) h'' s.heap.objs.size (.tup [.int (i : Nat), y]) :=
      ⟨by show 2 ≤ sizeLine; decide, [.int i tk, y'], .cons ⟨_, rfl⟩ (.cons ru .nil), ⟨_, hT2, rfl, _, rfl⟩⟩
    have I1 : Inv X pins σ (upd H s.heap.objs.size (.tup [.int (i : Nat), y])) { s with heap := h'', toks := tk + 1 } :=
      I.turnedNew (ch := [e, it]) (fun b ob hb q => (sb.2 b (fun z => hb (by simp [z]))).trans (hk b ob (fun z => hb (by simp [z])) (fun z => hb (by simp [z])) q)) hf (Nat.le_refl _) new
    refine ⟨.ref s.heap.objs.size, _, I1, rfl, ⟨_, y, rfl, I.hok.fresh (Nat.le_refl _), rfl, fun ys hy => by rw [I.tuple_inj hy hq]; exact hx⟩, ⟨⟨y', ?_⟩, ?_⟩, fun b hb => ?_⟩
    · have e1 : ((i + 1 : Nat) : Int) = (i : Int) + 1 := by omega
      rw [e1]
      exact he'
    · obtain ⟨o, ho2, r⟩ := hit'.1
      exact ⟨o, (sb.2 it (Ne.symm hne)).trans ho2, r⟩
    · have hb' : b < s.heap.objs.size := by
        rcases (show b = e ∨ b = it by simpa using hb) with z | z
        · rw [z]; exact hel
        · rw [z]; exact hil
      rw [upd_ne (Nat.ne_of_lt hb')]
      exact (hf b hb).1
  done := by
    intro X hP hw hK hc i pins s σ H E I hf st hg
    subst hP hw hK
    obtain ⟨⟨old, he⟩, hit⟩ := st
    obtain ⟨f0, f1, f2, f3, f4, f5⟩ := hf it (by simp)
    obtain ⟨xs, hq, hi⟩ := hg
    obtain ⟨its, rv, p, hz⟩ := I.tuple hq
    have hi2 : i = its.toArray.size := by rw [List.size_toArray, hi, rv.length]
    subst hi2
    exact wpAny_pyNext_enum_endD (St := fun i h => h.IsTupleIter it a i ∧ h.IsTuple a its.toArray) (Draws.tuple (A := X.A.in1) (I.ok.hd hc) it a hai its.toArray) he ⟨hit, p⟩ fun h' eb => ⟨rfl, I.turned (t' := s.toks) (fun b o hb q => eb b o hb q) f0 f1 f3 f4 f5⟩
  self := fun A i s Q E st h => by
    obtain ⟨⟨_, he⟩, _⟩ := st
    exact wpAny_pyIter_enum he h
end
def iEnumS (ta : TA) : TI := fun σ H R => ta σ H fun vs H1 => ∃ x, vs = [.str x] ∧ R (Ites x) H1
def iEnumT (K : PySem.W.Frag) (ta : TA) : TI := fun σ H R => ta σ H fun vs H1 => ∃ a xs, vs = [.ref a] ∧ SqT K H1 a xs ∧ R (Itet K a) H1
section
variable {X : Cx} {e : Expr} {ta : TA} {p pos tpos : Pos} {elts : List Expr} {kk : Nat}
theorem pi_enumS (hg : Gl X "enumerate") (hm : X.mg "enumerate" = none) (ha : PA X [e] ta) (hs : starEach [e] X.env = [(false, eval e X.env)] := by rfl) : PI X (.Tuple elts kk tpos) (.Call (.Name "enumerate" p) [e] [] pos) (iEnumS ta) := by
  refine ⟨fun pins s σ H R I h => ?_⟩
  refine Call_ (ld_blt I hg hm boot_enumerate (PyProof.Rows.callWith_type1 (thn (ha.run pos pins s σ H _ I h) fun us s1 ⟨vs, H1, I1, r1, x, ex, q⟩ => ?_) hs rfl))
  subst ex
  cases r1 with
  | @cons _ u _ _ r rr =>
    cases rr
    obtain ⟨t, rfl⟩ := r
    refine enum_any (begins_text x t) trivial fun h' he hit hk => wpAny_pyIter_enum he ?_
    have I2 : Inv X pins σ H1 { s1 with heap := h' } := I1.kept (t' := s1.toks) hk
    refine ⟨s1.heap.objs.size + 1, [s1.heap.objs.size + 1, s1.heap.objs.size], _, _, H1, rfl, I2, turn_enums (x := x) (t := t) _ _ (Nat.succ_ne_self _), ⟨⟨.none, he⟩, ⟨_, hit, rfl, rfl⟩⟩, fun b hb => ?_, q⟩
    have hle : s1.heap.objs.size ≤ b := by
      rcases (show b = s1.heap.objs.size + 1 ∨ b = s1.heap.objs.size by simpa using hb) with z | z
      · rw [z]; exact Nat.le_add_right _ _
      · rw [z]; exact Nat.le_refl _
    exact I1.fpOk hle (I1.hok.fresh hle)
theorem pi_enumT (hg : Gl X "enumerate") (hm : X.mg "enumerate" = none) (ha : PA X [e] ta) (hs : starEach [e] X.env = [(false, eval e X.env)] := by rfl) : PI X (.Tuple elts kk tpos) (.Call (.Name "enumerate" p) [e] [] pos) (iEnumT X.K ta) := by
  refine ⟨fun pins s σ H R I h => ?_⟩
  refine Call_ (ld_blt I hg hm boot_enumerate (PyProof.Rows.callWith_type1 (thn (ha.run pos pins s σ H _ I h) fun us s1 ⟨vs, H1, I1, r1, a, xs, ex, hq, q⟩ => ?_) hs rfl))
  subst ex
  cases r1 with
  | @cons _ u _ _ r rr =>
    cases rr
    obtain rfl : u = Value.ref a := r
    obtain ⟨its, rv, p', hz⟩ := I1.tuple hq
    have hal : a < s1.heap.objs.size := by obtain ⟨_, z, _⟩ := p'; exact Heap.lt_size z
    refine enum_any (begins_tuple a its.toArray) p' fun h' he hit hk => wpAny_pyIter_enum he ?_
    have I2 : Inv X pins σ H1 { s1 with heap := h' } := I1.kept (t' := s1.toks) hk
    refine ⟨s1.heap.objs.size + 1, [s1.heap.objs.size + 1, s1.heap.objs.size], _, _, H1, rfl, I2, turn_enumt (a := a) _ _ (Nat.succ_ne_self _) (Nat.ne_of_lt (Nat.lt_succ_of_lt hal)) (Nat.ne_of_lt hal), ⟨⟨.none, he⟩, ⟨_, hit, rfl, rfl⟩⟩, fun b hb => ?_, q⟩
    have hle : s1.heap.objs.size ≤ b := by
      rcases (show b = s1.heap.objs.size + 1 ∨ b = s1.heap.objs.size by simpa using hb) with z | z
      · rw [z]; exact Nat.le_add_right _ _
      · rw [z]; exact Nat.le_refl _
    exact I1.fpOk hle (I1.hok.fresh hle)
end
/-- enumerate in a for: an instance of Walk -/
theorem walk_enumS {x : Str} : Walk (Ites x) x.cps.size (fun _ => True) (fun i H v H' => ∃ (T : Addr) (c : Nat), v = .ref T ∧ H T = none ∧ H' = upd H T (.tup [.int (i : Nat), .str ⟨#[c]⟩]) ∧ x.cps[i]? = some c) :=
  ⟨fun i H hi _ => hi, fun H _ => rfl, fun i H v H' hi _ y => y⟩
theorem walk_enumT {K : PySem.W.Frag} {a : Addr} {xs : List V} : Walk (Itet K a) xs.length (fun H => SqT K H a xs) (fun i H v H' => ∃ (T : Addr) (y : V), v = .ref T ∧ H T = none ∧ H' = upd H T (.tup [.int (i : Nat), y]) ∧ xs[i]? = some y) :=
  ⟨fun i H hi g => ⟨xs, xs[i], g, List.getElem?_eq_getElem hi⟩, fun H g => ⟨xs, g, rfl⟩, fun i H v H' hi g ⟨T, y, e1, e2, e3, e4⟩ => ⟨T, y, e1, e2, e3, e4 xs g⟩⟩
end TH
end
section
set_option Elab.async false
set_option maxRecDepth 100000
set_option maxHeartbeats 4000000
set_option linter.all false
namespace TH
open PySem PySem.Spec PyProof.Rows L2
section
open PySem.W
variable {prog : Program} {w : World} {M : Model} {A : Around} {E : Value → Shared → Prop} {s : Shared} {K : Frag} {x C D f : Addr} {ox : Obj} {od : Option Obj} {nm : String}
end
/-- C(*e), the class by its name; c(*e), the class in a slot -/
def tMakeS (K : PySem.W.Frag) (C : Addr) (sp : Sp) (E : XK) (te : TE) : TE := fun σ H Q => te σ H fun y H1 => ∃ a xs, y = V.ref a ∧ (SqT K H1 a xs ∨ SqL K H1 a xs) ∧ ∀ x dx, H1 x = Option.none → H1 dx = Option.none → dx ≠ x →
  sp (V.ref x :: xs) (upd (upd H1 dx (.own x)) x (.ins C dx [])) (fun v H2 => v = .non ∧ Q (.ref x) H2) E
section
variable {X : Cx} {CX : CXT} {k : Nat} {f C : Addr} {sp : Sp} {E : XK} {x : Str} {e : Expr} {te tf : TE} {p spo pos : Pos}
theorem pe_makeS (M : Mk X.K C f) (F : FnR X.prog X.w X.K X.mg X.base CX k f sp) (hr : Room (k + 1) X.A) (hg : Gl X x) (hm : X.mg x = some (.ref C)) (hx : Passes CX X E) (he : PE X e te) (hdb : (x == ("__debug__" : Str)) = false := by decide)
    (hst : starEach [.Starred e spo] X.env = [(true, eval e X.env)] := by rfl) : PE X (.Call (.Name x p) [.Starred e spo] [] pos) (tMakeS X.K C sp E te) := by
  refine ⟨fun pins s σ H Q I h => ?_⟩
  refine wpAny_Call_Name_kw (ld_glob I hg hm ?_ hdb)
  refine PySem.W.callWith_S (h₀ := X.base) I.ok.mod.kin M.kp (thn (he.run pins s σ H _ I h) fun v s1 ⟨y, H1, I1, ry, a, xs, ey, hxs, q⟩ => ?_) hst
  subst ey
  obtain rfl : v = Value.ref a := ry
  exact StX.star_any I1 hxs fun us s2 I2 rv => ⟨I2.kIn, StX.run_makeR M F hr hx I2 rv q⟩
/-- the class is what the name of the def holds -/
theorem pe_makeSv (M : Mk X.K C f) (F : FnR X.prog X.w X.K X.mg X.base CX k f sp) (hr : Room (k + 1) X.A) (hf : PE X (.Name x p) tf) (hx : Passes CX X E) (he : PE X e te)
    (hst : starEach [.Starred e spo] X.env = [(true, eval e X.env)] := by rfl) : PE X (.Call (.Name x p) [.Starred e spo] [] pos) (fun σ H Q => tf σ H fun c H1 => c = .ref C ∧ tMakeS X.K C sp E te σ H1 Q) := by
  refine ⟨fun pins s σ H Q I h => ?_⟩
  refine wpAny_Call_Name_kw (thn (hf.run pins s σ H _ I h) fun u s0 ⟨c, H0, I0, rc, ec, h⟩ => ?_)
  subst ec
  obtain rfl : u = Value.ref C := rc
  refine PySem.W.callWith_S (h₀ := X.base) I.ok.mod.kin M.kp (thn (he.run pins s0 σ H0 _ I0 h) fun v s1 ⟨y, H1, I1, ry, a, xs, ey, hxs, q⟩ => ?_) hst
  subst ey
  obtain rfl : v = Value.ref a := ry
  exact StX.star_any I1 hxs fun us s2 I2 rv => ⟨I2.kIn, StX.run_makeR M F hr hx I2 rv q⟩
end
end TH
end
namespace TH
end TH
namespace TH
end TH
namespace TM
end TM
section
set_option maxHeartbeats 4000000
set_option linter.all false
namespace TM
def mb (l : List Nat) : List Nat := l.filter fun c => c != 46
def dots (n : Nat) : List Nat := List.replicate n 46
theorem mb_le (l : List Nat) : (mb l).length ≤ l.length := List.length_filter_le _ _
theorem mb_dots (n : Nat) : mb (dots n) = [] := by
  unfold mb dots
  rw [List.filter_eq_nil_iff]
  intro a ha
  rw [(List.mem_replicate.mp ha).2]
  decide
theorem mb_app (a b : List Nat) : mb (a ++ b) = mb a ++ mb b := List.filter_append ..
abbrev Grid := List (List Nat)
def Rect (n m : Nat) (g : Grid) : Prop := g.length = n ∧ ∀ r ∈ g, r.length = m
end TM
end
section
set_option Elab.async false
set_option maxRecDepth 100000
set_option linter.all false
namespace TK
open PySem L2
def top (i : Nat) : Stmt := PySem.Challenge.pw_tiltheap_k03_trays.main.body.getD i (.Pass ⟨0, 0, 0, 0⟩)
abbrev sInvalidTrayInit : Stmt := inClass (top 4) 0
abbrev sUnknownMarbleInit : Stmt := inClass (top 5) 0
abbrev sIsNumber : Stmt := top 10
abbrev sIsPlace : Stmt := top 11
abbrev sCheckPlace : Stmt := top 12
abbrev sTrayInit : Stmt := inClass (top 25) 0
abbrev sTrayOfText : Stmt := inClass (top 25) 1
abbrev sTrayRows : Stmt := inClass (top 25) 2
abbrev sTrayMarbles : Stmt := inClass (top 25) 3
abbrev sTrayHeight : Stmt := inClass (top 25) 4
abbrev sTrayWidth : Stmt := inClass (top 25) 5
abbrev sTrayAt : Stmt := inClass (top 25) 6
abbrev sTrayCall : Stmt := inClass (top 25) 7
abbrev sTrayContains : Stmt := inClass (top 25) 8
abbrev sTrayEq : Stmt := inClass (top 25) 10
abbrev sFirstWrongCell : Stmt := top 26
abbrev sIsRow : Stmt := top 27
abbrev sLawTaken : Stmt := top 31
abbrev sLawAlike : Stmt := top 32
abbrev sLawRaised : Stmt := top 33
abbrev sLawRows : Stmt := top 34
abbrev sLawAreRejected : Stmt := top 35
abbrev sLaw : Stmt := top 36
/-- a text by its signs; one sign -/
abbrev S (t : List Nat) : Str := ⟨t.toArray⟩
abbrev sg (c : Nat) : V := .str ⟨#[c]⟩
theorem S_len (t : List Nat) : (S t).length = t.length := SX.S_len t
theorem S_size (t : List Nat) : (S t).cps.size = t.length := by simp [S]
theorem S_at (t : List Nat) (i : Nat) : (S t).cps[i]? = t[i]? := by simp [S]
theorem S_list (t : List Nat) : (S t).cps.toList = t := by simp [S]
theorem S_inj {a b : List Nat} (h : S a = S b) : a = b := SX.S_inj h
theorem join_S (a : List Nat) (ys : List (List Nat)) : Txt.join (S a) (ys.map S) = S (TL.joinL a ys) := SX.join_S a ys
theorem joinL_nil : ∀ l : List (List Nat), TL.joinL [] l = l.flatten
  | [] => rfl
  | [p] => by simp [TL.joinL]
  | p :: q :: r => by
    have := joinL_nil (q :: r)
    simp only [TL.joinL, List.nil_append, this, List.flatten_cons]
theorem flat_ones : ∀ l : List Nat, (l.map fun c => [c]).flatten = l
  | [] => rfl
  | c :: r => by simp [flat_ones r]
theorem join_signs (l : List Nat) : Txt.join (Str.ofString "") (l.map fun c => S [c]) = S l := by
  have e := join_S [] (l.map fun c => [c])
  rw [List.map_map, joinL_nil, flat_ones] at e
  exact e
theorem sum_ones (l : List Nat) : ((l.map fun c => S [c]).map (·.length)).sum = l.length := by
  induction l with
  | nil => rfl
  | cons c r ih =>
    rw [List.map_cons, List.map_cons, List.sum_cons, ih]
    show 1 + r.length = r.length + 1
    omega
theorem same_new {H : Hp} {l : Addr} {o : HO} (h : H l = none) : Same H (upd H l o) := fun b o' e => by
  rw [upd_ne (ne_of_none e h)]
  exact e
theorem _root_.L2.Same.tup {K : PySem.W.Frag} {H H' : Hp} {a : Addr} {xs : List V} (e : Same H H') (h : SqT K H a xs) : SqT K H' a xs := by
  rcases h with (h | ⟨o, h⟩) | h
  · exact .inl (.inl (e _ _ h))
  · exact .inl (.inr ⟨o, e _ _ h⟩)
  · exact .inr h
/-- a store at an address that was new -/
theorem same_put {H H1 : Hp} {l : Addr} {o : HO} (s : Same H H1) (h : H l = none) : Same H (upd H1 l o) := fun b o' e => by
  rw [upd_ne (ne_of_none e h)]
  exact s b o' e
end TK
end
section
set_option Elab.async false
set_option maxRecDepth 100000
set_option linter.all false
namespace TK
open PySem L2 TM
/-- what is written about words -/
structure TxtW (K : PySem.W.Frag) (mg : Str → Option Value) : Prop where
  len : mg "len" = none
  isi : mg "isinstance" = none
  str : mg "str" = none
  enum : mg "enumerate" = none
  AR : ∃ u, mg "ALONG_ROWS" = some u ∧ RelV (.str (S [108, 114])) u
  AC : ∃ u, mg "ALONG_COLUMNS" = some u ∧ RelV (.str (S [117, 100])) u
section
variable {P : Program} {w : World} {K : PySem.W.Frag} {mg : Str → Option Value} {base : Heap}
end
end TK
end
namespace TK
end TK
section
set_option Elab.async false
set_option maxRecDepth 100000
set_option linter.all false
namespace TK
open PySem L2 TM
def letters : List Nat := [97, 98, 99, 100, 101, 102, 103, 104, 105, 106, 107, 108, 109, 110, 111, 112, 113, 114, 115, 116, 117, 118, 119, 120, 121, 122]
/-- a cell's sign: empty or a marble -/
def Cell (c : Nat) : Prop := c = 46 ∨ (97 ≤ c ∧ c ≤ 122)
theorem cell_in {c : Nat} (h : Cell c) : c ∈ [46] ++ letters := by
  unfold Cell at h
  simp only [letters, List.mem_append, List.mem_cons, List.not_mem_nil, or_false]
  omega
/-- rows that make a tray -/
structure VG (n m : Nat) (g : Grid) : Prop where
  rc : Rect n m g
  n1 : 1 ≤ n
  n8 : n ≤ 8
  m1 : 1 ≤ m
  m8 : m ≤ 8
  ok : ∀ r ∈ g, ∀ c ∈ r, Cell c
  nd : (mb g.flatten).Nodup
abbrev rowV (g : Grid) : List V := g.map fun r => V.str (S r)
theorem fresh {a b : List Nat} {c : Nat} (h : (mb (a ++ c :: b)).Nodup) : c ∉ mb a := fun hc => by
  have h46 : (c != 46) = true := (List.mem_filter.mp hc).2
  have e : mb (c :: b) = c :: mb b := by
    unfold mb
    rw [List.filter_cons, if_pos h46]
  rw [mb_app, e] at h
  exact (List.nodup_append.mp h).2.2 c hc c List.mem_cons_self rfl
/-- what comes ahead of the cell in column j of row i -/
def ahead (g : Grid) (r : List Nat) (i j : Nat) : List Nat := (g.take i).flatten ++ r.take j
theorem ahead_all {g : Grid} {r : List Nat} {i j c : Nat} (hr : g[i]? = some r) (hc : r[j]? = some c) : ∃ b, g.flatten = ahead g r i j ++ c :: b := by
  have hi := (List.getElem?_eq_some_iff.mp hr).1
  have hj := (List.getElem?_eq_some_iff.mp hc).1
  have e1 : g = g.take i ++ r :: g.drop (i + 1) := by
    have := (List.getElem?_eq_some_iff.mp hr).2
    rw [← this]
    simp
  have e2 : r = r.take j ++ c :: r.drop (j + 1) := by
    have := (List.getElem?_eq_some_iff.mp hc).2
    rw [← this]
    simp
  refine ⟨r.drop (j + 1) ++ (g.drop (i + 1)).flatten, ?_⟩
  unfold ahead
  conv => lhs; rw [e1, List.flatten_append, List.flatten_cons, e2]
  simp
theorem mb_step {a : List Nat} {c : Nat} (h : c ≠ 46) : mb (a ++ [c]) = mb a ++ [c] := by
  rw [mb_app]
  simp [mb, h]
theorem mb_dot {a : List Nat} : mb (a ++ [46]) = mb a := by
  rw [mb_app]
  simp [mb]
/-- what is written about trays; t0: the text EMPTY's own token -/
structure TxtT (K : PySem.W.Frag) (mg : Str → Option Value) (t0 : Tok) : Prop where
  EM : mg "EMPTY" = some (.str (S [46]) t0)
  LE : ∃ u, mg "LETTERS" = some u ∧ RelV (.str (S letters)) u
  MS : ∃ u, mg "MAX_SIDE" = some u ∧ RelV (.int 8) u
  set : mg "set" = none
  zip : mg "zip" = none
  tup : mg "tuple" = none
theorem TxtT.em {K : PySem.W.Frag} {mg : Str → Option Value} {t0 : Tok} (T : TxtT K mg t0) : ∃ u, mg "EMPTY" = some u ∧ RelV (.str (S [46])) u := ⟨_, T.EM, ⟨_, rfl⟩⟩
section
variable {P : Program} {w : World} {K : PySem.W.Frag} {mg : Str → Option Value} {base : Heap} {t0 : Tok} {fR : Addr} {fdR : FuncData}
theorem scIr : FnScope ["row"] ["row"] (defScope sIsRow) := ⟨rfl, rfl, rfl, by decide +kernel, rfl, by decide +kernel, by decide +kernel⟩
/-- the marbles of l are in the set at p -/
def Seen (P : Program) (w : World) (H : Hp) (p : Addr) (l : List Nat) (k : Nat) : Prop := ∃ (Z : Key → Bool) (n : Nat), H p = some (SetK P w p Z n) ∧ n ≤ k ∧ ∀ c : Nat, Z (.inr (S [c])) = decide (c ∈ mb l)
theorem one_inj {c d : Nat} : (Sum.inr (S [c]) : Key) = .inr (S [d]) ↔ c = d := ⟨fun h => by
  have := S_inj (Sum.inr.inj h)
  simpa using this, fun h => by rw [h]⟩
theorem scFc : FnScope ["rows", "seen", "number", "row", "column", "cell"] ["rows"] (defScope sFirstWrongCell) := ⟨rfl, rfl, rfl, by decide +kernel, rfl, by decide +kernel, by decide +kernel⟩
end
end TK
end
section
set_option Elab.async false
set_option maxRecDepth 100000
set_option linter.all false
namespace TK
open PySem L2 TM
structure ClsT (K : PySem.W.Frag) (mg : Str → Option Value) (D : Addr) : Prop where
  cl : Cls K D
  nR : NoAttr K D "_rows"
  mgC : mg "Tray" = some (.ref D)
def TrayAt (K : PySem.W.Frag) (D : Addr) (H : Hp) (p : Addr) (g : Grid) : Prop := ∃ dx a, H p = some (.ins D dx [("_rows", .ref a)]) ∧ SqT K H a (rowV g)
theorem TrayAt.same {K : PySem.W.Frag} {D p : Addr} {H H' : Hp} {g : Grid} (h : TrayAt K D H p g) (s : Same H H') : TrayAt K D H' p g := by
  obtain ⟨dx, a, h, t⟩ := h
  exact ⟨dx, a, s _ _ h, s.tup t⟩
theorem VG.len {n m : Nat} {g : Grid} (G : VG n m g) : g.length ≤ 8 := by rw [G.rc.1]; exact G.n8
theorem VG.row {n m : Nat} {g : Grid} (G : VG n m g) {r : List Nat} (h : r ∈ g) : r.length ≤ 8 := by rw [G.rc.2 r h]; exact G.m8
theorem VG.ne {n m : Nat} {g : Grid} (G : VG n m g) : g ≠ [] := fun e => by
  have := G.n1
  have := G.rc.1
  subst e
  simp at *
  omega
theorem joinL_len (sep : List Nat) (k : Nat) : ∀ g : Grid, (∀ r ∈ g, r.length ≤ k) → (TL.joinL sep g).length ≤ g.length * (k + sep.length)
  | [], _ => Nat.zero_le _
  | [p], h => by
    have := h p List.mem_cons_self
    show p.length ≤ 1 * _
    omega
  | p :: q :: r, h => by
    have h1 := joinL_len sep k (q :: r) fun z hz => h z (List.mem_cons_of_mem _ hz)
    have h2 := h p List.mem_cons_self
    simp only [TL.joinL, List.length_append, List.length_cons, Nat.add_mul, Nat.mul_add] at *
    omega
theorem lf_not {n m : Nat} {g : Grid} (G : VG n m g) : ∀ r ∈ g, 10 ∉ r := fun r hr h10 => by
  have := G.ok r hr 10 h10
  unfold Cell at this
  omega
section
variable {P : Program} {w : World} {K : PySem.W.Frag} {mg : Str → Option Value} {base : Heap} {D fF : Addr} {fdF : FuncData}
theorem scTi : FnScope ["self", "rows", "wrong", "row", "column"] ((["self"] : List Str) ++ (["rows"] : List Str)) (defScope sTrayInit) := ⟨rfl, rfl, rfl, by decide +kernel, rfl, by decide +kernel, by decide +kernel⟩
theorem seq_but {K : PySem.W.Frag} {H H' : Hp} {p a : Addr} {o : HO} {xs : List V} (h : SqT K H a xs) (hp : H p = some o) (ho : ∀ u xs, o ≠ .frz u (.tup xs) ∧ o ≠ .tup xs) (kp : ∀ b o, H b = some o → b ≠ p → H' b = some o) : SqT K H' a xs := by
  rcases h with (h | ⟨u, h⟩) | h
  · exact .inl (.inl (kp _ _ h fun e => by subst e; exact (ho ⟨.none, none, .plain, #[]⟩ xs).2 (Option.some.inj (hp.symm.trans h))))
  · exact .inl (.inr ⟨u, kp _ _ h fun e => by subst e; exact (ho u xs).1 (Option.some.inj (hp.symm.trans h))⟩)
  · exact .inr h
theorem scOt : FnScope ["cls", "text", "rows"] ["cls", "text"] (defScope sTrayOfText) := ⟨rfl, rfl, rfl, by decide +kernel, rfl, by decide +kernel, by decide +kernel⟩
end
end TK
end
namespace TK
end TK
section
set_option Elab.async false
set_option maxRecDepth 100000
set_option linter.all false
namespace TK
open PySem L2 TM
open PySem.Spec PyProof.Rows TH
theorem at_map {α β : Type} {l : List α} {f : α → β} {i : Nat} {y : β} (h : (l.map f)[i]? = some y) : ∃ r, l[i]? = some r ∧ y = f r := by
  rw [List.getElem?_map] at h
  cases e : l[i]? with
  | none => rw [e] at h; cases h
  | some r => rw [e] at h; exact ⟨r, rfl, (Option.some.inj h).symm⟩
theorem dL (c d : Nat) : decide (sg c = V.str (S [d])) = (c == d) := by
  by_cases h : c = d
  · subst h; simp
  · simp [h]
/-- o.join(e), its reading by K -/
def rJn (K : PySem.W.Frag) : V → List V → Hp → VK → Prop := fun x xs H Q => ∃ a p, ∃ ys : List Str, x = .str a ∧ xs = [.ref p] ∧ (SqL K H p (ys.map V.str) ∨ SqT K H p (ys.map V.str)) ∧ (ys.map (·.length)).sum + ys.length * a.length ≤ 16777216 ∧ Q (.str (Txt.join a ys)) H
theorem pe_joinK {X : Cx} {K : PySem.W.Frag} {o e : Expr} {to te : TE} {apos pos : Pos} (hK : X.K = K) (ho : PE X o to) (he : PE X e te) (hs : starEach [e] X.env = [(false, eval e X.env)] := by rfl) (hbase : attributeBase o "join" X.env (eval o X.env) = eval o X.env := by rfl) (hline : (apos.endLine == pos.line) = true := by rfl) :
    PE X (.Call (.Attribute o "join" apos) [e] [] pos) (tM1 (rJn K) to te) := by
  subst hK
  exact pe_join ho he hs hbase hline
section
variable {P : Program} {w : World} {K : PySem.W.Frag} {mg : Str → Option Value} {base : Heap} {t0 : Tok} {n : Nat} {fS : Addr}
end
end TK
end
namespace TK
end TK
section
set_option Elab.async false
set_option maxRecDepth 100000
set_option linter.all false
namespace TK
open PySem L2 TM
structure TxtL (K : PySem.W.Frag) (mg : Str → Option Value) : Prop where
  int : mg "int" = none
  range : mg "range" = none
  min : mg "min" = none
/-- the script's list at a, where the drawing stands at r -/
def RowAt (K : PySem.W.Frag) (a : Addr) (ns : List Int) (H : Hp) (r : Addr) : Prop := ∃ i seed rest : Int, H r = some (.lst [.ref a, .int i, .int seed, .int rest]) ∧ 0 ≤ i ∧ SqL K H a (ns.map V.int)
def But (r : Addr) (H H' : Hp) : Prop := ∀ b o, H b = some o → b ≠ r → H' b = some o
theorem But.refl (r : Addr) (H : Hp) : But r H H := fun _ _ h _ => h
theorem But.trans {r : Addr} {H H1 H2 : Hp} (a : But r H H1) (b : But r H1 H2) : But r H H2 := fun c o h n => b c o (a c o h n) n
theorem But.same {r : Addr} {H H' : Hp} (s : Same H H') : But r H H' := fun b o h _ => s b o h
theorem RowAt.same {K : PySem.W.Frag} {a r : Addr} {ns : List Int} {H H' : Hp} (R : RowAt K a ns H r) (s : Same H H') : RowAt K a ns H' r := by
  obtain ⟨i, d, e, h, hi, q⟩ := R
  exact ⟨i, d, e, s _ _ h, hi, s.seq q⟩
theorem row_seq {K : PySem.W.Frag} {a r : Addr} {ns : List Int} {H : Hp} {i d e : Int} {o : HO} (h : H r = some (.lst [.ref a, .int i, .int d, .int e])) (q : SqL K H a (ns.map V.int)) : SqL K (upd H r o) a (ns.map V.int) := by
  have hne : ∀ {u : HO}, H a = some u → (∀ xs, u = .lst xs → xs ≠ [.ref a, .int i, .int d, .int e]) → a ≠ r := fun hu hn e' => by
    subst e'
    exact hn _ (Option.some.inj (hu.symm.trans h)) rfl
  rcases q with (q | ⟨u, q⟩) | q
  · refine .inl (.inl ?_)
    rw [upd_ne (hne q fun xs e => by
      cases e
      intro z
      cases ns with
      | nil => simp at z
      | cons n r => simp at z)]
    exact q
  · refine .inl (.inr ⟨u, ?_⟩)
    rw [upd_ne (hne q fun xs e => by cases e)]
    exact q
  · exact .inr q
theorem fmod_in {k m : Int} (h : 1 ≤ m) : 0 ≤ k.fmod m ∧ k.fmod m < m := by
  rw [Int.fmod_eq_emod_of_nonneg _ (by omega)]
  exact ⟨Int.emod_nonneg _ (by omega), Int.emod_lt_of_pos _ (by omega)⟩
section
variable {P : Program} {w : World} {K : PySem.W.Frag} {mg : Str → Option Value} {base : Heap}
theorem scTk : FnScope ["_law_row", "_law_many", "_law_found", "_law_cell"] ["_law_row", "_law_many"] (defScope sLawTaken) := ⟨rfl, rfl, rfl, by decide +kernel, rfl, by decide +kernel, by decide +kernel⟩
def spTk (K : PySem.W.Frag) (a : Addr) (ns : List Int) : Sp := fun vs H Q _ => ∃ (r : Addr) (m : Int), vs = [.ref r, .int m] ∧ RowAt K a ns H r ∧ 1 ≤ m ∧ m ≤ 1000000000 ∧ ∀ H' (k : Nat), (k : Int) < m → RowAt K a ns H' r → But r H H' → Q (.int k) H'
theorem ok_tk {a : Addr} {ns : List Int} {f : Addr} {fd : FuncData} (F : Fun K "_law_taken" "_law_taken" sLawTaken f fd) (T : TxtW K mg) (L : TxtL K mg) : FnOk P w K mg base CX0 1 f fd ["_law_row", "_law_many"] (spTk K a ns) := by
  refine F.ok scTk (fun vs H Q E h => ?_) (fun cdv A outer s H vs Q E hr h => ?_)
  · obtain ⟨r, m, rfl, _⟩ := h
    rfl
  · obtain ⟨r, m, rfl, ⟨i, d, e, hR, hi, hS⟩, m1, m2, k⟩ := h
    have nd := scTk.nd
    refine ⟨_, pss_cons (ps_if (pt_cmpR op_gt (pe_ix ix_list (pv 0) pe_int (fun _ _ => rfl)) pe_int (nomark _))
        (pss_cons (ps_set (i := 2) nd rfl (.inl rfl) (pe_op op_modN (pe_callTy call_int1 (by rfl) L.int (by decide +kernel) (pa_cons (pe_ix ix_list (pv 0) pe_int (fun _ _ => rfl)) pa_nil)) (pv 1)))
        (pss_cons (ps_asg (pe_op op_fdivN (pe_ix ix_list (pv 0) pe_int (fun _ _ => rfl)) (pv 1)) (pg_sub (pv 0) pe_int set_list))
        (pss_one (ps_ret (pv 2))))) pss_nil)
      (C8.pss_cut (ps_asg (pe_op op_add (pe_ix ix_list (pv 0) pe_int (fun _ _ => rfl)) pe_int) (pg_sub (pv 0) pe_int set_list))
      (pss_cons (ps_if (pt_cmpR op_gt (pe_ix ix_list (pv 0) pe_int (fun _ _ => rfl)) (pe_callB call_len_seq (by rfl) T.len PySem.boot_len (pa_cons (pe_ix ix_list (pv 0) pe_int (fun _ _ => rfl)) pa_nil)) (nomark _))
        (pss_cons (ps_asg (pe_op op_modN (pe_callTy call_int1 (by rfl) L.int (by decide +kernel) (pa_cons (pe_op op_add (pe_op op_mul (pe_ix ix_list (pv 0) pe_int (fun _ _ => rfl)) pe_int) pe_int) pa_nil)) pe_int) (pg_sub (pv 0) pe_int set_list))
        (pss_one (ps_ret (pe_op op_modN (pe_callTy call_int1 (by rfl) L.int (by decide +kernel) (pa_cons (pe_op op_fdivN (pe_ix ix_list (pv 0) pe_int (fun _ _ => rfl)) pe_int) pa_nil)) (pv 1))))) pss_nil)
      (pss_cons (ps_set (i := 3) nd rfl (.inl rfl) (pe_ix ix_list (pe_ix ix_list (pv 0) pe_int (fun _ _ => rfl)) (pe_op op_sub (pe_ix ix_list (pv 0) pe_int (fun _ _ => rfl)) pe_int) (fun _ _ => rfl)))
      (C8.pss_cut (ps_asg (pe_op op_modN (pe_callTy call_int1 (by rfl) L.int (by decide +kernel) (pa_cons (pe_op op_add (pe_op op_add (pe_op op_mul (pe_ix ix_list (pv 0) pe_int (fun _ _ => rfl)) pe_int) (pv 3)) pe_int) pa_nil)) pe_int) (pg_sub (pv 0) pe_int set_list))
      (C8.pss_cut (ps_if (pt_cmpR op_ge (pv 3) (pe_op op_pow pe_int pe_int) (nomark _)) (pss_one (ps_asg (pe_op op_fdivN (pv 3) (pv 1)) (pg_sub (pv 0) pe_int set_list))) pss_nil)
      (pss_one (ps_ret (pe_op op_modN (pe_callTy call_int1 (by rfl) L.int (by decide +kernel) (pa_cons (pv 3) pa_nil)) (pv 1))))))))), ?_⟩
    have m0 : m ≠ 0 := by omega
    have mb : m ≠ 0 ∧ m.natAbs < 1073741824 := ⟨m0, by omega⟩
    have row : ∀ {H1 : Hp} {i d e : Int}, H1 r = some (.lst [.ref a, .int i, .int d, .int e]) → 0 ≤ i → SqL K H1 a (ns.map V.int) → RowAt K a ns H1 r := fun h1 h2 h3 => ⟨_, _, _, h1, h2, h3⟩
    have but : ∀ {H1 : Hp} {o : HO}, But r H H1 → But r H (upd H1 r o) := fun b c o h n => by rw [upd_ne n]; exact b c o h n
    refine ⟨_, rfl, r, _, _, _, rfl, rfl, SqL.of hR, rfl, _, _, rfl, rfl, _, rfl, ?_⟩
    by_cases he : e > 0
    · rw [decide_eq_true he]
      refine iteT ⟨_, rfl, r, _, _, _, rfl, rfl, SqL.of hR, rfl, .inl ⟨_, rfl, _, rfl, _, _, rfl, rfl, m0, ?_⟩⟩
      refine ⟨_, rfl, r, _, _, _, rfl, rfl, SqL.of hR, rfl, _, rfl, _, _, rfl, rfl, mb, _, rfl, r, _, _, 3, rfl, rfl, hR, rfl, ?_⟩
      refine ⟨_, rfl, ?_⟩
      have hk := fmod_in (k := e) m1
      have := k (upd H r (.lst [.ref a, .int i, .int d, .int (e.fdiv m)])) (e.fmod m).toNat (by omega) (row upd_same hi (row_seq hR hS)) (but (But.refl r H))
      rw [Int.toNat_of_nonneg hk.1] at this
      exact this
    · rw [decide_eq_false he]
      refine iteF ?_
      refine ⟨fun σ H1 => σ = [some (.ref r), some (.int m), none, none] ∧ H1 r = some (.lst [.ref a, .int (i + 1), .int d, .int e]) ∧ SqL K H1 a (ns.map V.int) ∧ But r H H1, ?_, ?_⟩
      · refine ⟨_, rfl, r, _, _, _, rfl, rfl, SqL.of hR, rfl, _, _, rfl, rfl, _, rfl, r, _, _, 1, rfl, rfl, hR, rfl, ?_⟩
        exact ⟨rfl, upd_same, row_seq hR hS, but (But.refl r H)⟩
      rintro σ H1 ⟨rfl, hR1, hS1, b1⟩
      refine ⟨_, rfl, r, _, _, _, rfl, rfl, SqL.of hR1, rfl, _, rfl, r, _, _, _, rfl, rfl, SqL.of hR1, rfl, a, _, rfl, .inl hS1, _, _, rfl, rfl, _, rfl, ?_⟩
      rw [List.length_map]
      by_cases hl : i + 1 > (ns.length : Int)
      · rw [decide_eq_true hl]
        refine iteT ⟨_, rfl, r, _, _, _, rfl, rfl, SqL.of hR1, rfl, _, _, rfl, rfl, .inr (by decide), _, _, rfl, rfl, .inl ⟨_, rfl, _, _, rfl, rfl, (by show (2147483647 : Int) ≠ 0; decide), _, rfl, r, _, _, 2, rfl, rfl, hR1, rfl, ?_⟩⟩
        refine ⟨_, rfl, r, _, _, _, rfl, rfl, SqL.of upd_same, rfl, _, _, rfl, rfl, (by show (7 : Int) ≠ 0 ∧ (7 : Int).natAbs < 1073741824; decide), .inl ⟨_, rfl, _, rfl, _, _, rfl, rfl, m0, ?_⟩⟩
        have hk := fmod_in (k := ((d * 48271 + 11).fmod 2147483647).fdiv 7) m1
        have := k (upd H1 r (.lst [.ref a, .int (i + 1), .int ((d * 48271 + 11).fmod 2147483647), .int e])) (((d * 48271 + 11).fmod 2147483647).fdiv 7 |>.fmod m).toNat (by omega) (row upd_same (by omega) (row_seq hR1 hS1)) (but b1)
        rw [Int.toNat_of_nonneg hk.1] at this
        exact this
      · rw [decide_eq_false hl]
        refine iteF ?_
        obtain ⟨c, hc⟩ : ∃ c, ns[i.toNat]? = some c := ⟨_, List.getElem?_eq_getElem (by omega)⟩
        refine ⟨_, rfl, r, _, _, _, rfl, rfl, SqL.of hR1, rfl, _, rfl, r, _, _, _, rfl, rfl, SqL.of hR1, rfl, _, _, rfl, rfl, a, _, _, .int c, rfl, rfl, hS1, ?_, ?_⟩
        · rw [show i + 1 - 1 = ((i.toNat : Nat) : Int) by omega]
          exact atI_nat (by rw [List.getElem?_map, hc]; all_goals rfl)
        refine ⟨fun σ H2 => ∃ d' : Int, σ = [some (.ref r), some (.int m), none, some (.int c)] ∧ H2 r = some (.lst [.ref a, .int (i + 1), .int d', .int e]) ∧ SqL K H2 a (ns.map V.int) ∧ But r H H2, ?_, ?_⟩
        · refine ⟨_, rfl, r, _, _, _, rfl, rfl, SqL.of hR1, rfl, _, _, rfl, rfl, .inr (by decide), _, rfl, _, _, rfl, rfl, _, _, rfl, rfl, .inl ⟨_, rfl, _, _, rfl, rfl, (by show (2147483647 : Int) ≠ 0; decide), _, rfl, r, _, _, 2, rfl, rfl, hR1, rfl, ?_⟩⟩
          exact ⟨_, rfl, upd_same, row_seq hR1 hS1, but b1⟩
        rintro σ H2 ⟨d', rfl, hR2, hS2, b2⟩
        refine ⟨fun σ H3 => ∃ e' : Int, σ = [some (.ref r), some (.int m), none, some (.int c)] ∧ H3 r = some (.lst [.ref a, .int (i + 1), .int d', .int e']) ∧ SqL K H3 a (ns.map V.int) ∧ But r H H3, ?_, ?_⟩
        · refine ⟨_, rfl, _, _, rfl, rfl, ⟨by decide, by decide, by decide⟩, _, _, rfl, rfl, _, rfl, ?_⟩
          refine ite2 (fun _ => ?_) fun _ => ?_
          · refine ⟨_, rfl, _, rfl, _, _, rfl, rfl, mb, _, rfl, r, _, _, 3, rfl, rfl, hR2, rfl, ?_⟩
            exact ⟨_, rfl, upd_same, row_seq hR2 hS2, but b2⟩
          · exact ⟨e, rfl, hR2, hS2, b2⟩
        rintro σ H3 ⟨e', rfl, hR3, hS3, b3⟩
        refine ⟨_, rfl, .inl ⟨_, rfl, _, rfl, _, _, rfl, rfl, m0, ?_⟩⟩
        have hk := fmod_in (k := c) m1
        have := k H3 (c.fmod m).toNat (by omega) (row hR3 (by omega) hS3) b3
        rw [Int.toNat_of_nonneg hk.1] at this
        exact this
end
end TK
end
namespace TK
end TK
section
set_option Elab.async false
set_option maxRecDepth 100000
set_option linter.all false
namespace TK
open PySem L2 TM
abbrev intV (l : List Nat) : List V := l.map fun j => V.int (j : Nat)
theorem range_snoc {p : Nat → Bool} (i : Nat) : (List.range (i + 1)).filter p = (List.range i).filter p ++ (if p i then [i] else []) := by
  rw [List.range_succ, List.filter_append]
  congr 1
  by_cases h : p i <;> simp [h]
section
variable {P : Program} {w : World} {K : PySem.W.Frag} {mg : Str → Option Value} {base : Heap}
end
end TK
end
section
set_option Elab.async false
set_option maxRecDepth 100000
set_option linter.all false
namespace TK
open PySem L2 TM
/-- the cells in rows of w -/
def chunk (h w : Nat) (cs : List Nat) : Grid := (List.range h).map fun i => (cs.drop (i * w)).take w
theorem chunk_flat (w : Nat) (cs : List Nat) : ∀ h, (chunk h w cs).flatten = cs.take (h * w)
  | 0 => by simp [chunk]
  | h + 1 => by
    have ih := chunk_flat w cs h
    unfold chunk at ih ⊢
    rw [List.range_succ, List.map_append, List.flatten_append, ih, List.map_singleton, List.flatten_cons, List.flatten_nil, List.append_nil, Nat.succ_mul]
    exact (List.take_add).symm
theorem chunk_rect {h w : Nat} {cs : List Nat} (hl : cs.length = h * w) : Rect h w (chunk h w cs) := by
  refine ⟨by simp [chunk], fun r hr => ?_⟩
  obtain ⟨i, hi, rfl⟩ := List.mem_map.mp hr
  have hi := List.mem_range.mp hi
  rw [List.length_take, List.length_drop, hl]
  have : (i + 1) * w ≤ h * w := Nat.mul_le_mul_right _ hi
  rw [Nat.succ_mul] at this
  omega
/-- k marbles lie, a, b, .. of them -/
structure Lay (k : Nat) (cs : List Nat) : Prop where
  len : (mb cs).length = k
  nd : (mb cs).Nodup
  ab : ∀ c ∈ mb cs, 97 ≤ c ∧ c < 97 + k
theorem Lay.none (n : Nat) : Lay 0 (List.replicate n 46) := by
  have e : mb (List.replicate n 46) = [] := mb_dots n
  exact ⟨by rw [e]; rfl, by rw [e]; exact List.nodup_nil, by rw [e]; intro c hc; cases hc⟩
theorem Lay.cell {k : Nat} {cs : List Nat} (L : Lay k cs) (hk : k ≤ 26) : ∀ c ∈ cs, Cell c := fun c hc => by
  by_cases h : c = 46
  · exact .inl h
  · have := L.ab c (List.mem_filter.mpr ⟨hc, by simp [h]⟩)
    exact .inr ⟨this.1, by omega⟩
theorem Lay.put {k p : Nat} {cs : List Nat} (L : Lay k cs) (hp : cs[p]? = some 46) : Lay (k + 1) (cs.set p (97 + k)) := by
  have hi := (List.getElem?_eq_some_iff.mp hp).1
  have e1 : cs = cs.take p ++ 46 :: cs.drop (p + 1) := by
    have := (List.getElem?_eq_some_iff.mp hp).2
    rw [← this]
    simp
  have e2 : cs.set p (97 + k) = cs.take p ++ (97 + k) :: cs.drop (p + 1) := List.set_eq_take_append_cons_drop ▸ by rw [if_pos hi]
  have m1 : mb cs = mb (cs.take p) ++ mb (cs.drop (p + 1)) := by
    conv => lhs; rw [e1, mb_app]
    simp [mb]
  have m2 : mb (cs.set p (97 + k)) = mb (cs.take p) ++ (97 + k) :: mb (cs.drop (p + 1)) := by
    rw [e2, mb_app]
    have : (97 + k != 46) = true := by simp; omega
    simp [mb, this]
  have pm : (mb (cs.set p (97 + k))).Perm ((97 + k) :: mb cs) := by
    rw [m1, m2]
    exact List.perm_middle
  have fresh : 97 + k ∉ mb cs := fun h => by
    have := L.ab _ h
    omega
  refine ⟨by rw [pm.length_eq, List.length_cons, L.len], pm.nodup_iff.mpr (List.nodup_cons.mpr ⟨fresh, L.nd⟩), fun c hc => ?_⟩
  rcases List.mem_cons.mp (pm.mem_iff.mp hc) with e | e
  · subst e; omega
  · have := L.ab c e
    omega
/-- the free places -/
def frees (cs : List Nat) (n : Nat) : List Nat := (List.range n).filter fun j => cs.getD j 0 == 46
theorem frees_le (cs : List Nat) (n : Nat) : (frees cs n).length ≤ n := by
  have := List.length_filter_le (fun j => cs.getD j 0 == 46) (List.range n)
  rw [List.length_range] at this
  exact this
theorem frees_at {cs : List Nat} {d p : Nat} (h : (frees cs cs.length)[d]? = some p) : cs[p]? = some 46 := by
  have hm := List.mem_filter.mp (List.mem_of_getElem? h)
  have hp := List.mem_range.mp hm.1
  have h2 := hm.2
  rw [List.getD_eq_getElem?_getD, List.getElem?_eq_getElem hp] at h2
  rw [List.getElem?_eq_getElem hp]
  simpa using h2
theorem frees_pos {k : Nat} {cs : List Nat} (L : Lay k cs) (hk : k < cs.length) : 0 < (frees cs cs.length).length := by
  refine Nat.pos_of_ne_zero fun h0 => ?_
  have e : frees cs cs.length = [] := List.length_eq_zero_iff.mp h0
  have all : ∀ c ∈ cs, (c != 46) = true := fun c hc => by
    obtain ⟨j, hj, rfl⟩ := List.mem_iff_getElem.mp hc
    by_cases q : cs[j] = 46
    · have : j ∈ frees cs cs.length := List.mem_filter.mpr ⟨List.mem_range.mpr hj, by rw [List.getD_eq_getElem?_getD, List.getElem?_eq_getElem hj]; simp [q]⟩
      rw [e] at this
      cases this
    · simp [q]
  have : mb cs = cs := List.filter_eq_self.mpr all
  have := L.len
  rw [‹mb cs = cs›] at this
  omega
theorem lay_VG {h w k : Nat} {cs : List Nat} (L : Lay k cs) (hk : k ≤ 26) (hl : cs.length = h * w) (h1 : 1 ≤ h) (h8 : h ≤ 8) (w1 : 1 ≤ w) (w8 : w ≤ 8) : VG h w (chunk h w cs) := by
  have ef : (chunk h w cs).flatten = cs := by rw [chunk_flat, ← hl, List.take_length]
  refine ⟨chunk_rect hl, h1, h8, w1, w8, fun r hr c hc => ?_, by rw [ef]; exact L.nd⟩
  exact L.cell hk c (by rw [← ef]; exact List.mem_flatten.mpr ⟨r, hr, hc⟩)
end TK
end
section
set_option Elab.async false
set_option maxRecDepth 100000
set_option linter.all false
namespace TK
open PySem L2 TM
theorem ix_listK {X : Cx} {K : PySem.W.Frag} (h : X.K = K) : IxR X (rIxL K) := by
  subst h
  exact ix_list
theorem sl_listK {X : Cx} {K : PySem.W.Frag} (h : X.K = K) : SlR X (rSlL K) := by
  subst h
  exact sl_list
theorem but_put {r l : Addr} {H0 H : Hp} {o : HO} (b : But r H0 H) (h : H0 l = none) : But r H0 (upd H l o) := fun c u e n => by
  rw [upd_ne (ne_of_none e h)]
  exact b c u e n
theorem but_none {r l : Addr} {H0 H : Hp} {x : HO} (b : But r H0 H) (hr : H r = some x) (h : H l = none) : H0 l = none := by
  cases e : H0 l with
  | none => rfl
  | some o =>
    have := b l o e (fun q => by subst q; rw [hr] at h; cases h)
    rw [h] at this
    cases this
theorem RowAt.ne {K : PySem.W.Frag} {a r l : Addr} {ns : List Int} {H : Hp} (R : RowAt K a ns H r) (h : H l = none) : l ≠ r := by
  obtain ⟨_, _, _, e, _⟩ := R
  exact (ne_of_none e h).symm
theorem RowAt.none {K : PySem.W.Frag} {a r l : Addr} {ns : List Int} {H0 H : Hp} (R : RowAt K a ns H r) (b : But r H0 H) (h : H l = none) : H0 l = none := by
  obtain ⟨_, _, _, e, _⟩ := R
  exact but_none b e h
/-- a store at a list that is not the drawing's -/
theorem RowAt.put {K : PySem.W.Frag} {a r l : Addr} {ns : List Int} {H : Hp} {xs ys : List V} (R : RowAt K a ns H r) (hl : H l = some (.lst xs)) (hn : l ≠ r) (hs : ∃ c t, xs = sg c :: t) : RowAt K a ns (upd H l (.lst ys)) r := by
  obtain ⟨i, d, e, h, hi, q⟩ := R
  refine ⟨i, d, e, by rw [upd_ne hn.symm]; exact h, hi, ?_⟩
  obtain ⟨c, t, rfl⟩ := hs
  rcases q with (q | ⟨u, q⟩) | q
  · refine .inl (.inl ?_)
    rw [upd_ne (fun e' => by
      subst e'
      have := Option.some.inj (q.symm.trans hl)
      cases ns with
      | nil => cases this
      | cons n r => cases this)]
    exact q
  · refine .inl (.inr ⟨u, ?_⟩)
    rw [upd_ne (fun e' => by
      subst e'
      have := Option.some.inj (q.symm.trans hl)
      cases this)]
    exact q
  · exact .inr q
def side (k : Nat) : Nat := match k with
  | 0 => 3
  | 1 => 5
  | _ => 8
theorem side_at {k : Nat} (h : k < 3) : ([V.int 3, V.int 5, V.int 8] : List V)[k]? = some (.int (side k : Nat)) := by
  match k, h with
  | 0, _ => rfl
  | 1, _ => rfl
  | 2, _ => rfl
theorem side_1 : ∀ k, 1 ≤ side k ∧ side k ≤ 8
  | 0 => by decide
  | 1 => by decide
  | _ + 2 => by show 1 ≤ 8 ∧ 8 ≤ 8; decide
theorem rep_dots (k : Nat) : (List.replicate k [V.str (S [46])]).flatten = (List.replicate k 46).map sg := by
  induction k with
  | zero => rfl
  | succ k ih =>
    rw [List.replicate_succ, List.flatten_cons, ih, List.replicate_succ, List.map_cons]
    rfl
section
variable {P : Program} {w : World} {K : PySem.W.Frag} {mg : Str → Option Value} {base : Heap} {a : Addr} {ns : List Int} {fT : Addr} {fdT : FuncData}
abbrev NRw : List Str := ["_law_row", "_law_most", "_law_height", "_law_width", "_law_cells", "_law_names", "_law_k", "_law_free", "_law_place"]
theorem scRw : FnScope NRw ["_law_row", "_law_most"] (defScope sLawRows) := ⟨rfl, rfl, rfl, by decide +kernel, rfl, by decide +kernel, by decide +kernel⟩
def spRw (K : PySem.W.Frag) (a : Addr) (ns : List Int) : Sp := fun vs H Q _ => ∃ (r : Addr) (m : Nat), vs = [.ref r, .int m] ∧ RowAt K a ns H r ∧ m ≤ 26 ∧ ∀ H' l h w g, VG h w g → H' l = some (.lst (rowV g)) → RowAt K a ns H' r → But r H H' → Q (.ref l) H'
theorem ok_rw {f : Addr} {fd : FuncData} (F : Fun K "_law_rows" "_law_rows" sLawRows f fd) (T : TxtW K mg) (L : TxtL K mg) (GT : FnOk P w K mg base CX0 1 fT fdT ["_law_row", "_law_many"] (spTk K a ns)) (kT : PySem.W.keepIn K (.ref fT) = true) (bT : Binds K fdT ["_law_row", "_law_many"] []) (mT : mg "_law_taken" = some (.ref fT)) :
    FnOk P w K mg base CX0 2 f fd ["_law_row", "_law_most"] (spRw K a ns) := by
  refine F.ok scRw (fun vs H Q E h => ?_) (fun cdv A outer s H vs Q E hr h => ?_)
  · obtain ⟨r, m, rfl, _⟩ := h
    rfl
  · obtain ⟨r, m, rfl, hR, hm, k⟩ := h
    have nd := scRw.nd
    refine ⟨_, C8.pss_cut (ps_set (i := 2) nd rfl (.inl rfl) (pe_op op_add pe_int (pe_call GT hr rfl mT kT bT .nil pass0 (pa_cons (pv 0) (pa_cons (pe_ix ix_list (pe_lst (pa_cons pe_int (pa_cons pe_int (pa_cons pe_int pa_nil)))) (pe_call GT hr rfl mT kT bT .nil pass0 (pa_cons (pv 0) (pa_cons pe_int pa_nil))) (fun _ _ => rfl)) pa_nil)))))
      (C8.pss_cut (ps_set (i := 3) nd rfl (.inr rfl) (pe_op op_add pe_int (pe_call GT hr rfl mT kT bT .nil pass0 (pa_cons (pv 0) (pa_cons (pe_ix ix_list (pe_lst (pa_cons pe_int (pa_cons pe_int (pa_cons pe_int pa_nil)))) (pe_call GT hr rfl mT kT bT .nil pass0 (pa_cons (pv 0) (pa_cons pe_int pa_nil))) (fun _ _ => rfl)) pa_nil)))))
      (C8.pss_cut (ps_set (i := 4) nd rfl (.inr rfl) (pe_op op_rep (pe_lst (pa_cons pe_str pa_nil)) (pe_op op_mul (pv 2) (pv 3))))
      (pss_cons (ps_set (i := 5) nd rfl (.inl rfl) pe_str)
      (pss_cons (ps_for PassesOwn.never rfl (pi_range1 (by rfl) L.range (pa_cons (pe_callB (call_min2 rfl) (by rfl) L.min (by decide +kernel) (pa_cons (pe_op op_mul (pv 2) (pv 3)) (pa_cons (pe_call GT hr rfl mT kT bT .nil pass0 (pa_cons (pv 0) (pa_cons (pe_op op_add (pv 1) pe_int) pa_nil))) pa_nil))) pa_nil)) (pg_name (i := 6) nd rfl (.inl rfl))
        (C8.pss_cut (ps_setLc (i := 7) (own := [("_law_place", 8)]) (g := gName 8) rfl nd rfl rfl (sw_true rfl rfl rfl (by decide +kernel)) (pi_range1 (by rfl) L.range (pa_cons (pe_op op_mul (pv 2) (pv 3)) pa_nil)) (blkOk_by (N := NRw) (sc := defScope sLawRows) (by decide +kernel)) (fun _ _ _ _ _ => pg_name (i := 8) nd rfl (.inl rfl))
            (fun _ _ _ _ _ => pts_one (pt_cmpR op_eq (pe_ix (ix_listK (K := K) rfl) (pv 4) (pv 8) (fun _ _ => rfl)) pe_str (nomark _))) (fun _ _ _ _ _ => pv 8))
        (pss_one (ps_asg (pe_ix ix_str (pv 5) (pv 6) (fun _ _ => rfl)) (pg_sub (pv 4) (pe_ix ix_list (pv 7) (pe_call GT hr rfl mT kT bT .nil pass0 (pa_cons (pv 0) (pa_cons (pe_callB call_len_seq (by rfl) T.len PySem.boot_len (pa_cons (pv 7) pa_nil)) pa_nil))) (fun _ _ => rfl)) set_list)))))
      (pss_one (ps_ret (pe_lc (own := [("_law_k", 6)]) (g := gName 6) (tt := tYes) rfl nd (pi_range1 (by rfl) L.range (pa_cons (pv 2) pa_nil)) (blkOk_by (N := NRw) (sc := defScope sLawRows) (by decide +kernel)) (fun _ _ _ _ _ => pg_name (i := 6) nd rfl (.inl rfl)) (fun _ _ _ _ _ => pts_nil)
        (fun _ _ _ _ _ => pe_joinK (K := K) rfl pe_str (pe_slice (sl_listK (K := K) rfl) (pv 4) (po_some (pe_op op_mul (pv 6) (pv 3))) (po_some (pe_op op_add (pe_op op_mul (pv 6) (pv 3)) (pv 3)))))))))))), ?_⟩
    refine ⟨fun σ H1 => ∃ h : Nat, σ = [some (.ref r), some (.int m), some (.int h), none, none, none, none, none, none] ∧ 1 ≤ h ∧ h ≤ 8 ∧ RowAt K a ns H1 r ∧ But r H H1, ?_, ?_⟩
    · refine ⟨_, rfl, (by show 3 ≤ sizeLine; decide), fun p hp => ⟨_, rfl, r, 3, rfl, hR.same (same_new hp), by decide, by decide, fun HA d hd RA bA => ?_⟩⟩
      have hd3 : d < 3 := by omega
      have s1 := side_1 d
      refine ⟨p, _, _, _, rfl, rfl, SqL.of (bA p _ upd_same (hR.ne hp)), atI_nat (side_at hd3), r, _, rfl, RA, by omega, by omega, fun HB e he RB bB => ?_⟩
      exact ⟨_, _, rfl, rfl, e + 1, by rw [show ((e + 1 : Nat) : Int) = 1 + (e : Int) by omega]; rfl, by omega, by omega, RB, (((But.refl r H).trans (.same (same_new hp))).trans bA).trans bB⟩
    rintro σ H1 ⟨h, rfl, h1, h8, R1, b1⟩
    refine ⟨fun σ H2 => ∃ w : Nat, σ = [some (.ref r), some (.int m), some (.int h), some (.int w), none, none, none, none, none] ∧ 1 ≤ w ∧ w ≤ 8 ∧ RowAt K a ns H2 r ∧ But r H H2, ?_, ?_⟩
    · refine ⟨_, rfl, (by show 3 ≤ sizeLine; decide), fun p hp => ⟨_, rfl, r, 3, rfl, R1.same (same_new hp), by decide, by decide, fun HA d hd RA bA => ?_⟩⟩
      have hd3 : d < 3 := by omega
      have s1 := side_1 d
      refine ⟨p, _, _, _, rfl, rfl, SqL.of (bA p _ upd_same (R1.ne hp)), atI_nat (side_at hd3), r, _, rfl, RA, by omega, by omega, fun HB e he RB bB => ?_⟩
      exact ⟨_, _, rfl, rfl, e + 1, by rw [show ((e + 1 : Nat) : Int) = 1 + (e : Int) by omega]; rfl, by omega, by omega, RB, ((b1.trans (.same (same_new hp))).trans bA).trans bB⟩
    rintro σ H2 ⟨w, rfl, w1, w8, R2, b2⟩
    have hw : h * w ≤ 64 := Nat.mul_le_mul h8 w8
    have hw1 : 1 ≤ h * w := Nat.mul_le_mul h1 w1
    have ehw : (h : Int) * (w : Int) = ((h * w : Nat) : Int) := by simp
    have bh : ((-(2 ^ 64) < (h : Int) ∧ (h : Int) < 2 ^ 64) ∨ (-(2 ^ 64) < (w : Int) ∧ (w : Int) < 2 ^ 64)) := .inl ⟨by omega, by omega⟩
    refine ⟨fun σ H3 => ∃ l, σ = [some (.ref r), some (.int m), some (.int h), some (.int w), some (.ref l), none, none, none, none] ∧ H l = none ∧ l ≠ r ∧ H3 l = some (.lst ((List.replicate (h * w) 46).map sg)) ∧ RowAt K a ns H3 r ∧ But r H H3, ?_, ?_⟩
    · refine ⟨(by show 1 ≤ sizeLine; decide), fun p hp => ⟨_, rfl, _, rfl, _, _, rfl, rfl, bh, ?_⟩⟩
      refine ⟨p, ((h * w : Nat) : Int), _, rfl, congrArg V.int ehw, upd_same, by omega, by omega, ?_, fun q hq => ?_⟩
      · show 1 * ((h * w : Nat) : Int).toNat ≤ 16777216
        rw [Int.toNat_natCast]
        omega
      · rw [Int.toNat_natCast]
        have R3 := R2.same (same_new (o := .lst [V.str (S [46])]) hp)
        have b3 := b2.trans (.same (same_new (o := .lst [V.str (S [46])]) hp))
        refine ⟨q, rfl, R3.none b3 hq, R3.ne hq, ?_, R3.same (same_new hq), b3.trans (.same (same_new hq))⟩
        rw [upd_same, ← rep_dots]
        rfl
    rintro σ H3 ⟨l, rfl, hl0, hlr, hL, R3, b3⟩
    refine ⟨_, rfl, _, rfl, _, _, rfl, rfl, bh, _, rfl, _, rfl, _, _, rfl, rfl, r, (m : Int) + 1, rfl, R3, by omega, by omega, fun H4 kk hkk R4 b4 => ?_⟩
    have hmin : ∃ N : Nat, (if (kk : Int) < (h : Int) * (w : Int) then (kk : Int) else (h : Int) * (w : Int)) = (N : Int) ∧ N ≤ 26 ∧ N ≤ h * w := by
      rw [ehw]
      by_cases hc : (kk : Int) < ((h * w : Nat) : Int)
      · rw [if_pos hc]
        exact ⟨kk, rfl, by omega, by omega⟩
      · rw [if_neg hc]
        exact ⟨h * w, rfl, by omega, Nat.le_refl _⟩
    obtain ⟨N, eN, N26, Nhw⟩ := hmin
    refine ⟨_, _, rfl, ?_⟩
    refine ⟨(N : Int), congrArg (fun z => [V.int z]) eN, by omega, by omega, for_range (lo := 0) (n := ((N : Nat) : Int).toNat) (fun i σ H5 => ∃ cs v6 v7 v8, σ = [some (.ref r), some (.int m), some (.int h), some (.int w), some (.ref l), some (.str (S letters)), v6, v7, v8] ∧ Lay i cs ∧ cs.length = h * w ∧ H5 l = some (.lst (cs.map sg)) ∧ RowAt K a ns H5 r ∧ But r H H5)
      ⟨_, none, none, none, rfl, Lay.none (h * w), List.length_replicate, b4 _ _ hL hlr, R4, b3.trans b4⟩ ?_ ?_⟩
    · rintro i σ H5 hi ⟨cs, v6, v7, v8, rfl, La, hcs, hL5, R5, b5⟩
      rw [Int.toNat_natCast] at hi
      rw [Int.zero_add]
      refine ⟨fun σ H6 => ∃ D v8, σ = [some (.ref r), some (.int m), some (.int h), some (.int w), some (.ref l), some (.str (S letters)), some (.int (i : Nat)), some (.ref D), v8] ∧ D ≠ r ∧ D ≠ l ∧ H6 D = some (.lst (intV (frees cs cs.length))) ∧ H6 l = some (.lst (cs.map sg)) ∧ RowAt K a ns H6 r ∧ But r H H6, ?_, ?_⟩
      · refine ⟨_, rfl, _, rfl, _, _, rfl, rfl, bh, ?_⟩
        refine ⟨((h * w : Nat) : Int), congrArg (fun z => [V.int z]) ehw, by omega, by omega, fun D hD => lc_range (lo := 0) (n := (((h * w : Nat) : Int)).toNat) (fun j H6 => Same H5 H6 ∧ H6 D = some (.lst (intV ((List.range j).filter fun x => cs.getD x 0 == 46))))
          ⟨same_new hD, upd_same⟩ ?_ ?_⟩
        · rintro j H6 hj ⟨sm, hD6⟩
          rw [Int.toNat_natCast] at hj
          rw [Int.zero_add]
          obtain ⟨d, hd⟩ : ∃ d, cs[j]? = some d := ⟨_, List.getElem?_eq_getElem (by omega)⟩
          refine ⟨rfl, _, rfl, _, rfl, l, _, _, sg d, rfl, rfl, SqL.of (sm _ _ hL5), atI_nat (by rw [List.getElem?_map, hd]; all_goals rfl), rfl, _, rfl, ?_⟩
          rw [show decide (sg d = V.str (Str.ofString ".")) = (d == 46) from dL d 46]
          have eg : cs.getD j 0 = d := by rw [List.getD_eq_getElem?_getD, hd]; rfl
          have es := range_snoc (p := fun x => cs.getD x 0 == 46) j
          by_cases hx : (d == 46) = true
          · rw [hx]
            refine iteT ⟨_, rfl, _, hD6, ?_, same_put sm hD, ?_⟩
            · rw [List.length_map]
              have := List.length_filter_le (fun x => cs.getD x 0 == 46) (List.range j)
              rw [List.length_range] at this
              show _ < 16777216
              omega
            · rw [upd_same, es, if_pos (by rw [eg]; exact hx)]
              simp [intV]
          · rw [Bool.not_eq_true] at hx
            rw [hx]
            refine iteF ⟨sm, ?_⟩
            rw [hD6, es, if_neg (by rw [eg, hx]; exact Bool.false_ne_true), List.append_nil]
        · rintro H6 ⟨sm, hD6⟩
          rw [Int.toNat_natCast, ← hcs] at hD6
          exact ⟨D, _, rfl, R5.ne hD, (ne_of_none hL5 hD).symm, hD6, sm _ _ hL5, R5.same sm, b5.trans (.same sm)⟩
      rintro σ H6 ⟨D, v8', rfl, hDr, hDl, hD6, hL6, R6, b6⟩
      have hpos := frees_pos La (by omega)
      have hfl := frees_le cs cs.length
      have hle : letters[i]? = some (97 + i) := by
        have : i < 26 := by omega
        have all : ∀ i : Fin 26, letters[i.1]? = some (97 + i.1) := by decide
        exact all ⟨i, this⟩
      refine ⟨_, rfl, _, rfl, S letters, (i : Int), 97 + i, rfl, rfl, (by show 26 ≤ sizeLine; decide), by rw [S_list]; exact atI_nat hle, ?_⟩
      refine ⟨_, rfl, _, rfl, _, rfl, _, rfl, D, _, rfl, .inl (SqL.of hD6), ?_⟩
      refine ⟨r, _, rfl, R6, ?_, ?_, fun H7 d hd R7 b7 => ?_⟩
      · rw [List.length_map]; omega
      · rw [List.length_map]; omega
      rw [List.length_map] at hd
      obtain ⟨p, hp⟩ : ∃ p, (frees cs cs.length)[d]? = some p := ⟨_, List.getElem?_eq_getElem (by omega)⟩
      have hcp := frees_at hp
      have hpl : p < cs.length := (List.getElem?_eq_some_iff.mp hcp).1
      have hL7 := b7 _ _ hL6 hlr
      refine ⟨D, _, _, .int (p : Nat), rfl, rfl, SqL.of (b7 _ _ hD6 hDr), atI_nat (by rw [List.getElem?_map, hp]; all_goals rfl), l, _, _, p, rfl, rfl, hL7, ?_, ?_⟩
      · rw [List.length_map]
        unfold ixN
        rw [if_pos (by omega), if_pos (by omega), Int.toNat_natCast]
      · have hs : ∃ c t, cs.map sg = sg c :: t := by
          cases cs with
          | nil => simp at hpl
          | cons c t => exact ⟨c, t.map sg, rfl⟩
        refine ⟨cs.set p (97 + i), _, _, _, rfl, La.put hcp, by rw [List.length_set]; exact hcs, ?_, R7.put hL7 hlr hs, but_put (b6.trans b7) hl0⟩
        rw [upd_same, List.map_set]
    · rintro σ H5 ⟨cs, v6, v7, v8, rfl, La, hcs, hL5, R5, b5⟩
      rw [Int.toNat_natCast] at La
      have La' := La
      have goal := lay_VG La' N26 hcs h1 h8 w1 w8
      refine ⟨_, rfl, (h : Int), rfl, by omega, by omega, fun D hD => lc_range (lo := 0) (n := ((h : Nat) : Int).toNat) (fun i H6 => Same H5 H6 ∧ H6 D = some (.lst ((List.range i).map fun j => V.str (S ((cs.drop (j * w)).take w)))))
          ⟨same_new hD, upd_same⟩ ?_ ?_⟩
      · rintro i H6 hi ⟨sm, hD6⟩
        rw [Int.toNat_natCast] at hi
        rw [Int.zero_add]
        have hiw : i * w + w ≤ h * w := by
          have : (i + 1) * w ≤ h * w := Nat.mul_le_mul_right _ hi
          rw [Nat.succ_mul] at this
          exact this
        have eiw : (i : Int) * (w : Int) = ((i * w : Nat) : Int) := by simp
        have bi : ((-(2 ^ 64) < (i : Int) ∧ (i : Int) < 2 ^ 64) ∨ (-(2 ^ 64) < (w : Int) ∧ (w : Int) < 2 ^ 64)) := .inr ⟨by omega, by omega⟩
        have ecut : cutV (cs.map sg) (some ((i : Int) * (w : Int))) (some ((i : Int) * (w : Int) + (w : Int))) = ((cs.drop (i * w)).take w).map sg := by
          rw [eiw, show ((i * w : Nat) : Int) + (w : Int) = ((i * w + w : Nat) : Int) by omega]
          unfold cutV
          rw [HT.sIx_nat, HT.sIx_nat, List.length_map, hcs, Nat.min_eq_left hiw, Nat.min_eq_left (by omega : i * w ≤ h * w), show i * w + w - i * w = w by omega, List.map_take, List.map_drop]
        refine ⟨rfl, ⟨_, rfl⟩, _, rfl, _, rfl, _, rfl, _, _, rfl, rfl, bi, _, rfl, _, rfl, _, rfl, _, _, rfl, rfl, bi, _, rfl, _, _, rfl, rfl, _, rfl, l, _, rfl, SqL.of (sm _ _ hL5), fun q hq => ?_⟩
        rw [ecut]
        have hD7 : (upd H6 q (.lst (((cs.drop (i * w)).take w).map sg))) D = some (.lst ((List.range i).map fun j => V.str (S ((cs.drop (j * w)).take w)))) := by
          rw [upd_ne (ne_of_none hD6 hq)]
          exact hD6
        refine ⟨_, q, ((cs.drop (i * w)).take w).map fun c => S [c], rfl, rfl, .inl ?_, ?_, _, hD7, ?_, ?_⟩
        · rw [List.map_map]
          exact SqL.of upd_same
        · rw [sum_ones, List.length_map, List.length_take, List.length_drop]
          show _ + _ * 0 ≤ _
          omega
        · rw [List.length_map, List.length_range]
          show _ < 16777216
          omega
        · refine ⟨same_put (sm.trans (same_new hq)) hD, ?_⟩
          rw [upd_same, join_signs, List.range_succ, List.map_append]
          rfl
      · rintro H6 ⟨sm, hD6⟩
        rw [Int.toNat_natCast] at hD6
        refine k _ D h w _ goal ?_ (R5.same sm) (b5.trans (.same sm))
        rw [hD6]
        unfold rowV chunk
        rw [List.map_map]
        rfl
end
end TK
end
section
set_option Elab.async false
set_option maxRecDepth 100000
set_option linter.all false
namespace TK
open PySem L2 TM
open PySem.Spec PyProof.Rows TH
abbrev rowD (g : Grid) : List PyData := g.map fun r => PyData.str (S r)
theorem row_all {K : PySem.W.Frag} {H : Hp} : ∀ g : Grid, DpAll K H (rowV g) (rowD g)
  | [] => .nil
  | _ :: g => .cons (.str _) (row_all g)
theorem row_depth : ∀ g : Grid, PyData.depthAll (rowD g) = 0
  | [] => rfl
  | x :: g => by
    show max (PyData.depth (.str _)) (PyData.depthAll (rowD g)) = 0
    rw [row_depth g]
    rfl
theorem row_lay : ∀ g : Grid, (∀ r ∈ g, ∀ c ∈ r, Cell c) → PyData.canLayAll0 (rowD g) = true
  | [], _ => rfl
  | x :: g, h => by
    show (PyData.canLay0 (.str (S x)) && PyData.canLayAll0 (rowD g)) = true
    rw [row_lay g fun r hr => h r (List.mem_cons_of_mem _ hr), Bool.and_true]
    show (S x).cps.all (· < 0x110000) = true
    rw [← Array.all_toList]
    refine List.all_eq_true.mpr fun c hc => ?_
    have := h x List.mem_cons_self c hc
    unfold Cell at this
    exact decide_eq_true (by omega)
theorem row_shaped {n m : Nat} {g : Grid} (G : VG n m g) : SeqAt.shaped (.tuple (rowD g)) = true := by
  show (PyData.canLayAll0 (rowD g) && decide (PyData.depthAll (rowD g) + 1 ≤ 64)) = true
  rw [row_lay g G.ok, row_depth]
  rfl
theorem row_sum (k : Nat) : ∀ g : Grid, (∀ r ∈ g, r.length ≤ k) → ((g.map S).map (·.length)).sum ≤ g.length * k
  | [], _ => by simp
  | x :: g, h => by
    have h1 := row_sum k g fun r hr => h r (List.mem_cons_of_mem _ hr)
    have h2 := h x List.mem_cons_self
    rw [List.map_cons, List.map_cons, List.sum_cons, S_len, List.length_cons, Nat.succ_mul]
    omega
end TK
end
section
set_option Elab.async false
set_option maxRecDepth 100000
set_option linter.all false
namespace TX
open PySem PySem.Spec PyProof.Rows L2
section
variable {X : Cx} {pins : List (Addr × Obj)} {σ : L2.St} {H : Hp} {s : Shared} {A : Around} {E : Value → Shared → Prop}
/-- the bound ValueError.__init__ is called -/
theorem mw_call {u a C : Addr} {us : List Value} {Q : Value → Shared → Prop} (T : OexC X.K C) (I : Inv X pins σ H s) (e : H a = some (exo a C none)) (hu : s.heap.get? u = some (PySem.W.kxs_mw "ValueError.__init__" a)) (hl : us.length ≤ sizeLine)
    (h : ∀ s', Inv X pins σ H s' → Q .none s') : wpAny (model X.prog X.w) A (call (.ref u) us) Q E s := by
  obtain ⟨nm, q, N, bs, bm, sn, sub, ab, col, dd, k0, k1, k2, k3, k5, hC, hbm⟩ := T.cls
  obtain ⟨t1, ho⟩ := exo_at I.hok e
  have hC := I.kIn _ _ hC
  obtain ⟨hp, g, d, t, os⟩ := s
  refine wpAny_call (codeAny_of_tree ?_)
  show wpAny _ A.in1 (callAny (.ref u) ⟨us, []⟩) _ _ _
  simp only [callAny]
  refine wpAny_bind (wpAny_load hu ?_)
  simp only [PySem.W.kxs_mw, show (Value.type "method-wrapper" == Value.type "method" || Value.type "method-wrapper" == Value.type "builtin_function_or_method" || Value.type "method-wrapper" == Value.type "method-wrapper") = true from by decide, if_true]
  refine PySem.W.KFB.if_so (by decide) ?_
  refine wpAny_bind (PySem.W.check_bound_init F.excBase_ValueError.toExcCallFacts hC ho rfl ?_)
  refine wpAny_bind (wpAny_pure (wpAny_pure ?_))
  refine ⟨plainId_quiet F.excBase_ValueError.init.plain _, ?_⟩
  refine codeAny_builtin F.excBase_ValueError.initEntry ?_
  refine PySem.W.exc_init_tree (cls := .ref C) (t0 := t1) (dv := none) (c2 := .none) (c3 := .none) (b4 := .bool false) ho hl fun h' k hx _ => ?_
  have J := I.write (t' := t) (x := a) (e := a) (o := exo a C none) (by rw [e]; exact True.intro) (.inl rfl) k ⟨_, hx⟩ (exo_ok hx)
  have eu : upd H a (exo a C none) = H := by
    funext b
    by_cases hb : b = a
    · rw [hb, upd_same, e]
    · rw [upd_ne hb]
  rw [eu] at J
  exact h _ J
end
/-- what is written of an __init__ at f that says super().__init__(..): its class at C, its cell at cc, its code at cda -/
structure SupI (P : Program) (K : PySem.W.Frag) (C f cc cda : Addr) (fd : FuncData) (ar : Arg) : Prop where
  fn : ∃ oc od osl, K.lookup f = some ⟨oc, od, .func fd, osl⟩
  hd : (fd.params.posonlyargs ++ fd.params.args).head? = some ar
  code : ∃ ccl cdd vs ccs file tf, K.lookup cda = some ⟨ccl, cdd, .fields vs, ccs⟩ ∧ vs[2]? = some (.str file tf) ∧ ((P.main.file : Str) == file) = true
  cell : ∃ cl cld csl, K.lookup cc = some ⟨cl, cld, .cell (some (.ref C)), csl⟩
  sub : PySem.W.mroIn K C (.ref C) = some true
  sup : PySem.W.ks_superIn K C C "__init__" = some (some (.builtin "ValueError.__init__"))
  ve : PySem.W.subIn K (.ref C) (.type "ValueError") = some true
  op : PySem.W.nsIn K cStatics "thirdparty.any" = some none
  top : (P.main.scope.names.lookup ("super" : Str)).isSome = false
section
variable {X : Cx} {pins : List (Addr × Obj)} {σ : L2.St} {H : Hp} {s : Shared}
theorem super_stmt {a C f cc cda : Addr} {fd : FuncData} {ar : Arg} {arg : Expr} {body : List Stmt} {t : TA} {p0 p1 apos pos spos : Pos} {Qn : Hp → Prop} {pl : Sem Bool} (S : SupI X.prog X.K C f cc cda fd ar) (T : OexC X.K C) (hm : X.mg "super" = none)
    (hfu : X.env.func = some f) (hco : X.env.code = .ref cda) (hce : X.env.cells.lookup ("__class__" : Str) = some cc) (hks : X.env.scope.names.lookup ("super" : Str) = some .globalImplicit) (hkc : X.env.scope.names.lookup ("__class__" : Str) = some .free) (hka : X.env.scope.names.lookup ar.arg = some .local) (hN : X.N[0]? = some ar.arg)
    (hc : eval (.Call (.Attribute (.Call (.Name "super" p0) [] [] p1) "__init__" apos) [arg] [] pos) X.env = (do
      let ov ← attributeBase (.Call (.Name "super" p0) [] [] p1) "__init__" X.env (eval (.Call (.Name "super" p0) [] [] p1) X.env)
      standAt apos.atName
      let (f, first) ← holding [ov] (getMethod ov "__init__" pl)
      callWith pos f first (backTo pos (starEach [arg] X.env)) []))
    (hsw : swapsWith (.Call (.Attribute (.Call (.Name "super" p0) [] [] p1) "__init__" apos) [arg] [] pos) none spos.line X.env = pure false)
    (hi : interactive X.env = false) (I : Inv X pins σ H s) (hσ : σ[0]? = some (some (.ref a))) (e : H a = some (exo a C none)) (ha : PA X [arg] t) (hstar : starEach [arg] X.env = [(false, eval arg X.env)])
    (ht : t σ H fun vs H1 => vs.length ≤ 1000 ∧ H1 a = some (exo a C none) ∧ Qn H1) :
    PySem.wpAt (model X.prog X.w) X.A (.func body X.env) (exec (.Expr (.Call (.Attribute (.Call (.Name "super" p0) [] [] p1) "__init__" apos) [arg] [] pos) spos) X.env) (fun fl s' => fl = .next ∧ ∃ H1, Inv X pins σ H1 s' ∧ Qn H1) X.xe s := by
  obtain ⟨oc, od, osl, hf⟩ := S.fn
  obtain ⟨ccl, cdd, vs, ccs, file, tf, hcode, hvs, hfile⟩ := S.code
  obtain ⟨cl, cld, csl, hcell⟩ := S.cell
  have hsup := S.sup
  unfold PySem.W.ks_superIn at hsup
  cases hcd : PySem.W.clsIn X.K C with
  | none => rw [hcd] at hsup; cases hsup
  | some cd =>
  rw [hcd] at hsup
  obtain ⟨t1, ho⟩ := exo_at I.hok e
  obtain ⟨mb, hb1, hb2⟩ := I.ok.mod.blt
  obtain ⟨m, hns, hloc⟩ := I.loc
  obtain ⟨u0, ru, hlook⟩ := hloc 0 ar.arg (.ref a) hN hσ (.inl hka)
  obtain rfl : u0 = Value.ref a := ru
  refine ks_wpAt_Expr_any (ks_wpAt_MethodCall ?_ hc) hi hsw
  obtain ⟨hp, g, d, tk, os⟩ := s
  have hD := hcd
  unfold PySem.W.clsIn at hD
  split at hD
  · rename_i c0 d0 cd0 sl0 hCl
    cases hD
    have hCo := I.kIn _ _ hCl
    refine ks_wpAt_super_base (f := f) (cc := cda) (ar := ar) (vs := vs) (file := file) (tf := tf) (fd := fd) hks hkc (by decide) hfu (I.kIn _ _ hf) rfl S.hd hco (I.kIn _ _ hcode) rfl hvs hfile S.top ?_
    refine PySem.W.ks_loadName_global I.ok.kind hks (Calls.loadGlobal_builtin (by rw [I.ok.glob]; exact I.ok.mod.glob.keeps I.bk) hm (by rw [I.ok.blt]; exact hb1.keeps I.bk) ((hb2 "super" (by decide)).trans (by decide +kernel)) ⟨rfl, ?_⟩)
    refine wpAny_loadName_free I.ok.kind hkc hce ⟨_, I.kIn _ _ hcell, rfl⟩ ?_
    rcases hlook with ⟨_, hv⟩ | ⟨hk, _⟩
    · refine wpAny_loadName_local I.ok.kind hka hns hv ?_
      refine ks_wpAny_isType_cls hCo rfl ⟨rfl, ?_⟩
      refine ks_wpAny_call_super hCo rfl ho rfl (fun c z => nomatch z) (PySem.W.looks_mroIn I.kIn S.sub) fun h' e1 k1 => ?_
      have I1 : Inv X pins σ H ⟨h', g, d, tk, os⟩ := I.kept (t' := tk) k1
      obtain ⟨t2, ho1⟩ := exo_at I1.hok e
      have hne : a ≠ C := fun z => by
        subst z
        rw [ho] at hCo
        cases hCo
      refine PySem.W.kxs_getMethod PySem.W.kxs_ValueError e1 (PySem.W.looks_opaque I1.kIn S.op) (l₀ := _) (fun A Q E s k q => wpAny_bind ((PySem.W.looks_clsIn I1.kIn hcd) A _ E s k (wpAny_pure q))) rfl I1.kIn hsup ((show PySem.W.InstAt h' a _ C none from ⟨ho1, rfl, rfl, True.intro⟩).type.andThen (PySem.W.looks_subIn I1.kIn S.ve)) hne (by decide) ?_
      have I2 := ClX.pin_new (a := h'.objs.size) (o := PySem.W.kxs_mw "ValueError.__init__" a) (t' := tk + 1) I1 (fun _ _ z => Heap.get?_push_of_some _ z) (Nat.le_refl _) (Heap.get?_push_size h' rfl) (fun v z => nomatch z)
      have hrun := ha.run pos _ _ σ H _ I2 ht
      rw [hstar] at hrun ⊢
      refine PySem.W.kxs_callWith (i := "ValueError.__init__") (x := a) rfl (Calls.evalArgs_plain (thn hrun fun us s3 ⟨ws, H3, I3, rv, hl, e3, q⟩ => ⟨ClX.pin_at I3, ?_⟩))
      refine mw_call T I3 e3 (ClX.pin_at I3) ?_ fun s4 I4 => ⟨rfl, H3, ClX.unpin I4, q⟩
      show us.length ≤ sizeLine
      rw [← rv.length]
      exact Nat.le_trans hl (by decide)
    · have hk' : X.env.scope.names.lookup ar.arg = some .cell ∨ X.env.scope.names.lookup ar.arg = some .free := hk
      rw [hka] at hk'
      rcases hk' with z | z <;> cases z
  · cases hD
end
end TX
end
section
set_option Elab.async false
set_option maxRecDepth 100000
set_option linter.all false
namespace TX
open PySem PySem.Spec PyProof.Rows L2 NdefX
theorem super_fn {CX : CXT} {P : Program} {w : World} {K : PySem.W.Frag} {mg : Str → Option Value} {base : Heap} {k : Nat} {f C cc cda : Addr} {name qual : Str} {params : Arguments} {body rest : List Stmt} {scope : Scope} {kV doc pm ct oc : Value} {an od : Option Addr} {osl : Array (Option Value)}
    {N ps : List Str} {sp : Sp} {ar : Arg} {arg : Expr} {p0 p1 apos pos spos : Pos}
    (lk : K.lookup f = some ⟨oc, od, .func (PySem.W.fnX name qual params body scope [("__class__", cc)] .none kV doc pm an (.ref cda) ct), osl⟩) (hcd : PySem.W.codeIn K (.ref cda) qual = true) (S : NScope N ps ["__class__"] scope)
    (U : SupI P K C f cc cda (PySem.W.fnX name qual params body scope [("__class__", cc)] .none kV doc pm an (.ref cda) ct) ar) (T : OexC K C) (hm : mg "super" = none)
    (hbd : body = .Expr (.Call (.Attribute (.Call (.Name "super" p0) [] [] p1) "__init__" apos) [arg] [] pos) spos :: rest)
    (hks : scope.names.lookup ("super" : Str) = some .globalImplicit) (hka : scope.names.lookup ar.arg = some .local) (hN : N[0]? = some ar.arg) (len : ∀ vs H Q E, sp vs H Q E → vs.length = ps.length)
    (hst : ∀ env : Env, ∀ L : Addr, env = envF ⟨name, qual, params, body, scope, [("__class__", cc)], cda⟩ f L → ∃ pl : Sem Bool, eval (.Call (.Attribute (.Call (.Name "super" p0) [] [] p1) "__init__" apos) [arg] [] pos) env = (do
      let ov ← attributeBase (.Call (.Name "super" p0) [] [] p1) "__init__" env (eval (.Call (.Name "super" p0) [] [] p1) env)
      standAt apos.atName
      let (f, first) ← holding [ov] (getMethod ov "__init__" pl)
      callWith pos f first (backTo pos (starEach [arg] env)) []) ∧ swapsWith (.Call (.Attribute (.Call (.Name "super" p0) [] [] p1) "__init__" apos) [arg] [] pos) none spos.line env = pure false ∧ interactive env = false ∧ starEach [arg] env = [(false, eval arg env)])
    (hbody : ∀ (A : Around) (outer : List Env) (s : Shared) (H : Hp) (vs : List V) (Q : VK) (E : XK), sp vs H Q E → ∃ (a : Addr) (Mid : Hp → Prop) (ta : TA) (t : TS),
      PA (ncx CX P w K mg base N ⟨name, qual, params, body, scope, [("__class__", cc)], cda⟩ f A outer s H E) [arg] ta ∧ PSs (ncx CX P w K mg base N ⟨name, qual, params, body, scope, [("__class__", cc)], cda⟩ f A outer s H E) rest t ∧
      (startF N vs [some (.ref C)])[0]? = some (some (.ref a)) ∧ H a = some (exo a C none) ∧ ta (startF N vs [some (.ref C)]) H (fun vs H1 => vs.length ≤ 1000 ∧ H1 a = some (exo a C none) ∧ Mid H1) ∧
      ∀ H1, Mid H1 → t { nx := fun _ H' => Q .non H', rt := Q } (startF N vs [some (.ref C)]) H1) :
    FnOk P w K mg base CX (k + 1) f (PySem.W.fnX name qual params body scope [("__class__", cc)] .none kV doc pm an (.ref cda) ct) ps sp := by
  refine ⟨len, fun A outer s H args us vs Q E hr e0 hb r hsp => ?_⟩
  have hl := len _ _ _ _ hsp
  have KX : K.In s.heap := e0.mod.kin.keeps fun b o e => (e0.bs b o e).1
  have lim : s.heap.NoLimit := e0.mod.nolimit.keeps fun b o e => (e0.bs b o e).1
  obtain ⟨cl, cld, csl, hcell⟩ := U.cell
  have one : ∀ {y : Str} {c : Addr}, ([("__class__", cc)] : List (Str × Addr)).lookup y = some c → y = "__class__" ∧ c = cc := fun {y c} h => by
    rw [List.lookup_cons] at h
    cases e : (y == ("__class__" : Str)) with
    | true => rw [e] at h; exact ⟨eq_of_beq e, (Option.some.inj h).symm⟩
    | false => rw [e] at h; cases h
  have cells : CellsAt [("__class__", cc)] ["__class__"] [some (.ref C)] s.heap H := by
    refine ⟨rfl, fun y c h => ?_, fun x y c h1 h2 => (one h1).1.trans (one h2).1.symm, fun i y h => ?_⟩
    · obtain ⟨rfl, rfl⟩ := one h
      exact ⟨(e0.bs _ _ (e0.mod.kin _ _ hcell)).2, _, _, KX _ _ hcell, rfl⟩
    · match i, h with
      | 0, h =>
        obtain rfl : ("__class__" : Str) = y := Option.some.inj h
        exact ⟨cc, rfl, fun v e => ⟨.ref C, by cases e; rfl, _, KX _ _ hcell, rfl⟩⟩
      | i + 1, h => cases h
  obtain ⟨a, Mid, ta, t, hA, hS, h0, ea, hta, ht⟩ := hbody A outer s H vs Q E hsp
  refine ks_codeAny_call_defAt (body := body) (binds := ps.zip us) hr.depth (KX _ _ lk) rfl lim (PySem.W.codeRec_of KX hcd) rfl hb S.nocell (fun ⟨n, _⟩ hy => S.par n (List.of_mem_zip hy).1) (fun h₁ hns kp => ?_) S.co S.gen S.kind
  have I : Inv (ncx CX P w K mg base N ⟨name, qual, params, body, scope, [("__class__", cc)], cda⟩ f A outer s H E) [] (startF N vs [some (.ref C)]) H { s with heap := h₁, toks := s.toks + (ps.zip us).length } := inv_startN S hr.hd e0 hl r cells hns kp
  obtain ⟨pl, hc, hsw, hi, hstar⟩ := hst (envF ⟨name, qual, params, body, scope, [("__class__", cc)], cda⟩ f s.heap.objs.size) _ rfl
  have fin : ∀ {σ' : L2.St} {H' : Hp} {v : V} {u : Value} {s' : Shared}, Inv (ncx CX P w K mg base N ⟨name, qual, params, body, scope, [("__class__", cc)], cda⟩ f A outer s H E) [] σ' H' s' → L2.RelV v u → Q v H' → CE outer P w H s Q u s' :=
    fun {σ' H' v u s'} J rv q => ⟨v, H', J.os, J.bare, J.base, J.hok, rv, q⟩
  have first := super_stmt (X := ncx CX P w K mg base N ⟨name, qual, params, body, scope, [("__class__", cc)], cda⟩ f A outer s H E) (body := body) (Qn := Mid) U T hm rfl rfl rfl hks (S.frk _ (by simp)) hka hN hc hsw hi I h0 ea hA hstar hta
  subst hbd
  refine ks_wpAt_execs_cons (ks_wpAt_mono first (fun fl s1 ⟨e, H1, I1, q1⟩ => ?_) fun _ _ z => z)
  subst e
  refine wpAt_of_wpAny (wpAny_mono (hS.run [] s1 _ H1 _ I1 (ht H1 q1)) (fun fl s' hs => ?_) fun _ _ z => z)
  cases fl with
  | ret u =>
    obtain ⟨v, σ', H', J, rv, q⟩ := hs
    exact fin J rv q
  | next =>
    obtain ⟨σ', H', J, q⟩ := hs
    exact fin (v := V.non) (u := Value.none) J rfl q
  | brk =>
    obtain ⟨_, _, _, q⟩ := hs
    exact False.elim q
  | cont =>
    obtain ⟨_, _, _, q⟩ := hs
    exact False.elim q
end TX
end
section
set_option Elab.async false
set_option maxRecDepth 100000
set_option linter.all false
namespace TX
open PySem PySem.Spec PyProof.Rows L2 NdefX TK
section
variable {CX : CXT} {P : Program} {w : World} {K : PySem.W.Frag} {mg : Str → Option Value} {base : Heap} {f C cc cda : Addr} {kV doc pm ct oc : Value} {an od : Option Addr} {osl : Array (Option Value)} {ar : Arg}
theorem log_small {n : Nat} (h : n ≤ 63) : n.log2 < 1920 := by
  have : n.log2 ≤ n := Nat.log2_le_self n
  omega
def spItr (C : Addr) : Sp := fun vs H Q _ => ∃ (a : Addr) (i j : Nat), vs = [.ref a, .int i, .int j] ∧ H a = some (exo a C none) ∧ i ≤ 63 ∧ j ≤ 63 ∧
  ∀ dx, H dx = none → dx ≠ a → Q .non (upd (upd (upd H dx (exd dx [("row", .int i)])) a (exo a C (some dx))) dx (exd dx [("column", .int j), ("row", .int i)]))
theorem scItr : NScope ["self", "row", "column", "__class__"] ["self", "row", "column"] ["__class__"] (defScope sInvalidTrayInit) := nscope_by (by decide +kernel)
theorem ok_itr (lk : K.lookup f = some ⟨oc, od, .func (PySem.W.fnX "__init__" "InvalidTray.__init__" (defArgs sInvalidTrayInit) (defBody sInvalidTrayInit) (defScope sInvalidTrayInit) [("__class__", cc)] .none kV doc pm an (.ref cda) ct), osl⟩) (hcd : PySem.W.codeIn K (.ref cda) "InvalidTray.__init__" = true)
    (U : SupI P K C f cc cda (PySem.W.fnX "__init__" "InvalidTray.__init__" (defArgs sInvalidTrayInit) (defBody sInvalidTrayInit) (defScope sInvalidTrayInit) [("__class__", cc)] .none kV doc pm an (.ref cda) ct) ar) (har : ar.arg = "self") (T : OexC K C) (hm : mg "super" = none) (hno : PySem.W.findIn K (.ref C) "row" = some none) (hno2 : PySem.W.findIn K (.ref C) "column" = some none) :
    FnOk P w K mg base CX 1 f (PySem.W.fnX "__init__" "InvalidTray.__init__" (defArgs sInvalidTrayInit) (defBody sInvalidTrayInit) (defScope sInvalidTrayInit) [("__class__", cc)] .none kV doc pm an (.ref cda) ct) ["self", "row", "column"] (spItr C) := by
  refine super_fn (N := ["self", "row", "column", "__class__"]) (k := 0) lk hcd scItr U T hm rfl (by decide +kernel) (by rw [har]; decide +kernel) (by rw [har]; rfl) (fun vs H Q E h => ?_) (fun env L he => ?_) fun A outer s H vs Q E h => ?_
  · obtain ⟨a, i, j, rfl, _⟩ := h
    rfl
  · subst he
    exact ⟨_, rfl, rfl, rfl, rfl⟩
  · obtain ⟨a, i, j, rfl, e, hi, hj, k⟩ := h
    refine ⟨a, fun H1 => H1 = H, _, _, pa_cons (pe_joined (.cons pe_str (.cons (pe_fmt (pv 1)) (.cons pe_str (.cons (pe_fmt (pv 2)) .nil))))) pa_nil, pss_cons (ps_ost (pv 0) (pv 1)) (pss_one (ps_ost (pv 0) (pv 2))), rfl, e, ?_, ?_⟩
    · have h1 : (toString (i : Int)).length ≤ 3 := int_text_length_le10 (k := 2) (by decide) (by rw [Int.natAbs_natCast]; omega)
      have h2 : (toString (j : Int)).length ≤ 3 := int_text_length_le10 (k := 2) (by decide) (by rw [Int.natAbs_natCast]; omega)
      have l1 : ((toString (i : Int) : Str)).length = (toString (i : Int)).length := PySem.ofString_length _
      have l2 : ((toString (j : Int) : Str)).length = (toString (j : Int)).length := PySem.ofString_length _
      have la : ∀ y z : Str, (y ++ z).length = y.length + z.length := fun y z => by
        show (y.cps ++ z.cps).size = _
        rw [Array.size_append]
        rfl
      have c1 : (Str.ofString "not a tray, at row ").length ≤ 100 := by decide +kernel
      have c2 : (Str.ofString ", column ").length ≤ 100 := by decide +kernel
      have c0 : Str.empty.length = 0 := rfl
      refine ⟨_, rfl, ?_, _, rfl, .inr ⟨(i : Int), rfl, by rw [Int.natAbs_natCast]; exact log_small hi, _, rfl, ?_, _, rfl, ?_, _, rfl, .inr ⟨(j : Int), rfl, by rw [Int.natAbs_natCast]; exact log_small hj, _, rfl, ?_, ?_⟩⟩⟩
      · rw [la, sizeLine_eq]; omega
      · rw [la, la, sizeLine_eq]; omega
      · rw [la, la, la, sizeLine_eq]; omega
      · rw [la, la, la, la, sizeLine_eq]; omega
      · exact ⟨by show 1 ≤ 1000; decide, e, rfl⟩
    · rintro H1 rfl
      refine ⟨_, rfl, _, rfl, a, C, rfl, T, hno, .inl ⟨e, fun dx hdx hne => ?_⟩⟩
      refine ⟨_, rfl, _, rfl, a, C, rfl, T, hno2, .inr ⟨dx, _, upd_same, ?_, ?_, k dx hdx hne⟩⟩
      · rw [upd_ne hne, upd_same]
      · show 1 ≤ 900
        decide
def spUm (C : Addr) : Sp := fun vs H Q _ => ∃ (a : Addr) (v : V), vs = [.ref a, v] ∧ H a = some (exo a C none) ∧ ∀ dx, H dx = none → dx ≠ a → Q .non (upd (upd H dx (exd dx [("marble", v)])) a (exo a C (some dx)))
theorem scUm : NScope ["self", "marble", "__class__"] ["self", "marble"] ["__class__"] (defScope sUnknownMarbleInit) := nscope_by (by decide +kernel)
theorem ok_um (lk : K.lookup f = some ⟨oc, od, .func (PySem.W.fnX "__init__" "UnknownMarble.__init__" (defArgs sUnknownMarbleInit) (defBody sUnknownMarbleInit) (defScope sUnknownMarbleInit) [("__class__", cc)] .none kV doc pm an (.ref cda) ct), osl⟩) (hcd : PySem.W.codeIn K (.ref cda) "UnknownMarble.__init__" = true)
    (U : SupI P K C f cc cda (PySem.W.fnX "__init__" "UnknownMarble.__init__" (defArgs sUnknownMarbleInit) (defBody sUnknownMarbleInit) (defScope sUnknownMarbleInit) [("__class__", cc)] .none kV doc pm an (.ref cda) ct) ar) (har : ar.arg = "self") (T : OexC K C) (hm : mg "super" = none) (hno : PySem.W.findIn K (.ref C) "marble" = some none) :
    FnOk P w K mg base CX 1 f (PySem.W.fnX "__init__" "UnknownMarble.__init__" (defArgs sUnknownMarbleInit) (defBody sUnknownMarbleInit) (defScope sUnknownMarbleInit) [("__class__", cc)] .none kV doc pm an (.ref cda) ct) ["self", "marble"] (spUm C) := by
  refine super_fn (N := ["self", "marble", "__class__"]) (k := 0) lk hcd scUm U T hm rfl (by decide +kernel) (by rw [har]; decide +kernel) (by rw [har]; rfl) (fun vs H Q E h => ?_) (fun env L he => ?_) fun A outer s H vs Q E h => ?_
  · obtain ⟨a, v, rfl, _⟩ := h
    rfl
  · subst he
    exact ⟨_, rfl, rfl, rfl, rfl⟩
  · obtain ⟨a, v, rfl, e, k⟩ := h
    refine ⟨a, fun H1 => H1 = H, _, _, pa_cons pe_str pa_nil, pss_one (ps_ost (pv 0) (pv 1)), rfl, e, ?_, ?_⟩
    · exact ⟨by show 1 ≤ 1000; decide, e, rfl⟩
    · rintro H1 rfl
      exact ⟨_, rfl, _, rfl, a, C, rfl, T, hno, .inl ⟨e, k⟩⟩
end
end TX
end
section
set_option Elab.async false
set_option maxRecDepth 100000
set_option linter.all false
namespace TK
open PySem L2 TM
open TX
section
variable {P : Program} {w : World} {K : PySem.W.Frag} {mg : Str → Option Value} {base : Heap} {C fT : Addr} {fdT : FuncData}
/-- a value that is no text -/
def NoText (K : PySem.W.Frag) (H : Hp) (x : V) : Prop := ∃ ty, TyX K H x (.type ty) ∧ kitB ty "str" = some false
/-- what is written of an exception class of the program -/
structure ExcT (K : PySem.W.Frag) (mg : Str → Option Value) (x : Str) (CE fE : Addr) : Prop where
  ox : OexC K CE
  mgE : mg x = some (.ref CE)
  iE : PySem.W.findIn K (.ref CE) "__init__" = some (some (.ref fE))
  tE : PySem.W.typeIn K (.ref fE) = some (.type "function")
end
end TK
end
section
set_option Elab.async false
set_option maxRecDepth 100000
set_option linter.all false
namespace TX
open PySem PySem.Spec PyProof.Rows L2
/-- isinstance(e, c), e the exception that the suite holds, its dict at d -/
def rIsX (K : PySem.W.Frag) (cls : Value) (a : Addr) (d : Option Addr) : List V → Hp → VK → Prop := fun xs H Q => ∃ (D : Addr) (c : V) (cv : Value) (b : Bool), cls = .ref D ∧ ExcC K D ∧ xs = [.ref a, c] ∧ (∀ u, RelV c u → u = cv) ∧ (∀ dd, d = some dd → ∃ fs, H dd = some (.xd fs)) ∧ PySem.W.kitOne K (.ref D) cv = some b ∧ Q (.bl b) H
theorem call_isX {X : Cx} {a : Addr} {cls : Value} {d : Option Addr} {oe : Obj} {pn : List (Addr × Obj)} (hz : Zc cls d oe) (hf : ∃ vs, oe.data = .fields vs) : CallR (X.suite a ((a, oe) :: pn)) (.builtin "isinstance") (rIsX X.K cls a d) := by
  intro pins s σ H xs us Q I r h
  obtain ⟨D, c, cv, b, rfl, C, rfl, hcv, hdd, e, q⟩ := h
  obtain ⟨u1, u2, rfl, rx, rt⟩ := vals2 r
  obtain rfl : u1 = Value.ref a := rx
  obtain rfl := hcv _ rt
  obtain ⟨hget, _⟩ := I.pin (a, oe) (List.mem_append.mpr (.inl List.mem_cons_self))
  obtain ⟨vs, hv⟩ := hf
  obtain ⟨od, J⟩ : ∃ od, PySem.W.InstAt s.heap a oe D od := by
    cases d with
    | none => exact ⟨none, hget, hz.1, by unfold PySem.W.notCls; rw [hv] <;> rfl, by rw [hz.2]; exact True.intro⟩
    | some dd =>
      obtain ⟨fs, hx⟩ := hdd dd rfl
      have hx' : ObjOk X.prog X.w H s.heap dd (.xd fs) := I.hok dd _ hx
      obtain ⟨mA, hns, _⟩ := hx'
      obtain ⟨od, ho, _⟩ := lookIn_ns hns
      exact ⟨some od, hget, hz.1, by unfold PySem.W.notCls; rw [hv] <;> rfl, by rw [hz.2]; exact ho⟩
  have hcl : (PySem.W.clsIn X.K D).isSome = true := by
    obtain ⟨cd, hc, _⟩ := PySem.W.any_some C.hd
    rw [hc]
    rfl
  exact PySem.W.kia_one (PySem.W.kitx_exc hcl C.hg C.hk C.hs C.ha C.hn C.ht C.hm) I.kIn J e (fun z => nomatch z) fun tk => ⟨.bl b, H, I.kept (t' := tk) fun _ _ z => z, rfl, q⟩
/-- xs.count(k), xs of bools -/
def rCntB (K : PySem.W.Frag) : V → List V → Hp → VK → Prop := fun x xs H Q => ∃ (p : Addr) (bs : List Bool) (k : Bool), x = .ref p ∧ xs = [.bl k] ∧ SqL K H p (bs.map V.bl) ∧ Q (.int (bs.count k : Nat)) H
def isB (k : Bool) : Value → Bool
  | .bool b => b == k
  | _ => false
theorem isB_count {k : Bool} : ∀ {bs : List Bool} {us : List Value}, Vals (bs.map V.bl) us → us.countP (isB k) = bs.count k
  | [], us, h => by cases h; rfl
  | b :: bs, us, h => by
    cases h with
    | @cons _ u _ ur ru rr =>
      obtain rfl : u = Value.bool b := ru
      rw [List.countP_cons, isB_count rr, List.count_cons]
      rfl
theorem mt_countB {X : Cx} : MtR X "list.count" (rCntB X.K) := by
  intro pins s σ H x xs v us Q I rx rxs h
  obtain ⟨p, bs, k, rfl, rfl, hs, q⟩ := h
  cases rx
  obtain ⟨u, rfl, ru⟩ := rxs.one
  obtain rfl : u = Value.bool k := ru
  obtain ⟨its, rv, ⟨⟨cls, dd, data, sl⟩, n, ho, hc, hdn, hd⟩, hlen⟩ := I.list hs
  simp only at hc hd
  subst hc hd
  refine call_meets PySem.F.slot_list_count ⟨_, ho, rfl⟩ PySem.F.entry_list_count (PySem.F.args_list_count_2 _ _)
    (SeqAt.list_countAt p its.toArray n dd sl (.bool k) (isB k)) ⟨ho, fun y hy => ?_, ?_⟩
  · obtain ⟨i, hi⟩ := List.mem_iff_getElem?.mp (show y ∈ its by simpa using hy)
    obtain ⟨b, rb⟩ : ∃ b, y = Value.bool b := by
      have hl := rv.length
      have hb : i < bs.length := by
        have := (List.getElem?_eq_some_iff.mp hi).1
        rw [List.length_map] at hl
        omega
      obtain ⟨u, hu, ru⟩ := rv.get (i := i) (x := V.bl bs[i]) (by rw [List.getElem?_map, List.getElem?_eq_getElem hb]; all_goals rfl)
      rw [hi] at hu
      cases hu
      exact ⟨_, ru⟩
    subst rb
    exact eqAt_V (y := .bl b) (x := .bl k) rfl rfl rfl rfl
  · refine ⟨.int (bs.count k : Nat), H, I.tok _, ⟨s.toks, ?_⟩, q⟩
    show Value.int ((its.toArray.toList.countP (isB k) : Nat) : Int) s.toks = Value.int ((bs.count k : Nat) : Int) s.toks
    rw [show its.toArray.toList = its by simp, isB_count rv]
end TX
end
section
set_option Elab.async false
set_option maxRecDepth 100000
set_option linter.all false
namespace TA
open TK
open PySem PySem.Spec PyProof.Rows L2 LamX TX
abbrev NRa : List Str := ["_law_work", "e", "_law_kinds", "_law_at", "_law_word"]
theorem scRa : FnScope NRa ["_law_work"] (defScope sLawRaised) := ⟨rfl, rfl, rfl, by decide +kernel, rfl, by decide +kernel, by decide +kernel⟩
/-- the error classes by their number -/
structure TxtE (K : PySem.W.Frag) (mg : Str → Option Value) (ce : Nat → Addr) (cT : Addr) : Prop where
  g0 : mg "InvalidWord" = some (.ref (ce 0))
  g1 : mg "InvalidTray" = some (.ref (ce 1))
  g2 : mg "UnknownMarble" = some (.ref (ce 2))
  g3 : mg "InvalidPlace" = some (.ref (ce 3))
  g4 : mg "InvalidNumber" = some (.ref (ce 4))
  g5 : mg "SameMarble" = some (.ref (ce 5))
  gT : mg "TrayError" = some (.ref cT)
  isi : mg "isinstance" = none
  ve : mg "ValueError" = none
  x0 : XfC K (ce 0)
  x1 : XfC K (ce 1)
  x2 : XfC K (ce 2)
  n0 : PySem.W.findIn K (.ref (ce 0)) "index" = some none
  n1 : PySem.W.findIn K (.ref (ce 1)) "row" = some none
  n2 : PySem.W.findIn K (.ref (ce 1)) "column" = some none
  n3 : PySem.W.findIn K (.ref (ce 2)) "marble" = some none
  xc : ∀ j, j < 6 → ExcC K (ce j)
  one : ∀ j k, j < 6 → k < 6 → PySem.W.kitOne K (.ref (ce j)) (.ref (ce k)) = some (j == k)
  isv : ∀ j, j < 6 → PySem.W.kitOne K (.ref (ce j)) (.type "ValueError") = some true
  ism : ∀ j, j < 6 → PySem.W.exmOne K (.ref (ce j)) (.ref cT) = some true
/-- what the suite says of the j-th class, its fields fs -/
def told (j : Nat) (fs : List (Str × V)) : Option (List V) := match j with
  | 0 => (fs.lookup ("index" : Str)).map fun v => [.str "word", v]
  | 1 => match fs.lookup ("row" : Str), fs.lookup ("column" : Str) with
    | some v, some u => some [.str "tray", v, u]
    | _, _ => none
  | 2 => (fs.lookup ("marble" : Str)).map fun v => [.str "nomarble", v]
  | 3 => some [.str "place"]
  | 4 => some [.str "number"]
  | _ => some [.str "same"]
theorem same_new {H : Hp} {l : Addr} {o : HO} (h : H l = none) : Same H (upd H l o) := fun b o' e => by
  rw [upd_ne (ne_of_none e h)]
  exact e
abbrev six (j : Nat) : List Bool := [j == 0, j == 1, j == 2, j == 3, j == 4, j == 5]
def wordOf (j : Nat) : Str := match j with
  | 0 => "word"
  | 1 => "tray"
  | 2 => "nomarble"
  | 3 => "place"
  | 4 => "number"
  | _ => "same"
theorem six_all {p : Nat → Prop} (h0 : p 0) (h1 : p 1) (h2 : p 2) (h3 : p 3) (h4 : p 4) (h5 : p 5) : ∀ j, j < 6 → p j
  | 0, _ => h0
  | 1, _ => h1
  | 2, _ => h2
  | 3, _ => h3
  | 4, _ => h4
  | 5, _ => h5
theorem six_count : ∀ j, j < 6 → (six j).count true = 1 := six_all (by decide) (by decide) (by decide) (by decide) (by decide) (by decide)
theorem six_at : ∀ j, j < 6 → ((six j).map V.bl)[j]? = some (V.bl true) := six_all rfl rfl rfl rfl rfl rfl
theorem six_no : ∀ j, j < 6 → ∀ (m : Nat) (z : V), m < j → ((six j).map V.bl)[m]? = some z → eqV z (V.bl true) = false := fun j hj m z hm hz => by
  have : ∀ j : Fin 6, ∀ m : Fin 6, m.1 < j.1 → (six j.1)[m.1]? = some false := by decide
  have h := this ⟨j, hj⟩ ⟨m, by omega⟩ hm
  rw [List.getElem?_map, h] at hz
  cases hz
  rfl
theorem six_word : ∀ j, j < 6 → ([V.str "word", V.str "tray", V.str "nomarble", V.str "place", V.str "number", V.str "same"] : List V)[j]? = some (V.str (wordOf j)) := six_all rfl rfl rfl rfl rfl rfl
theorem six_flat (j : Nat) : ((six j).map V.bl).all flatV = true := rfl
theorem ix_listK {X : Cx} {K : PySem.W.Frag} (h : X.K = K) : IxR X (rIxL K) := by
  subst h
  exact ix_list
theorem mt_countBK {X : Cx} {K : PySem.W.Frag} (h : X.K = K) : MtR X "list.count" (rCntB K) := by
  subst h
  exact mt_countB
theorem mt_indexK {X : Cx} {K : PySem.W.Frag} (h : X.K = K) : MtR X "list.index" (rIndex K) := by
  subst h
  exact mt_index
theorem pe_bmK {X : Cx} {K : PySem.W.Frag} {o e : Expr} {es : List Expr} {to : TE} {t : TA} {name : Str} {apos cpos : Pos} {Ty id : String} {r : V → List V → Hp → VK → Prop} (h : X.K = K) (pa : PlainAttrs Ty) (slot : Slot Ty name id) (hty : typeOf (.builtin id) = pure (.type "method_descriptor")) (hm : MtR X id r) (ho : PE X o to) (ha : PA X (e :: es) t)
    (hbase : attributeBase o name X.env (eval o X.env) = eval o X.env := by rfl)
    (hfew : ((backTo cpos (starEach (e :: es) X.env)).all (fun z => !z.1) && (backToKw cpos (keywordEach [] X.env)).all (fun z => z.1.isSome) && decide ((e :: es).length + ([] : List Keyword).length + (if ([] : List Keyword).isEmpty then 0 else 1) < 30)) = true := by rfl)
    (hline : (apos.endLine == cpos.line) = true := by rfl)
    (he : starEach (e :: es) X.env = (false, eval e X.env) :: starEach es X.env := by rfl) (hpl : (backTo cpos (starEach es X.env)).any (·.1) = false := by rfl) : PE X (.Call (.Attribute o name apos) (e :: es) [] cpos) (tBM K Ty r to t) := by
  subst h
  exact pe_bm pa slot hty hm ho ha hbase hfew hline he hpl
/-- what is raised is wished for at slots of the frame's length alone -/
theorem takes_len {X : Cx} {W : WX} (t : Takes X W) : Takes X (fun c d σ H => σ.length = X.N.length → W c d σ H) := fun u s' ⟨a, B, sI, pins, σ, H, cls, d, e, I, nb, up, sky, na, os, ag, w⟩ =>
  t u s' ⟨a, B, sI, pins, σ, H, cls, d, e, I, nb, up, sky, na, os, ag, w I.len⟩
section
variable {X : Cx} {ce : Nat → Addr} {cT : Addr}
/-- None where nothing is raised; else the words of the error -/
def TRa (ce : Nat → Addr) : (XK → Hp → VK → Prop) → Hp → VK → Prop := fun tl H Q =>
  tl (fun cls d H' => ∃ (j : Nat) (fs : List (Str × V)) (xs : List V), j < 6 ∧ cls = .ref (ce j) ∧ (∀ dd, d = some dd → H' dd = some (.xd fs)) ∧ (j < 3 → d ≠ none) ∧ told j fs = some xs ∧
    ∀ H2 p, (∀ b o, H' b = some o → H2 b = some o) → H2 p = some (.tup xs) → Q (.ref p) H2) H (fun _ H' => Q .non H')
theorem raised_gives {g : Addr} {cdg : Value} {q : Str} (T : TxtE X.K X.mg ce cT) : GivesTo X NRa "_law_raised" (defScope sLawRaised) g cdg (defBody sLawRaised) "_law_work" q (TRa ce) := by
  intro f c' s H Q tl act hc h
  refine ⟨_, pss_cons (ps_try_as (X := (cxOf C8.CX0 X.prog X.w X.K X.mg X.base NRa "_law_raised" (defScope sLawRaised) g cdg X.A X.stack s H C8.E0).nox) (i := 1) (c := .ref cT)
      (tb := fun W D σ H => ∃ Ech : XK, (∀ cls d σ' H', σ'.length = 5 → Ech cls d H' → W cls d σ' H') ∧ σ[0]? = some (some (.ref f)) ∧ H c' = some (CodeO c' q) ∧ tl Ech H fun _ H1 => D.nx σ H1)
      rfl rfl scRa.nd rfl rfl ⟨rfl, by decide, .inl T.gT⟩ L2.takes0 (fun W pn xe tk _ => ?_) (fun a oe cls d pn hz hf => pss_cons (ps_set (i := 2) scRa.nd rfl (.inl rfl) (pe_lst
        (pa_cons (pe_callB (call_isX hz hf) (by rfl) T.isi (by decide +kernel) (pa_cons (pv 1) (pa_cons (pe_glob (v := .ref (ce 0)) rfl T.g0 rfl) pa_nil)))
        (pa_cons (pe_callB (call_isX hz hf) (by rfl) T.isi (by decide +kernel) (pa_cons (pv 1) (pa_cons (pe_glob (v := .ref (ce 1)) rfl T.g1 rfl) pa_nil)))
        (pa_cons (pe_callB (call_isX hz hf) (by rfl) T.isi (by decide +kernel) (pa_cons (pv 1) (pa_cons (pe_glob (v := .ref (ce 2)) rfl T.g2 rfl) pa_nil))) pa_nil)))))
      (pss_cons (ps_set (i := 2) scRa.nd rfl (.inl rfl) (pe_op op_cat (pv 2) (pe_lst
        (pa_cons (pe_callB (call_isX hz hf) (by rfl) T.isi (by decide +kernel) (pa_cons (pv 1) (pa_cons (pe_glob (v := .ref (ce 3)) rfl T.g3 rfl) pa_nil)))
        (pa_cons (pe_callB (call_isX hz hf) (by rfl) T.isi (by decide +kernel) (pa_cons (pv 1) (pa_cons (pe_glob (v := .ref (ce 4)) rfl T.g4 rfl) pa_nil)))
        (pa_cons (pe_callB (call_isX hz hf) (by rfl) T.isi (by decide +kernel) (pa_cons (pv 1) (pa_cons (pe_glob (v := .ref (ce 5)) rfl T.g5 rfl) pa_nil))) pa_nil))))))
      (pss_cons (ps_if (PW.pt (pw_or (pt_cmpR op_ne (pe_bmK (K := X.K) rfl PySem.F.plainAttrs_list PySem.F.slot_list_count PySem.F.type_list_count (mt_countBK (K := X.K) rfl) (pv 2) (pa_cons pe_bl pa_nil)) pe_int (nomark _))
          (pw_or1 (pt_not (pt_val (pe_callB (call_isX hz hf) (by rfl) T.isi (by decide +kernel) (pa_cons (pv 1) (pa_cons (pe_bltn (v := .ty "ValueError") (by rfl) T.ve (by decide +kernel) rfl) pa_nil)))))))) pss_never pss_nil)
      (pss_cons (ps_set (i := 3) scRa.nd rfl (.inl rfl) (pe_bmK (K := X.K) rfl PySem.F.plainAttrs_list PySem.F.slot_list_index PySem.F.type_list_index (mt_indexK (K := X.K) rfl) (pv 2) (pa_cons pe_bl pa_nil)))
      (pss_cons (ps_set (i := 4) scRa.nd rfl (.inl rfl) (pe_ix (ix_listK (K := X.K) rfl) (pe_lst (pa_cons pe_str (pa_cons pe_str (pa_cons pe_str (pa_cons pe_str (pa_cons pe_str (pa_cons pe_str pa_nil))))))) (pv 3) (fun _ _ => rfl)))
      (pss_cons (ps_if (pt_cmpR op_eq (pv 3) pe_int (nomark _)) (pss_one (ps_ret (pe_tup (pa_cons (pv 4) (pa_cons (pe_xf T.x0 T.n0 hz hf (pv 1)) pa_nil))))) pss_nil)
      (pss_cons (ps_if (pt_cmpR op_eq (pv 3) pe_int (nomark _)) (pss_one (ps_ret (pe_tup (pa_cons (pv 4) (pa_cons (pe_xf T.x1 T.n1 hz hf (pv 1)) (pa_cons (pe_xf T.x1 T.n2 hz hf (pv 1)) pa_nil)))))) pss_nil)
      (pss_one (ps_ret (pe_ifExp (pt_cmpR op_eq (pv 3) pe_int (nomark _)) (pe_tup (pa_cons (pv 4) (pa_cons (pe_xf T.x2 T.n3 hz hf (pv 1)) pa_nil))) (pe_tup (pa_cons (pv 4) pa_nil))))))))))))) (pss_one (ps_ret pe_non)), ?_⟩
  · refine ⟨fun pins s' σ H' D I h' => ?_⟩
    obtain ⟨Ech, hW, h1, h2, h3⟩ := h'
    exact (pss_one (ps_expr (act _ pn xe Ech _ _ (takes_len tk) fun cls d σ2 H2 q hl => hW cls d σ2 H2 hl q))).run pins s' σ H' D I ⟨h1, h2, h3⟩
  · refine ⟨_, fun cls d σ' H' hσ ⟨j, fs, xs, hj, ec, hd, hdn, ht, k⟩ => ?_, rfl, hc, h⟩
    subst ec
    refine ⟨true, T.ism j hj, fun _ a ha => ?_, fun z => nomatch z⟩
    match σ', hσ with
    | [w0, w1, w2, w3, w4], _ =>
    have cl : ∀ (H1 : Hp), Same H' H1 → ∀ dd, d = some dd → ∃ fs, H1 dd = some (.xd fs) := fun H1 sm dd e => ⟨fs, sm _ _ (hd dd e)⟩
    have one : ∀ k, k < 6 → PySem.W.kitOne X.K (.ref (ce j)) (.ref (ce k)) = some (j == k) := fun k hk => T.one j k hj hk
    have cv : ∀ k, ∀ u, RelV (.ref (ce k)) u → u = .ref (ce k) := fun k u h => h
    have sm0 := Same.refl H'
    refine ⟨_, rfl, ce j, _, _, _, rfl, T.xc j hj, rfl, cv 0, cl _ sm0, one 0 (by decide), ?_⟩
    refine ⟨_, rfl, ce j, _, _, _, rfl, T.xc j hj, rfl, cv 1, cl _ sm0, one 1 (by decide), ?_⟩
    refine ⟨_, rfl, ce j, _, _, _, rfl, T.xc j hj, rfl, cv 2, cl _ sm0, one 2 (by decide), ?_⟩
    refine ⟨by show 3 ≤ sizeLine; decide, fun l1 hl1 => ?_⟩
    have sm1 := sm0.trans (same_new (o := .lst [V.bl (j == 0), V.bl (j == 1), V.bl (j == 2)]) hl1)
    refine ⟨_, rfl, ?_⟩
    refine ⟨_, rfl, ce j, _, _, _, rfl, T.xc j hj, rfl, cv 3, cl _ sm1, one 3 (by decide), ?_⟩
    refine ⟨_, rfl, ce j, _, _, _, rfl, T.xc j hj, rfl, cv 4, cl _ sm1, one 4 (by decide), ?_⟩
    refine ⟨_, rfl, ce j, _, _, _, rfl, T.xc j hj, rfl, cv 5, cl _ sm1, one 5 (by decide), ?_⟩
    refine ⟨by show 3 ≤ sizeLine; decide, fun l2 hl2 => ?_⟩
    have hl1' : (upd (upd H' l1 (.lst [V.bl (j == 0), V.bl (j == 1), V.bl (j == 2)])) l2 (.lst [V.bl (j == 3), V.bl (j == 4), V.bl (j == 5)])) l1 = some (.lst [V.bl (j == 0), V.bl (j == 1), V.bl (j == 2)]) := by
      have e1 : (upd H' l1 (.lst [V.bl (j == 0), V.bl (j == 1), V.bl (j == 2)])) l1 = some (.lst [V.bl (j == 0), V.bl (j == 1), V.bl (j == 2)]) := upd_same
      rw [upd_ne (ne_of_none e1 hl2)]
      exact e1
    have sm2 := sm1.trans (same_new (o := .lst [V.bl (j == 3), V.bl (j == 4), V.bl (j == 5)]) hl2)
    refine ⟨l1, l2, _, _, rfl, rfl, hl1', upd_same, by show 6 ≤ sizeLine; decide, fun l3 hl3 => ?_⟩
    have sm3 := sm2.trans (same_new (o := .lst ((six j).map V.bl)) hl3)
    have hl3' : (upd (upd (upd H' l1 (.lst [V.bl (j == 0), V.bl (j == 1), V.bl (j == 2)])) l2 (.lst [V.bl (j == 3), V.bl (j == 4), V.bl (j == 5)])) l3 (.lst ((six j).map V.bl))) l3 = some (.lst ((six j).map V.bl)) := upd_same
    show tSeq _ _ _ _ (upd (upd (upd H' l1 (.lst [V.bl (j == 0), V.bl (j == 1), V.bl (j == 2)])) l2 (.lst [V.bl (j == 3), V.bl (j == 4), V.bl (j == 5)])) l3 (.lst ((six j).map V.bl)))
    generalize (upd (upd (upd H' l1 (.lst [V.bl (j == 0), V.bl (j == 1), V.bl (j == 2)])) l2 (.lst [V.bl (j == 3), V.bl (j == 4), V.bl (j == 5)])) l3 (.lst ((six j).map V.bl))) = H3 at sm3 hl3'
    refine ⟨_, rfl, .inl ⟨rfl, _, SqL.of hl3'⟩, l3, six j, true, rfl, rfl, SqL.of hl3', rfl, _, rfl, ?_⟩
    rw [six_count j hj]
    refine iteF ⟨_, rfl, ce j, _, _, _, rfl, T.xc j hj, rfl, (fun u h => h), cl _ sm3, T.isv j hj, true, rfl, iteF ?_⟩
    refine ⟨_, rfl, .inl ⟨rfl, _, SqL.of hl3'⟩, l3, _, _, j, _, rfl, rfl, SqL.of hl3', rfl, six_flat j, six_at j hj, rfl, six_no j hj, ?_⟩
    refine ⟨by show 6 ≤ sizeLine; decide, fun l4 hl4 => ?_⟩
    have sm4 := sm3.trans (same_new (o := .lst [V.str "word", V.str "tray", V.str "nomarble", V.str "place", V.str "number", V.str "same"]) hl4)
    refine ⟨_, rfl, l4, _, _, _, rfl, rfl, SqL.of upd_same, atI_nat (six_word j hj), ?_⟩
    generalize upd H3 l4 (.lst [V.str "word", V.str "tray", V.str "nomarble", V.str "place", V.str "number", V.str "same"]) = H4 at sm4
    have fin : ∀ {p : Addr}, H4 p = none → Q (.ref p) (upd H4 p (.tup xs)) := fun {p} hp => k _ p (sm4.trans (same_new hp)) upd_same
    have tail : (j = 3 ∨ j = 4 ∨ j = 5) → xs = [V.str (wordOf j)] := fun h => by
      rcases h with rfl | rfl | rfl <;> exact (Option.some.inj ht).symm
    have hcases : j = 0 ∨ j = 1 ∨ j = 2 ∨ (j = 3 ∨ j = 4 ∨ j = 5) := by omega
    rcases hcases with rfl | rfl | rfl | h3
    · obtain ⟨dd, ed⟩ : ∃ dd, d = some dd := by
        cases d with
        | none => exact absurd rfl (hdn (by decide))
        | some dd => exact ⟨dd, rfl⟩
      obtain ⟨v, hv, rfl⟩ : ∃ v, fs.lookup ("index" : Str) = some v ∧ xs = [V.str "word", v] := by
        have ht' : (fs.lookup ("index" : Str)).map (fun v => [V.str "word", v]) = some xs := ht
        cases e : fs.lookup ("index" : Str) with
        | none => rw [e] at ht'; cases ht'
        | some v => rw [e] at ht'; exact ⟨v, rfl, (Option.some.inj ht').symm⟩
      refine ⟨_, rfl, rfl, _, rfl, iteT ⟨_, rfl, _, rfl, rfl, rfl, dd, fs, v, ed, sm4 _ _ (hd dd ed), hv, by show 2 ≤ sizeLine; decide, fun p hp => fin hp⟩⟩
    · obtain ⟨dd, ed⟩ : ∃ dd, d = some dd := by
        cases d with
        | none => exact absurd rfl (hdn (by decide))
        | some dd => exact ⟨dd, rfl⟩
      obtain ⟨v, u, hv, hu, rfl⟩ : ∃ v u, fs.lookup ("row" : Str) = some v ∧ fs.lookup ("column" : Str) = some u ∧ xs = [V.str "tray", v, u] := by
        have ht' : (match fs.lookup ("row" : Str), fs.lookup ("column" : Str) with | some v, some u => some [V.str "tray", v, u] | _, _ => none) = some xs := ht
        cases e : fs.lookup ("row" : Str) with
        | none => rw [e] at ht'; cases ht'
        | some v =>
          cases e2 : fs.lookup ("column" : Str) with
          | none => rw [e, e2] at ht'; cases ht'
          | some u => rw [e, e2] at ht'; exact ⟨v, u, rfl, rfl, (Option.some.inj ht').symm⟩
      refine ⟨_, rfl, rfl, _, rfl, iteF ⟨_, rfl, rfl, _, rfl, iteT ⟨_, rfl, _, rfl, rfl, rfl, dd, fs, v, ed, sm4 _ _ (hd dd ed), hv, _, rfl, rfl, rfl, dd, fs, u, ed, sm4 _ _ (hd dd ed), hu, by show 3 ≤ sizeLine; decide, fun p hp => fin hp⟩⟩⟩
    · obtain ⟨dd, ed⟩ : ∃ dd, d = some dd := by
        cases d with
        | none => exact absurd rfl (hdn (by decide))
        | some dd => exact ⟨dd, rfl⟩
      obtain ⟨v, hv, rfl⟩ : ∃ v, fs.lookup ("marble" : Str) = some v ∧ xs = [V.str "nomarble", v] := by
        have ht' : (fs.lookup ("marble" : Str)).map (fun v => [V.str "nomarble", v]) = some xs := ht
        cases e : fs.lookup ("marble" : Str) with
        | none => rw [e] at ht'; cases ht'
        | some v => rw [e] at ht'; exact ⟨v, rfl, (Option.some.inj ht').symm⟩
      refine ⟨_, rfl, rfl, _, rfl, iteF ⟨_, rfl, rfl, _, rfl, iteF ⟨_, rfl, rfl, _, rfl, iteT ⟨_, rfl, _, rfl, rfl, rfl, dd, fs, v, ed, sm4 _ _ (hd dd ed), hv, by show 2 ≤ sizeLine; decide, fun p hp => fin hp⟩⟩⟩⟩
    · have e0 : decide (V.int (j : Int) = V.int 0) = false := decide_eq_false (by simp; omega)
      have e1 : decide (V.int (j : Int) = V.int 1) = false := decide_eq_false (by simp; omega)
      have e2 : decide (V.int (j : Int) = V.int 2) = false := decide_eq_false (by simp; omega)
      obtain rfl := tail h3
      refine ⟨_, rfl, rfl, _, rfl, ?_⟩
      rw [e0]
      refine iteF ⟨_, rfl, rfl, _, rfl, ?_⟩
      rw [e1]
      refine iteF ⟨_, rfl, rfl, _, rfl, ?_⟩
      rw [e2]
      exact iteF ⟨_, rfl, by show 1 ≤ sizeLine; decide, fun p hp => fin hp⟩
end
end TA
end
section
set_option Elab.async false
set_option maxRecDepth 100000
set_option linter.all false
namespace TA
open TK
open PySem PySem.Spec PyProof.Rows L2
structure TxtA (K : PySem.W.Frag) (mg : Str → Option Value) : Prop where
  isi : mg "isinstance" = none
  tup : mg "tuple" = none
  lst : mg "list" = none
  bool : mg "bool" = none
  len : mg "len" = none
  range : mg "range" = none
/-- a sequence at a: a list, a tuple -/
inductive Sq (K : PySem.W.Frag) (H : Hp) (a : Addr) (xs : List V) : Bool → Prop where
  | lst (h : SqL K H a xs) : Sq K H a xs false
  | tup (h : SqT K H a xs) : Sq K H a xs true
/-- two values of one shape and content, at most n deep -/
inductive Alk (K : PySem.W.Frag) (H : Hp) : Nat → V → V → Prop where
  | non {n} : Alk K H n .non .non
  | bl {n} (b : Bool) : Alk K H n (.bl b) (.bl b)
  | int {n} (i : Int) : Alk K H n (.int i) (.int i)
  | str {n} (z : Str) : Alk K H n (.str z) (.str z)
  | seq {n} {a b : Addr} {xs ys : List V} {t : Bool} (hl : xs.length ≤ 1000) (ha : Sq K H a xs t) (hb : Sq K H b ys t) (hxy : xs.length = ys.length) (all : ∀ (i : Nat) (x y : V), xs[i]? = some x → ys[i]? = some y → Alk K H n x y) : Alk K H (n + 1) (.ref a) (.ref b)
theorem Sq.same {K : PySem.W.Frag} {H H' : Hp} {a : Addr} {xs : List V} {t : Bool} (h : Sq K H a xs t) (s : Same H H') : Sq K H' a xs t := by
  cases h with
  | lst h => exact .lst (s.seq h)
  | tup h =>
    refine .tup ?_
    rcases h with (h | ⟨o, h⟩) | h
    · exact .inl (.inl (s _ _ h))
    · exact .inl (.inr ⟨o, s _ _ h⟩)
    · exact .inr h
theorem Alk.same {K : PySem.W.Frag} {H H' : Hp} (s : Same H H') : ∀ {n : Nat} {x y : V}, Alk K H n x y → Alk K H' n x y
  | _, _, _, .non => .non
  | _, _, _, .bl b => .bl b
  | _, _, _, .int i => .int i
  | _, _, _, .str z => .str z
  | _, _, _, .seq hl ha hb hxy all => .seq hl (ha.same s) (hb.same s) hxy fun i x y h1 h2 => Alk.same s (all i x y h1 h2)
/-- what isinstance says of a value that is no sequence -/
def Scal (K : PySem.W.Frag) (x : V) : Prop := ∃ (ty : String) (bb : Bool), scal x x = true ∧ (∀ H, TyX K H x (.type ty)) ∧ PySem.W.kitAny K (.type ty) [.type "tuple", .type "list"] = some false ∧ kitB ty "bool" = some bb
theorem no_seq {K : PySem.W.Frag} {ty : String} (h1 : kitB ty "tuple" = some false) (h2 : kitB ty "list" = some false) : PySem.W.kitAny K (.type ty) [.type "tuple", .type "list"] = some false :=
  kitAny_cons (kit_ty h1) (fun _ => kitAny_cons (kit_ty h2) (fun _ => rfl) fun z => nomatch z) fun z => nomatch z
theorem scal_non {K : PySem.W.Frag} : Scal K .non := ⟨"NoneType", false, rfl, fun _ => .base .non, no_seq (by decide +kernel) (by decide +kernel), by decide +kernel⟩
theorem scal_bl {K : PySem.W.Frag} (b : Bool) : Scal K (.bl b) := ⟨"bool", true, rfl, fun _ => .base (.bl b), no_seq (by decide +kernel) (by decide +kernel), by decide +kernel⟩
theorem scal_int {K : PySem.W.Frag} (i : Int) : Scal K (.int i) := ⟨"int", false, rfl, fun _ => .base (.int i), no_seq (by decide +kernel) (by decide +kernel), by decide +kernel⟩
theorem scal_str {K : PySem.W.Frag} (z : Str) : Scal K (.str z) := ⟨"str", false, rfl, fun _ => .base (.str z), no_seq (by decide +kernel) (by decide +kernel), by decide +kernel⟩
def tyN (t : Bool) : String := if t then "tuple" else "list"
theorem sq_ty {K : PySem.W.Frag} {H : Hp} {a : Addr} {xs : List V} {t : Bool} (h : Sq K H a xs t) : TyX K H (.ref a) (.type (tyN t)) := by
  cases h with
  | lst h =>
    rcases h with (h | ⟨o, h⟩) | ⟨o, its, n, h, c, _⟩
    · exact .base (.lst h)
    · exact .base (.frz h)
    · exact .kList h c
  | tup h =>
    rcases h with (h | ⟨o, h⟩) | ⟨o, its, n, h, c, _⟩
    · exact .base (.tup h)
    · exact .fTuple h
    · exact .kTuple h c
theorem seq_kit {K : PySem.W.Frag} (t : Bool) : PySem.W.kitAny K (.type (tyN t)) [.type "tuple", .type "list"] = some true := by
  cases t with
  | true => exact kitAny_cons (b := true) (kit_ty (by decide +kernel)) (fun z => nomatch z) fun _ => rfl
  | false => exact kitAny_cons (b := false) (kit_ty (by decide +kernel)) (fun _ => kitAny_cons (b := true) (kit_ty (by decide +kernel)) (fun z => nomatch z) fun _ => rfl) fun z => nomatch z
theorem tup_kit (t : Bool) : kitB (tyN t) "tuple" = some t := by
  cases t <;> decide +kernel
theorem Sq.len {K : PySem.W.Frag} {H : Hp} {a : Addr} {xs : List V} {t : Bool} (h : Sq K H a xs t) : SqL K H a xs ∨ SqT K H a xs := by
  cases h with
  | lst h => exact .inl h
  | tup h => exact .inr h
theorem Sq.ix {K : PySem.W.Frag} {H : Hp} {a : Addr} {xs : List V} {t : Bool} (h : Sq K H a xs t) {i : Nat} {v : V} {Q : VK} (e : xs[i]? = some v) (q : Q v H) : rIxL K (.ref a) (.int (i : Nat)) H Q ∨ rIxT K (.ref a) (.int (i : Nat)) H Q := by
  cases h with
  | lst h => exact .inl ⟨a, xs, i, v, rfl, rfl, h, atI_nat e, q⟩
  | tup h => exact .inr ⟨a, xs, i, v, rfl, rfl, h, atI_nat e, q⟩
theorem ix_ltK {X : Cx} {K : PySem.W.Frag} (h : X.K = K) : IxR X (fun x y H Q => rIxL K x y H Q ∨ rIxT K x y H Q) := by
  subst h
  exact ix_list.or ix_tup
section
variable {P : Program} {w : World} {K : PySem.W.Frag} {mg : Str → Option Value} {base : Heap}
abbrev NAl : List Str := ["_law_one", "_law_due", "_law_k"]
theorem scAl : FnScope NAl ["_law_one", "_law_due"] (defScope sLawAlike) := ⟨rfl, rfl, rfl, by decide +kernel, rfl, by decide +kernel, by decide +kernel⟩
def spAl (K : PySem.W.Frag) (n : Nat) : Sp := fun vs H Q _ => ∃ x y, vs = [x, y] ∧ Alk K H n x y ∧ ∀ H', Same H H' → Q (.bl true) H'
theorem ok_al {f : Addr} {fd : FuncData} (F : Fun K "_law_alike" "_law_alike" sLawAlike f fd) (T : TxtA K mg) (b : Binds K fd ["_law_one", "_law_due"] []) (mf : mg "_law_alike" = some (.ref f)) : ∀ n, FnOk P w K mg base CX0 (n + 1) f fd ["_law_one", "_law_due"] (spAl K n)
  | 0 => by
    refine F.ok scAl (fun vs H Q E h => ?_) (fun cdv A outer s H vs Q E hr h => ?_)
    · obtain ⟨x, y, rfl, _⟩ := h
      rfl
    · obtain ⟨x, y, rfl, al, k⟩ := h
      have nd := scAl.nd
      refine ⟨_, pss_cons (ps_if (PW.pt (pw_and (pt_val (pe_callB call_isiT (by rfl) T.isi (by decide +kernel) (pa_cons (pv 0) (pa_cons (pe_tup (pa_cons (pe_bltn (v := .ty "tuple") (by rfl) T.tup (by decide +kernel) rfl) (pa_cons (pe_bltn (v := .ty "list") (by rfl) T.lst (by decide +kernel) rfl) pa_nil))) pa_nil)))) (pw_and1 (pt_val (pe_callB call_isiT (by rfl) T.isi (by decide +kernel) (pa_cons (pv 1) (pa_cons (pe_tup (pa_cons (pe_bltn (v := .ty "tuple") (by rfl) T.tup (by decide +kernel) rfl) (pa_cons (pe_bltn (v := .ty "list") (by rfl) T.lst (by decide +kernel) rfl) pa_nil))) pa_nil))))))) pss_never pss_nil)
        (pss_one (ps_ret (pe_and (pe_cmpR op_eq (pv 0) (pv 1) (nomark _)) (pe_one (pe_cmpR op_eq (pe_callB call_isi (by rfl) T.isi (by decide +kernel) (pa_cons (pv 0) (pa_cons (pe_bltn (v := .ty "bool") (by rfl) T.bool (by decide +kernel) rfl) pa_nil))) (pe_callB call_isi (by rfl) T.isi (by decide +kernel) (pa_cons (pv 1) (pa_cons (pe_bltn (v := .ty "bool") (by rfl) T.bool (by decide +kernel) rfl) pa_nil))) (nomark _)))))), ?_⟩
      have sc : y = x ∧ Scal K x := by
        cases al with
        | non => exact ⟨rfl, scal_non⟩
        | bl b => exact ⟨rfl, scal_bl b⟩
        | int i => exact ⟨rfl, scal_int i⟩
        | str z => exact ⟨rfl, scal_str z⟩
      obtain ⟨rfl, sc⟩ := sc
      obtain ⟨ty, bb, e1, e2, e3, e4⟩ := sc
      refine ⟨_, rfl, by show 2 ≤ sizeLine; decide, fun tp htp => ⟨_, tp, _, .type ty, _, false, rfl, upd_same, .cons (.ty _) (.cons (.ty _) .nil), e2 _, e3, false, rfl, iteF (iteF ?_)⟩⟩
      have sm := same_new (o := .tup [V.ty "tuple", V.ty "list"]) htp
      refine ⟨_, rfl, _, rfl, e1, true, congrArg V.bl (decide_eq_true rfl), iteT ?_⟩
      refine ⟨_, rfl, _, _, _, _, bb, rfl, .ty _, e2 _, kit_ty e4, _, rfl, _, _, _, _, bb, rfl, .ty _, e2 _, kit_ty e4, rfl, ?_⟩
      rw [decide_eq_true rfl]
      exact k _ sm
  | n + 1 => by
    have G := ok_al F T b mf n
    refine F.ok scAl (fun vs H Q E h => ?_) (fun cdv A outer s H vs Q E hr h => ?_)
    · obtain ⟨x, y, rfl, _⟩ := h
      rfl
    · obtain ⟨x, y, rfl, al, k⟩ := h
      have nd := scAl.nd
      refine ⟨_, pss_cons (ps_if (PW.pt (pw_and (pt_val (pe_callB call_isiT (by rfl) T.isi (by decide +kernel) (pa_cons (pv 0) (pa_cons (pe_tup (pa_cons (pe_bltn (v := .ty "tuple") (by rfl) T.tup (by decide +kernel) rfl) (pa_cons (pe_bltn (v := .ty "list") (by rfl) T.lst (by decide +kernel) rfl) pa_nil))) pa_nil))))
            (pw_and1 (pt_val (pe_callB call_isiT (by rfl) T.isi (by decide +kernel) (pa_cons (pv 1) (pa_cons (pe_tup (pa_cons (pe_bltn (v := .ty "tuple") (by rfl) T.tup (by decide +kernel) rfl) (pa_cons (pe_bltn (v := .ty "list") (by rfl) T.lst (by decide +kernel) rfl) pa_nil))) pa_nil)))))))
          (pss_cons (ps_if (PW.pt (pw_or (pt_cmpR op_ne (pe_callB call_isi (by rfl) T.isi (by decide +kernel) (pa_cons (pv 0) (pa_cons (pe_bltn (v := .ty "tuple") (by rfl) T.tup (by decide +kernel) rfl) pa_nil))) (pe_callB call_isi (by rfl) T.isi (by decide +kernel) (pa_cons (pv 1) (pa_cons (pe_bltn (v := .ty "tuple") (by rfl) T.tup (by decide +kernel) rfl) pa_nil))) (nomark _))
              (pw_or1 (pt_cmpR op_ne (pe_callB call_len_seq (by rfl) T.len PySem.boot_len (pa_cons (pv 0) pa_nil)) (pe_callB call_len_seq (by rfl) T.len PySem.boot_len (pa_cons (pv 1) pa_nil)) (nomark _))))) pss_never pss_nil)
          (pss_one (ps_ret (pe_cmpR (op_eqD hr.units) (pe_lc (own := [("_law_k", 2)]) (g := gName 2) rfl nd (pi_range1 (by rfl) T.range (pa_cons (pe_callB call_len_seq (by rfl) T.len PySem.boot_len (pa_cons (pv 0) pa_nil)) pa_nil)) (blkOk_by (N := NAl) (sc := defScope sLawAlike) (by decide +kernel)) (fun _ _ _ _ _ => pg_name (i := 2) nd rfl (.inl rfl))
            (fun _ _ _ _ _ => pts_one (pt_not (pt_val (pe_call G hr rfl mf F.kp b .nil pass0 (pa_cons (pe_ix (ix_ltK (K := K) rfl) (pv 0) (pv 2) (fun _ _ => rfl)) (pa_cons (pe_ix (ix_ltK (K := K) rfl) (pv 1) (pv 2) (fun _ _ => rfl)) pa_nil)))))) (fun _ _ _ _ _ => pv 2)) (pe_lst pa_nil) (nomark _))))) pss_nil)
        (pss_one (ps_ret (pe_and (pe_cmpR op_eq (pv 0) (pv 1) (nomark _)) (pe_one (pe_cmpR op_eq (pe_callB call_isi (by rfl) T.isi (by decide +kernel) (pa_cons (pv 0) (pa_cons (pe_bltn (v := .ty "bool") (by rfl) T.bool (by decide +kernel) rfl) pa_nil))) (pe_callB call_isi (by rfl) T.isi (by decide +kernel) (pa_cons (pv 1) (pa_cons (pe_bltn (v := .ty "bool") (by rfl) T.bool (by decide +kernel) rfl) pa_nil))) (nomark _)))))), ?_⟩
      by_cases hsc : y = x ∧ Scal K x
      · obtain ⟨rfl, sc⟩ := hsc
        obtain ⟨ty, bb, e1, e2, e3, e4⟩ := sc
        refine ⟨_, rfl, by show 2 ≤ sizeLine; decide, fun tp htp => ⟨_, tp, _, .type ty, _, false, rfl, upd_same, .cons (.ty _) (.cons (.ty _) .nil), e2 _, e3, false, rfl, iteF (iteF ?_)⟩⟩
        have sm := same_new (o := .tup [V.ty "tuple", V.ty "list"]) htp
        refine ⟨_, rfl, _, rfl, e1, true, congrArg V.bl (decide_eq_true rfl), iteT ?_⟩
        refine ⟨_, rfl, _, _, _, _, bb, rfl, .ty _, e2 _, kit_ty e4, _, rfl, _, _, _, _, bb, rfl, .ty _, e2 _, kit_ty e4, rfl, ?_⟩
        rw [decide_eq_true rfl]
        exact k _ sm
      · cases al with
        | non => exact absurd ⟨rfl, scal_non⟩ hsc
        | bl b => exact absurd ⟨rfl, scal_bl b⟩ hsc
        | int i => exact absurd ⟨rfl, scal_int i⟩ hsc
        | str z => exact absurd ⟨rfl, scal_str z⟩ hsc
        | @seq _ a b' xs ys t hl ha hb hxy all =>
          have kT : PySem.W.kitAny K (.type (tyN t)) [.type "tuple", .type "list"] = some true := seq_kit t
          refine ⟨_, rfl, by show 2 ≤ sizeLine; decide, fun tp htp => ⟨_, tp, _, .type (tyN t), _, true, rfl, upd_same, .cons (.ty _) (.cons (.ty _) .nil), sq_ty (ha.same (same_new htp)), kT, true, rfl, iteT ?_⟩⟩
          have s1 := same_new (o := .tup [V.ty "tuple", V.ty "list"]) htp
          refine ⟨_, rfl, by show 2 ≤ sizeLine; decide, fun tq htq => ⟨_, tq, _, .type (tyN t), _, true, rfl, upd_same, .cons (.ty _) (.cons (.ty _) .nil), sq_ty (hb.same (s1.trans (same_new htq))), kT, true, rfl, iteT ?_⟩⟩
          have s2 := s1.trans (same_new (o := .tup [V.ty "tuple", V.ty "list"]) htq)
          generalize upd (upd H tp (.tup [V.ty "tuple", V.ty "list"])) tq (.tup [V.ty "tuple", V.ty "list"]) = H2 at s2
          refine ⟨_, rfl, _, _, _, _, t, rfl, .ty _, sq_ty (ha.same s2), kit_ty (tup_kit t), _, rfl, _, _, _, _, t, rfl, .ty _, sq_ty (hb.same s2), kit_ty (tup_kit t), rfl, _, rfl, ?_⟩
          rw [show (!decide (V.bl t = V.bl t)) = false by simp]
          refine iteF ⟨_, rfl, a, xs, rfl, (ha.same s2).len, _, rfl, b', ys, rfl, (hb.same s2).len, rfl, _, rfl, ?_⟩
          rw [show (!decide (V.int (xs.length : Int) = V.int (ys.length : Int))) = false by simp [hxy]]
          refine iteF ⟨_, rfl, a, xs, rfl, (ha.same s2).len, (xs.length : Int), rfl, by omega, by omega, fun D hD => lc_range (lo := 0) (n := ((xs.length : Nat) : Int).toNat) (fun i H3 => Same H2 H3 ∧ H3 D = some (.lst [])) ⟨same_new hD, upd_same⟩ ?_ ?_⟩
          · rintro i H3 hi ⟨s3, hD3⟩
            rw [Int.toNat_natCast] at hi
            rw [Int.zero_add]
            obtain ⟨v, hv⟩ : ∃ v, xs[i]? = some v := ⟨_, List.getElem?_eq_getElem hi⟩
            obtain ⟨u, hu⟩ : ∃ u, ys[i]? = some u := ⟨_, List.getElem?_eq_getElem (by omega)⟩
            have s23 := s2.trans s3
            refine ⟨rfl, _, rfl, _, rfl, (ha.same s23).ix hv ⟨_, rfl, _, rfl, (hb.same s23).ix hu ⟨v, u, rfl, (all i v u hv hu).same s23, fun H4 s4 => ⟨true, rfl, ?_⟩⟩⟩⟩
            exact iteF ⟨s3.trans s4, s4 _ _ hD3⟩
          · rintro H3 ⟨s3, hD3⟩
            refine ⟨by show 0 ≤ sizeLine; decide, fun p hp => ?_⟩
            refine ⟨_, _, .lst (SqL.of (by rw [upd_ne (ne_of_none hD3 hp)]; exact hD3)) .nil, .lst (SqL.of upd_same) .nil, rfl, rfl, ?_⟩
            exact k _ ((s2.trans s3).trans (same_new hp))
end
end TA
end
section
set_option Elab.async false
set_option maxRecDepth 100000
set_option maxHeartbeats 4000000
set_option linter.all false
namespace TB
open PySem PySem.Spec PyProof.Rows L2
section
variable {X : Cx} {CX : CXT} {n : Nat} {C g : Addr} {sp : Sp} {E : XK}
/-- y in x -/
def rInOwn (C : Addr) (sp : Sp) (E : XK) : R2 := fun y x H Q => ∃ a dx fs, x = .ref a ∧ H a = some (.ins C dx fs) ∧ sp [.ref a, y] H (fun z H' => ∃ b, z = .bl b ∧ Q z H') E
theorem op_inOwn (hs : PySem.W.findIn X.K (.ref C) "__contains__" = some (some (.ref g))) (hf : PySem.W.isFn X.K (.ref g) = true) (F : FnR X.prog X.w X.K X.mg X.base CX n g sp) (hr : Room n X.A) (hx : Passes CX X E) : OpR X (compareOp .In) (rInOwn C sp E) := by
  intro pins s σ H y x u v Q I ry rx h
  obtain ⟨a, dx, fs, rfl, ha, q⟩ := h
  cases (show v = Value.ref a from rx)
  obtain ⟨mA, O, _⟩ := ins_get I.hok ha
  obtain ⟨od, J, _⟩ := O.look
  obtain ⟨m, hF⟩ := I.fr
  refine PySem.W.in_K hF I.ok.mod.kin J hs hf (wpAny_mono (wpAny_call (SlX.run_at (us := [.ref a, u]) (ws := [.ref a, y]) F hr I.env0 hx I (.cons rfl (.cons ry .nil)) q)) (fun w s' z => ?_) fun _ _ x => x)
  obtain ⟨z', H', I', rz, b, rfl, qz⟩ := z
  obtain rfl : w = Value.bool b := rz
  exact wpAny_truthy_bool ⟨.bl b, H', I', rfl, qz⟩
/-- a op y, y an instance of the class at C or a value of the built-in type T -/
def rCmpOwn (K : PySem.W.Frag) (C : Addr) (sp : Sp) (E : XK) : R2 := fun x y H Q => ∃ a dx fs, x = .ref a ∧ H a = some (.ins C dx fs) ∧
  ((∃ b dy gs, y = .ref b ∧ H b = some (.ins C dy gs)) ∨ ∃ T, (∀ u, RelV y u → typeOf u = pure (.type T)) ∧ PySem.W.notFirst K C (.type T) = true) ∧ sp [x, y] H Q E
theorem op_cmpOwn {op : CmpOp} (hop : ∀ a b, compareOp op a b = richCompare op a b) (hs : PySem.W.findIn X.K (.ref C) (cmpInfo op).2.1 = some (some (.ref g))) (hf : PySem.W.isFn X.K (.ref g) = true) (F : FnR X.prog X.w X.K X.mg X.base CX n g sp)
    (hr : Room n X.A) (hx : Passes CX X E) : OpR X (compareOp op) (rCmpOwn X.K C sp E) := by
  intro pins s σ H x y v u Q I rx ry h
  obtain ⟨a, dx, fs, rfl, ha, hy, q⟩ := h
  cases (show v = Value.ref a from rx)
  obtain ⟨mA, O, _⟩ := ins_get I.hok ha
  obtain ⟨od, J, _⟩ := O.look
  obtain ⟨m, hF⟩ := I.fr
  obtain ⟨tb, hb, hn⟩ : ∃ tb, PySem.W.Looks (model X.prog X.w) s.heap (typeOf u) tb ∧ PySem.W.notFirst X.K C tb = true := by
    rcases hy with ⟨b, dy, gs, rfl, hb⟩ | ⟨T, ht, hn⟩
    · cases (show u = Value.ref b from ry)
      obtain ⟨mB, O', _⟩ := ins_get I.hok hb
      obtain ⟨od', J', _⟩ := O'.look
      exact ⟨.ref C, J'.type, by simp [PySem.W.notFirst]⟩
    · exact ⟨.type T, PySem.W.Looks.of_pure (ht _ ry), hn⟩
  rw [hop]
  refine PySem.W.cmp_K (op := op) (tb := tb) hr.units0 hF I.ok.mod.kin J hb hn hs hf ?_
  refine wpAny_mono (wpAny_call (run_fnR (us := [.ref a, u]) (vs := [.ref a, y]) F hr hx I (.cons rfl (.cons ry .nil)) q)) (fun w s' z => ?_) fun _ _ x => x
  obtain ⟨z', H', I', rz, qz⟩ := z
  exact SlX.cmpback rz ⟨z', H', I', rz, qz⟩
end
end TB
end
namespace TB
end TB
namespace TA
end TA
section
set_option Elab.async false
set_option maxRecDepth 100000
set_option linter.all false
namespace TA
open TK
open PySem PySem.Spec PyProof.Rows L2 LamX TX TK TM TB
def isN : V → Int → Bool
  | .int i, l => decide (0 ≤ i) && decide (i ≤ l)
  | _, _ => false
/-- what isinstance says of a value -/
structure Kn (K : PySem.W.Frag) (H : Hp) (x : V) (ty : String) (bb bi : Bool) : Prop where
  t : TyX K H x (.type ty)
  b : kitB ty "bool" = some bb
  i : kitB ty "int" = some bi
  yes : bb = false → bi = true → ∃ i, x = .int i
  no : bb = true ∨ bi = false → ∀ i, x ≠ .int i
theorem kn_int {K : PySem.W.Frag} {H : Hp} (i : Int) : Kn K H (.int i) "int" false true := ⟨.base (.int i), by decide +kernel, by decide +kernel, fun _ _ => ⟨i, rfl⟩, fun h => by rcases h with h | h <;> cases h⟩
theorem kn_bl {K : PySem.W.Frag} {H : Hp} (b : Bool) : Kn K H (.bl b) "bool" true true := ⟨.base (.bl b), by decide +kernel, by decide +kernel, fun h => (by cases h), fun _ i => (by simp)⟩
structure TxtN (K : PySem.W.Frag) (mg : Str → Option Value) : Prop where
  isi : mg "isinstance" = none
  bool : mg "bool" = none
  int : mg "int" = none
section
variable {P : Program} {w : World} {K : PySem.W.Frag} {mg : Str → Option Value} {base : Heap} {C fT : Addr} {fdT : FuncData}
theorem scNu : FnScope ["value", "limit"] ["value", "limit"] (defScope sIsNumber) := ⟨rfl, rfl, rfl, by decide +kernel, rfl, by decide +kernel, by decide +kernel⟩
def spNum (K : PySem.W.Frag) : Sp := fun vs H Q _ => ∃ (x : V) (l : Int) (ty : String) (bb bi : Bool), vs = [x, .int l] ∧ Kn K H x ty bb bi ∧ Q (.bl (isN x l)) H
theorem ok_num {f : Addr} {fd : FuncData} (F : Fun K "is_number" "is_number" sIsNumber f fd) (T : TxtN K mg) : FnOk P w K mg base CX0 1 f fd ["value", "limit"] (spNum K) := by
  refine F.ok scNu (fun vs H Q E h => ?_) (fun cdv A outer s H vs Q E hr h => ?_)
  · obtain ⟨x, l, ty, bb, bi, rfl, _⟩ := h
    rfl
  · obtain ⟨x, l, ty, bb, bi, rfl, N, k⟩ := h
    refine ⟨_, pss_cons (ps_if (PW.pt (pw_or (pt_val (pe_callB call_isi (by rfl) T.isi (by decide +kernel) (pa_cons (pv 0) (pa_cons (pe_bltn (v := .ty "bool") (by rfl) T.bool (by decide +kernel) rfl) pa_nil))))
        (pw_or1 (pt_not (pt_val (pe_callB call_isi (by rfl) T.isi (by decide +kernel) (pa_cons (pv 0) (pa_cons (pe_bltn (v := .ty "int") (by rfl) T.int (by decide +kernel) rfl) pa_nil)))))))) (pss_one (ps_ret pe_bl)) pss_nil)
      (pss_one (ps_ret (pe_chain op_le op_le pe_int (pv 0) (pv 1)))), ?_⟩
    refine ⟨_, rfl, _, _, _, _, bb, rfl, .ty _, N.t, kit_ty N.b, bb, rfl, ?_⟩
    cases bb with
    | true =>
      refine iteT ?_
      have e : isN x l = false := by
        have h := N.no (.inl rfl)
        cases x with
        | int i => exact absurd rfl (h i)
        | _ => rfl
      rw [e] at k
      exact k
    | false =>
      refine iteF ⟨_, rfl, _, _, _, _, bi, rfl, .ty _, N.t, kit_ty N.i, bi, rfl, ?_⟩
      cases bi with
      | false =>
        refine iteT ?_
        have e : isN x l = false := by
          have h := N.no (.inr rfl)
          cases x with
          | int i => exact absurd rfl (h i)
          | _ => rfl
        rw [e] at k
        exact k
      | true =>
        obtain ⟨i, rfl⟩ := N.yes rfl rfl
        refine iteF ?_
        refine ⟨_, rfl, _, _, rfl, rfl, _, rfl, ?_⟩
        by_cases h0 : (0 : Int) ≤ i
        · rw [decide_eq_true h0]
          refine iteT ⟨_, rfl, _, _, rfl, rfl, ?_⟩
          have e : isN (.int i) l = decide (i ≤ l) := by
            show (decide (0 ≤ i) && decide (i ≤ l)) = _
            rw [decide_eq_true h0, Bool.true_and]
          rw [e] at k
          exact k
        · rw [decide_eq_false h0]
          refine iteF ?_
          have e : isN (.int i) l = false := by
            show (decide (0 ≤ i) && decide (i ≤ l)) = _
            rw [decide_eq_false h0, Bool.false_and]
          rw [e] at k
          exact k
end
end TA
end
section
set_option Elab.async false
set_option maxRecDepth 100000
set_option linter.all false
namespace TA
open TK
open PySem PySem.Spec PyProof.Rows L2 LamX TX TK TM TB
section
variable {P : Program} {w : World} {K : PySem.W.Frag} {mg : Str → Option Value} {base : Heap} {C fT : Addr} {fdT : FuncData}
theorem S_line {t : List Nat} (h : t.length ≤ 1000) : (S t).length ≤ sizeLine := by
  rw [S_len]
  show _ ≤ 16777216
  omega
end
end TA
end
section
set_option Elab.async false
set_option maxRecDepth 100000
set_option linter.all false
namespace TA
open TK
open PySem PySem.Spec PyProof.Rows L2 LamX TX TK TM TB
/-- an own exception class that is made with a text -/
structure ExN (K : PySem.W.Frag) (mg : Str → Option Value) (x : Str) (CE : Addr) : Prop where
  q : PySem.W.excIn K CE [.type "ValueError", .type "Exception", .type "BaseException", .type "object"] "ValueError.__new__" = true
  g : mg x = some (.ref CE)
  k : PySem.W.keepIn K (.ref CE) = true
  s : PySem.W.subIn K (.ref CE) (.type "BaseException") = some true
  t : PySem.W.typeIn K (.ref CE) = some (.type "type")
section
variable {P : Program} {w : World} {K : PySem.W.Frag} {mg : Str → Option Value} {base : Heap} {C CN fU : Addr} {fdU : FuncData}
end
end TA
end
namespace TB
end TB
section
set_option Elab.async false
set_option maxRecDepth 100000
set_option linter.all false
namespace TH
open PySem PySem.Spec PyProof.Rows L2
section
variable {J J1 : It} {n n1 : Nat} {G G1 : Hp → Prop} {Y Y1 : Nat → Hp → V → Hp → Prop}
/-- the inner walk -/
theorem in_it (w : Walk J1 n1 G1 Y1) {g1 : TG} {tt1 : TT} {te : TE} {vs1 : List Nat} {σ2 : L2.St} {H4 : Hp} {D : Addr} {Qe : Hp → Prop} (Pj : Nat → Hp → Prop) (h0 : Pj 0 H4) (hG : ∀ j H, j ≤ n1 → Pj j H → G1 H)
    (hs : ∀ j x H H', j < n1 → Pj j H → Y1 j H x H' → g1 x (wipe σ2 vs1) H' fun σ3 H5 => wipe σ3 vs1 = wipe σ2 vs1 ∧ tt1 σ3 H5 fun b H6 =>
      if b = true then te σ3 H6 fun y H7 => ∃ acc, H7 D = some (.lst acc) ∧ acc.length < sizeLine ∧ Pj (j + 1) (upd H7 D (.lst (acc ++ [y]))) else Pj (j + 1) H6) (hd : ∀ H, Pj n1 H → Qe H) :
    ∃ W1 : Nat → Nat → Hp → Prop, (∃ m, W1 0 m H4) ∧ ∀ j k H, W1 j k H →
      (J1.stop j H ∧ Qe H) ∨ (J1.go j H ∧ ∃ Nx1 : Hp → Prop, (∀ H', Nx1 H' → ∃ k', k' < k ∧ W1 (j + 1) k' H') ∧ ∀ x H', J1.yld j H x H' → g1 x (wipe σ2 vs1) H' fun σ3 H5 => wipe σ3 vs1 = wipe σ2 vs1 ∧ tt1 σ3 H5 fun b H6 =>
        if b = true then te σ3 H6 fun y H7 => ∃ acc, H7 D = some (.lst acc) ∧ acc.length < sizeLine ∧ Nx1 (upd H7 D (.lst (acc ++ [y]))) else Nx1 H6) := by
  refine ⟨fun i m H => m = n1 - i ∧ i ≤ n1 ∧ Pj i H, ⟨n1, by simp, Nat.zero_le _, h0⟩, ?_⟩
  rintro i m H ⟨rfl, hi, p⟩
  have q := hG i H hi p
  by_cases hlt : i < n1
  · exact .inr ⟨w.goes i H hlt q, Pj (i + 1), fun H' p' => ⟨n1 - (i + 1), by omega, rfl, hlt, p'⟩, fun x H' y => hs i x H H' hlt p (w.yields i H x H' hlt q y)⟩
  · have e : i = n1 := by omega
    subst e
    exact .inl ⟨w.stops H q, hd H p⟩
/-- the outer walk -/
theorem lc2_it (w : Walk J n G Y) {g g1 : TG} {tt tt1 : TT} {wi1 : TI} {te : TE} {vs vs1 : List Nat} {σ : L2.St} {H1 : Hp} {D : Addr} {Qd : Hp → Prop} (Pv : Nat → Hp → Prop) (h0 : Pv 0 (upd H1 D (.lst []))) (hG : ∀ i H, i ≤ n → Pv i H → G H)
    (hs : ∀ i x H H', i < n → Pv i H → Y i H x H' → g x (wipe σ vs) H' fun σ2 H2 => wipe σ2 vs = wipe σ vs ∧ tt σ2 H2 fun b H3 =>
      if b = true then wi1 σ2 H3 fun J1 H4 => ∃ W1 : Nat → Nat → Hp → Prop, (∃ m, W1 0 m H4) ∧ ∀ j k H, W1 j k H →
        (J1.stop j H ∧ Pv (i + 1) H) ∨ (J1.go j H ∧ ∃ Nx1 : Hp → Prop, (∀ H', Nx1 H' → ∃ k', k' < k ∧ W1 (j + 1) k' H') ∧ ∀ x H', J1.yld j H x H' → g1 x (wipe σ2 vs1) H' fun σ3 H5 => wipe σ3 vs1 = wipe σ2 vs1 ∧ tt1 σ3 H5 fun b H6 =>
          if b = true then te σ3 H6 fun y H7 => ∃ acc, H7 D = some (.lst acc) ∧ acc.length < sizeLine ∧ Nx1 (upd H7 D (.lst (acc ++ [y]))) else Nx1 H6)
      else Pv (i + 1) H3) (hd : ∀ H, Pv n H → Qd H) :
    ∃ W : Nat → Nat → Hp → Prop, (∃ m, W 0 m (upd H1 D (.lst []))) ∧ ∀ i m H, W i m H →
      (J.stop i H ∧ Qd H) ∨ (J.go i H ∧ ∃ Nx : Hp → Prop, (∀ H', Nx H' → ∃ m', m' < m ∧ W (i + 1) m' H') ∧ ∀ x H', J.yld i H x H' → g x (wipe σ vs) H' fun σ2 H2 => wipe σ2 vs = wipe σ vs ∧ tt σ2 H2 fun b H3 =>
        if b = true then wi1 σ2 H3 fun J1 H4 => ∃ W1 : Nat → Nat → Hp → Prop, (∃ m, W1 0 m H4) ∧ ∀ j k H, W1 j k H →
          (J1.stop j H ∧ Nx H) ∨ (J1.go j H ∧ ∃ Nx1 : Hp → Prop, (∀ H', Nx1 H' → ∃ k', k' < k ∧ W1 (j + 1) k' H') ∧ ∀ x H', J1.yld j H x H' → g1 x (wipe σ2 vs1) H' fun σ3 H5 => wipe σ3 vs1 = wipe σ2 vs1 ∧ tt1 σ3 H5 fun b H6 =>
            if b = true then te σ3 H6 fun y H7 => ∃ acc, H7 D = some (.lst acc) ∧ acc.length < sizeLine ∧ Nx1 (upd H7 D (.lst (acc ++ [y]))) else Nx1 H6)
        else Nx H3) := by
  refine ⟨fun i m H => m = n - i ∧ i ≤ n ∧ Pv i H, ⟨n, by simp, Nat.zero_le _, h0⟩, ?_⟩
  rintro i m H ⟨rfl, hi, p⟩
  have q := hG i H hi p
  by_cases hlt : i < n
  · exact .inr ⟨w.goes i H hlt q, Pv (i + 1), fun H' p' => ⟨n - (i + 1), by omega, rfl, hlt, p'⟩, fun x H' y => hs i x H H' hlt p (w.yields i H x H' hlt q y)⟩
  · have e : i = n := by omega
    subst e
    exact .inl ⟨w.stops H q, hd H p⟩
end
end TH
end
section
set_option Elab.async false
set_option maxRecDepth 100000
set_option linter.all false
namespace TP
open PySem L2 TM TK TH
open PySem.Spec PyProof.Rows
def srt (l : List Nat) : List Nat := l.mergeSort (fun a b => decide (a ≤ b))
theorem srt_perm (l : List Nat) : (srt l).Perm l := List.mergeSort_perm _ _
theorem srt_up (l : List Nat) : (srt l).Pairwise (· ≤ ·) := by
  have := List.pairwise_mergeSort (le := fun a b : Nat => decide (a ≤ b)) (fun a b c h1 h2 => by simp at *; omega) (fun a b => by simp; omega) l
  exact this.imp fun h => by simpa using h
theorem rise : ∀ (zs : List Nat) (p : Nat), risingS (S [p]) (zs.map fun c => S [c]) = true → (p :: zs).Pairwise (· ≤ ·)
  | [], p, _ => by simp
  | x :: r, p, h => by
    have h' : (!ltCps [x] [p] && risingS (S [x]) (r.map fun c => S [c])) = true := h
    rw [Bool.and_eq_true] at h'
    have hpx : p ≤ x := by
      have := h'.1
      simp [ltCps] at this
      omega
    have ih := rise r x h'.2
    refine List.pairwise_cons.mpr ⟨fun y hy => ?_, ih⟩
    rcases List.mem_cons.mp hy with e | e
    · omega
    · have := (List.pairwise_cons.mp ih).1 y e
      omega
theorem sort_uniq {ys : List Str} {l : List Nat} (p : ys.Perm (l.map fun c => S [c])) (s : sortedS ys = true) : ys = (srt l).map fun c => S [c] := by
  obtain ⟨zs, rfl⟩ : ∃ zs : List Nat, ys = zs.map fun c => S [c] := by
    have : ∀ y ∈ ys, ∃ c, y = S [c] := fun y hy => by
      obtain ⟨c, _, rfl⟩ := List.mem_map.mp (p.mem_iff.mp hy)
      exact ⟨c, rfl⟩
    clear p s
    induction ys with
    | nil => exact ⟨[], rfl⟩
    | cons y ys ih =>
      obtain ⟨c, rfl⟩ := this y List.mem_cons_self
      obtain ⟨zs, rfl⟩ := ih fun y hy => this y (List.mem_cons_of_mem _ hy)
      exact ⟨c :: zs, rfl⟩
  have pz : zs.Perm l := by
    have := p.map fun y : Str => y.cps.getD 0 0
    have e : ((fun y : Str => y.cps.getD 0 0) ∘ fun c : Nat => S [c]) = id := funext fun c => rfl
    rw [List.map_map, List.map_map, e, List.map_id, List.map_id] at this
    exact this
  have up : zs.Pairwise (· ≤ ·) := by
    cases zs with
    | nil => exact List.Pairwise.nil
    | cons z zs => exact rise zs z s
  have : zs = srt l := List.Perm.eq_of_pairwise (le := (· ≤ ·)) (fun a b _ _ h1 h2 => by omega) up (srt_up l) (pz.trans (srt_perm l).symm)
  rw [this]
section
variable {P : Program} {w : World} {K : PySem.W.Frag} {mg : Str → Option Value} {base : Heap} {D : Addr} {t0 : Tok}
structure TxtM (K : PySem.W.Frag) (mg : Str → Option Value) : Prop where
  em : ∃ u, mg "EMPTY" = some u ∧ RelV (.str (S [46])) u
  srt : mg "sorted" = none
  len : mg "len" = none
abbrev NMb : List Str := ["self", "row", "cell"]
theorem scMb : FnScope NMb ["self"] (defScope sTrayMarbles) := ⟨rfl, rfl, rfl, by decide +kernel, rfl, by decide +kernel, by decide +kernel⟩
def spMb (K : PySem.W.Frag) (D : Addr) : Sp := fun vs H Q _ => ∃ (p : Addr) (h w : Nat) (g : Grid), vs = [.ref p] ∧ TrayAt K D H p g ∧ VG h w g ∧ ∀ H', Same H H' → Q (.str (S (srt (mb g.flatten)))) H'
theorem nodup_le : ∀ (n : Nat) (l : List Nat), l.Nodup → (∀ c ∈ l, 97 ≤ c ∧ c < 97 + n) → l.length ≤ n
  | 0, l, _, h => by
    cases l with
    | nil => exact Nat.le_refl _
    | cons c l =>
      have := h c List.mem_cons_self
      omega
  | n + 1, l, nd, h => by
    by_cases q : (97 + n) ∈ l
    · have e := List.length_erase_of_mem q
      have ih := nodup_le n (l.erase (97 + n)) (nd.erase _) fun c hc => by
        have := (List.Nodup.mem_erase_iff nd).mp hc
        have h2 := h c this.2
        have := this.1
        omega
      omega
    · have ih := nodup_le n l nd fun c hc => by
        have h2 := h c hc
        have : c ≠ 97 + n := fun z => q (by rw [← z]; exact hc)
        omega
      omega
theorem mb_26 {h w : Nat} {g : Grid} (V : VG h w g) : (mb g.flatten).length ≤ 26 := by
  have sub : ∀ c ∈ mb g.flatten, 97 ≤ c ∧ c < 123 := fun c hc => by
    have := List.mem_filter.mp hc
    obtain ⟨r, hr, hcr⟩ := List.mem_flatten.mp this.1
    have h2 := V.ok r hr c hcr
    rcases h2 with h2 | h2
    · subst h2; simp at this
    · exact ⟨by omega, by omega⟩
  exact nodup_le 26 _ V.nd sub
theorem ok_mb {f : Addr} {fd : FuncData} (F : Fun K "marbles" "Tray.marbles" sTrayMarbles f fd) (T : TxtM K mg) (CT : ClsT K mg D) : FnOk P w K mg base CX0 1 f fd ["self"] (spMb K D) := by
  refine F.ok scMb (fun vs H Q E h => ?_) (fun cdv A outer s H vs Q E hr h => ?_)
  · obtain ⟨p, h, w, g, rfl, _⟩ := h
    rfl
  · obtain ⟨p, h, w, g, rfl, ⟨dx, a, hp, hS⟩, hV, k⟩ := h
    have nd := scMb.nd
    refine ⟨_, pss_one (ps_ret (pe_join pe_str (pe_callB cr_sortedS (by rfl) T.srt (by decide +kernel) (pa_cons (pe_lc2 (own := [("row", 1), ("cell", 2)]) (vs1 := [2]) (g := gName 1) (g1 := gName 2) (tt := tYes) rfl nd (pi_tup (pe_fld (pv 0) rfl)) (blkOk_by (N := NMb) (sc := defScope sTrayMarbles) (by decide +kernel)) (by decide)
      (fun _ _ _ _ _ => pg_name (i := 1) nd rfl (.inl rfl)) (fun _ _ _ _ _ => pts_nil) (fun _ _ _ _ _ => pi_str (pv 1)) (fun _ _ _ _ _ => pg_name (i := 2) nd rfl (.inl rfl)) (fun _ _ _ _ _ => pts_one (pt_cmpR op_ne (pv 2) (C8.pe_gc rfl T.em) (nomark _))) (fun _ _ _ _ _ => pv 2)) pa_nil)))), ?_⟩
    refine ⟨⟨_, rfl⟩, _, rfl, p, D, dx, _, _, rfl, hp, CT.cl, CT.nR, rfl, a, rfl, ⟨_, hS⟩, fun E2 hE2 => lc2_it walk_tup (fun i H1 => Same H H1 ∧ H1 E2 = some (.lst ((mb (g.take i).flatten).map sg)))
      ⟨same_new hE2, upd_same⟩ (fun i H1 _ ⟨sm, _⟩ => sm.tup hS) ?_ ?_⟩
    · rintro i x Hz H1 hi ⟨sm, hL⟩ ⟨rfl, hx⟩
      obtain ⟨r, hri, rfl⟩ := at_map hx
      have et : ((g.take (i + 1)).flatten) = (g.take i).flatten ++ r := by
        rw [List.take_add_one, hri, List.flatten_append]
        simp
      refine ⟨rfl, _, rfl, S r, rfl, in_it (walk_str (z := S r)) (fun j H2 => Same H H2 ∧ H2 E2 = some (.lst ((mb (g.take i).flatten ++ mb (r.take j)).map sg))) ⟨sm, by rw [hL]; simp [mb]⟩ (fun _ _ _ _ => True.intro) ?_ ?_⟩
      · rintro j x Hz H2 hj ⟨sm2, hL2⟩ ⟨rfl, c, hc, rfl⟩
        rw [S_at] at hc
        have et2 : mb (r.take (j + 1)) = mb (r.take j) ++ if c = 46 then [] else [c] := by
          rw [List.take_add_one, hc]
          show mb (r.take j ++ [c]) = _
          rw [mb_app]
          by_cases q : c = 46
          · subst q; rfl
          · rw [if_neg q]; simp [mb, q]
        have hlen : (mb (g.take i).flatten ++ mb (r.take j)).length ≤ 1000 := by
          have h1 := mb_le (g.take i).flatten
          have h2 := mb_le (r.take j)
          have h3 : (g.take i).flatten.length ≤ g.flatten.length := by
            have : (g.take i).flatten ++ (g.drop i).flatten = g.flatten := by rw [← List.flatten_append, List.take_append_drop]
            rw [← this, List.length_append]
            omega
          have h4 : g.flatten.length = h * w := by
            rw [List.length_flatten]
            have : g.map List.length = List.replicate h w := List.eq_replicate_iff.mpr ⟨by rw [List.length_map]; exact hV.rc.1, fun x hx => by
              obtain ⟨l, hl, rfl⟩ := List.mem_map.mp hx
              exact hV.rc.2 l hl⟩
            rw [this]
            simp
          have h5 : h * w ≤ 64 := Nat.mul_le_mul hV.n8 hV.m8
          have h6 := hV.row (List.mem_of_getElem? hri)
          rw [List.length_take] at h2
          rw [List.length_append]
          omega
        refine ⟨rfl, _, rfl, rfl, _, rfl, ?_⟩
        rw [show (!decide (V.str (⟨#[c]⟩ : Str) = V.str (S [46]))) = !(c == 46) from congrArg _ (dL c 46)]
        by_cases q : c = 46
        · rw [beq_iff_eq.mpr q]
          refine iteF ⟨sm2, ?_⟩
          rw [hL2, et2, if_pos q, List.append_nil]
        · rw [beq_eq_false_iff_ne.mpr q]
          refine iteT ⟨_, rfl, _, hL2, ?_, same_put sm2 hE2, ?_⟩
          · rw [List.length_map]
            show _ < 16777216
            omega
          · rw [upd_same, et2, if_neg q, ← List.append_assoc, List.map_append (l₂ := [c])]
            rfl
      · rintro H2 ⟨sm2, hL2⟩
        rw [S_size, List.take_length] at hL2
        refine ⟨sm2, ?_⟩
        rw [hL2, et, mb_app]
    · rintro H1 ⟨sm, hL⟩
      rw [List.length_map, List.take_length] at hL
      have h26 := mb_26 hV
      refine ⟨E2, (mb g.flatten).map fun c => S [c], rfl, ?_, ?_, fun ys z pm st hz => ?_⟩
      · rw [List.map_map]
        exact SqL.of hL
      · rw [List.length_map]
        omega
      · have e := sort_uniq pm st
        subst e
        have l26 : (srt (mb g.flatten)).length ≤ 26 := by rw [(srt_perm _).length_eq]; exact h26
        refine ⟨_, z, (srt (mb g.flatten)).map fun c => S [c], rfl, rfl, .inl (SqL.of upd_same), ?_, ?_⟩
        · rw [sum_ones, List.length_map]
          show _ + _ * 0 ≤ _
          omega
        · rw [join_signs]
          exact k _ (sm.trans (same_new hz))
theorem scHt : FnScope ["self"] ["self"] (defScope sTrayHeight) := ⟨rfl, rfl, rfl, by decide +kernel, rfl, by decide +kernel, by decide +kernel⟩
theorem scWd : FnScope ["self"] ["self"] (defScope sTrayWidth) := ⟨rfl, rfl, rfl, by decide +kernel, rfl, by decide +kernel, by decide +kernel⟩
def spHt (K : PySem.W.Frag) (D : Addr) : Sp := fun vs H Q _ => ∃ (p : Addr) (h w : Nat) (g : Grid), vs = [.ref p] ∧ TrayAt K D H p g ∧ VG h w g ∧ Q (.int (h : Nat)) H
def spWd (K : PySem.W.Frag) (D : Addr) : Sp := fun vs H Q _ => ∃ (p : Addr) (h w : Nat) (g : Grid), vs = [.ref p] ∧ TrayAt K D H p g ∧ VG h w g ∧ Q (.int (w : Nat)) H
theorem row0 {h w : Nat} {g : Grid} (G : VG h w g) : ∃ r0, atI (rowV g) ((0 : Nat) : Int) = some (V.str (S r0)) ∧ r0.length = w ∧ r0 ∈ g := by
  have hg : 0 < g.length := by rw [G.rc.1]; exact G.n1
  have e : g[0]? = some g[0] := List.getElem?_eq_getElem hg
  exact ⟨g[0], atI_nat (by rw [List.getElem?_map, e]; all_goals rfl), G.rc.2 _ (List.getElem_mem hg), List.getElem_mem hg⟩
theorem ok_ht {f : Addr} {fd : FuncData} (F : Fun K "height" "Tray.height" sTrayHeight f fd) (T : TxtM K mg) (CT : ClsT K mg D) : FnOk P w K mg base CX0 1 f fd ["self"] (spHt K D) := by
  refine F.ok scHt (fun vs H Q E h => ?_) (fun cdv A outer s H vs Q E hr h => ?_)
  · obtain ⟨p, h, w, g, rfl, _⟩ := h
    rfl
  · obtain ⟨p, h, w, g, rfl, ⟨dx, a, hp, hS⟩, hV, k⟩ := h
    refine ⟨_, pss_one (ps_ret (pe_callB call_len_seq (by rfl) T.len PySem.boot_len (pa_cons (pe_fld (pv 0) rfl) pa_nil))), ?_⟩
    refine ⟨_, rfl, p, D, dx, _, _, rfl, hp, CT.cl, CT.nR, rfl, a, _, rfl, .inr hS, ?_⟩
    rw [List.length_map, hV.rc.1]
    exact k
theorem ok_wd {f : Addr} {fd : FuncData} (F : Fun K "width" "Tray.width" sTrayWidth f fd) (T : TxtM K mg) (CT : ClsT K mg D) : FnOk P w K mg base CX0 1 f fd ["self"] (spWd K D) := by
  refine F.ok scWd (fun vs H Q E h => ?_) (fun cdv A outer s H vs Q E hr h => ?_)
  · obtain ⟨p, h, w, g, rfl, _⟩ := h
    rfl
  · obtain ⟨p, h, w, g, rfl, ⟨dx, a, hp, hS⟩, hV, k⟩ := h
    obtain ⟨r0, e0, l0, m0⟩ := row0 hV
    refine ⟨_, pss_one (ps_ret (pe_callB call_len_str (by rfl) T.len PySem.boot_len (pa_cons (pe_ix ix_tup (pe_fld (pv 0) rfl) pe_int (fun _ _ => rfl)) pa_nil))), ?_⟩
    have := hV.row m0
    refine ⟨_, rfl, p, D, dx, _, _, rfl, hp, CT.cl, CT.nR, rfl, a, _, _, _, rfl, rfl, hS, e0, _, rfl, by rw [S_len]; show _ ≤ 16777216; omega, ?_⟩
    rw [S_len, l0]
    exact k
end
end TP
end
section
set_option Elab.async false
set_option maxRecDepth 100000
set_option linter.all false
namespace TP
open PySem L2 TM TK TH TB TX
open PySem.Spec PyProof.Rows
def rNotOwn (C : Addr) (sp : Sp) (E : XK) : R2 := fun y x H Q => ∃ a dx fs, x = .ref a ∧ H a = some (.ins C dx fs) ∧ sp [.ref a, y] H (fun z H' => ∃ c, z = .bl c ∧ Q (.bl (!c)) H') E
theorem one_of {u : List Nat} (h : u.length = 1) : ∃ c, u = [c] := by
  match u, h with
  | [c], _ => exact ⟨c, rfl⟩
theorem op_notOwn {X : Cx} {CX : CXT} {n : Nat} {C g : Addr} {sp : Sp} {E : XK} (hs : PySem.W.findIn X.K (.ref C) "__contains__" = some (some (.ref g))) (hf : PySem.W.isFn X.K (.ref g) = true) (F : FnR X.prog X.w X.K X.mg X.base CX n g sp) (hr : Room n X.A) (hx : Passes CX X E) : OpR X (compareOp .NotIn) (rNotOwn C sp E) := by
  intro pins s σ H y x u v Q I ry rx h
  obtain ⟨a, dx, fs, rfl, ha, q⟩ := h
  cases (show v = Value.ref a from rx)
  obtain ⟨mA, O, _⟩ := ins_get I.hok ha
  obtain ⟨od, J, _⟩ := O.look
  obtain ⟨m, hF⟩ := I.fr
  refine PySem.W.notIn_K hF I.ok.mod.kin J hs hf (wpAny_mono (wpAny_call (SlX.run_at (us := [.ref a, u]) (ws := [.ref a, y]) F hr I.env0 hx I (.cons rfl (.cons ry .nil)) q)) (fun w s' z => ?_) fun _ _ x => x)
  obtain ⟨z', H', I', rz, b, rfl, qz⟩ := z
  obtain rfl : w = Value.bool b := rz
  exact wpAny_truthy_bool ⟨.bl (!b), H', I', rfl, qz⟩
theorem occ_at {t : List Nat} {c : Nat} (h : c ∈ t) : ∃ i rest, Builtin.Str.occurrences (S t) (S [c]) 0 (S t).length 1 = i :: rest ∧ t[i]? = some c := by
  have h1 := StrLaws.found_one (S t) c
  rw [S_list] at h1
  change (!(Builtin.Str.occurrences (S t) (S [c]) 0 (S t).length 1).isEmpty) = _ at h1
  rw [decide_eq_true h] at h1
  obtain ⟨f, hc⟩ := StrLaws.occ_chain (S t) (S [c]) 1
  cases e : Builtin.Str.occurrences (S t) (S [c]) 0 (S t).length 1 with
  | nil =>
    rw [e] at h1
    cases h1
  | cons i rest =>
    rw [e] at hc
    obtain ⟨_, ⟨h2, h3⟩, _⟩ := hc
    refine ⟨i, rest, rfl, ?_⟩
    rw [S_len, S_len] at h2
    have hi : i < t.length := by
      have : i + 1 ≤ t.length := h2
      omega
    have h4 := beq_iff_eq.mp h3
    have h5 := congrArg (fun a : Array Nat => a[0]?) h4
    simp only [Array.getElem?_extract] at h5
    rw [List.getElem?_eq_getElem hi]
    simp [S] at h5
    rw [← h5.2, List.getElem?_eq_getElem hi]
section
variable {P : Program} {w : World} {K : PySem.W.Frag} {mg : Str → Option Value} {base : Heap} {D CU fU pM gM pW gW fC : Addr} {fdM fdW fdU : FuncData}
theorem scTc : FnScope ["self", "x"] ["self", "x"] (defScope sTrayContains) := ⟨rfl, rfl, rfl, by decide +kernel, rfl, by decide +kernel, by decide +kernel⟩
def has (g : Grid) (u : List Nat) : Bool := decide (u.length = 1) && decide (u.getD 0 0 ∈ mb g.flatten)
def spTc (K : PySem.W.Frag) (D : Addr) : Sp := fun vs H Q _ => ∃ (p : Addr) (x : V) (h w : Nat) (g : Grid), vs = [.ref p, x] ∧ TrayAt K D H p g ∧ VG h w g ∧
  ((∃ u : List Nat, x = .str (S u) ∧ u.length ≤ 1000 ∧ ∀ H', Same H H' → Q (.bl (has g u)) H') ∨ (NoText K H x ∧ ∀ H', Same H H' → Q (.bl false) H'))
theorem ok_tc {f : Addr} {fd : FuncData} (F : Fun K "__contains__" "Tray.__contains__" sTrayContains f fd) (T : TxtW K mg) (CT : ClsT K mg D) (PM : PropOf K D "marbles" pM gM) (GM : FnOk P w K mg base CX0 1 gM fdM ["self"] (spMb K D)) (bM : Binds K fdM ["self"] []) :
    FnOk P w K mg base CX0 3 f fd ["self", "x"] (spTc K D) := by
  refine F.ok scTc (fun vs H Q E h => ?_) (fun cdv A outer s H vs Q E hr h => ?_)
  · obtain ⟨p, x, h, w, g, rfl, _⟩ := h
    rfl
  · obtain ⟨p, x, h, w, g, rfl, T0, hV, hx⟩ := h
    obtain ⟨dx, a, hp, hS⟩ := id T0
    refine ⟨_, pss_one (ps_ret (pe_and (pe_callB call_isi (by rfl) T.isi (by decide +kernel) (pa_cons (pv 1) (pa_cons (pe_bltn (v := .ty "str") (by rfl) T.str (by decide +kernel) rfl) pa_nil)))
      (pe_and (pe_cmpR op_eq (pe_callB call_len_str (by rfl) T.len PySem.boot_len (pa_cons (pv 1) pa_nil)) pe_int (nomark _))
        (pe_one (pe_cmpR op_in_sign (pv 1) (pe_prop (pv 0) CT.cl PM GM (hr.mono (by decide)) bM .nil pass0 rfl) (by rfl)))))), ?_⟩
    rcases hx with ⟨u, rfl, hl, k⟩ | ⟨⟨ty, hty, hk⟩, k⟩
    · refine ⟨_, rfl, _, _, _, _, true, rfl, .ty _, .base (.str _), kit_ty (by decide +kernel), true, rfl, iteT ?_⟩
      have hs : (S u).length ≤ sizeLine := by
        rw [S_len]
        show _ ≤ 16777216
        omega
      refine ⟨_, rfl, _, rfl, hs, rfl, _, rfl, ?_⟩
      by_cases h1 : u.length = 1
      · obtain ⟨c, rfl⟩ := one_of h1
        have e : decide (V.int ((S [c]).length : Nat) = V.int 1) = true := decide_eq_true (by rw [S_len]; rfl)
        rw [e]
        refine iteT ⟨_, rfl, _, rfl, p, dx, _, rfl, hp, p, h, w, g, rfl, T0, hV, fun H1 sm => ?_⟩
        refine ⟨c, _, rfl, rfl, ?_⟩
        rw [S_list]
        have k1 := k H1 sm
        have e2 : has g [c] = decide (c ∈ mb g.flatten) := rfl
        rw [e2] at k1
        rw [show decide (c ∈ srt (mb g.flatten)) = decide (c ∈ mb g.flatten) from decide_eq_decide.mpr (srt_perm _).mem_iff]
        exact k1
      · have e : decide (V.int ((S u).length : Nat) = V.int 1) = false := decide_eq_false (by
          rw [S_len]
          intro z
          injection z with z
          omega)
        rw [e]
        refine iteF ?_
        have k1 := k H (Same.refl H)
        unfold has at k1
        rw [decide_eq_false h1, Bool.false_and] at k1
        exact k1
    · exact ⟨_, rfl, _, _, _, _, false, rfl, .ty _, hty, kit_ty hk, false, rfl, iteF (k _ (Same.refl H))⟩
theorem scCl : FnScope ["self", "marble", "cells"] ["self", "marble"] (defScope sTrayCall) := ⟨rfl, rfl, rfl, by decide +kernel, rfl, by decide +kernel, by decide +kernel⟩
def spCl (K : PySem.W.Frag) (D CU : Addr) : Sp := fun vs H Q E => ∃ (p : Addr) (x : V) (h w : Nat) (g : Grid), vs = [.ref p, x] ∧ TrayAt K D H p g ∧ VG h w g ∧
  ((∃ c k : Nat, x = sg c ∧ c ≠ 46 ∧ g.flatten[k]? = some c ∧ ∀ H' q, Same H H' → H q = none → H' q = some (.tup [.int ((k : Int) / w), .int ((k : Int) % w)]) → Q (.ref q) H') ∨
    (((∃ u : List Nat, x = .str (S u) ∧ u.length ≤ 1000 ∧ has g u = false) ∨ NoText K H x) ∧ ∀ H' d, Same H H' → H d = none → H' d = some (.xd [("marble", x)]) → E (.ref CU) (some d) H'))
theorem mb_uniq {l : List Nat} (nd : (mb l).Nodup) {c i j : Nat} (hc : c ≠ 46) (hi : l[i]? = some c) (hj : l[j]? = some c) : i = j := by
  induction l generalizing i j with
  | nil => simp at hi
  | cons x l ih =>
    by_cases hx : x = 46
    · subst hx
      have e : mb (46 :: l) = mb l := by simp [mb]
      rw [e] at nd
      cases i with
      | zero => simp at hi; exact absurd hi.symm hc
      | succ i =>
        cases j with
        | zero => simp at hj; exact absurd hj.symm hc
        | succ j => rw [ih nd (i := i) (j := j) (by simpa using hi) (by simpa using hj)]
    · have e : mb (x :: l) = x :: mb l := by simp [mb, hx]
      rw [e] at nd
      have nd' := List.nodup_cons.mp nd
      have no : ∀ {k : Nat}, l[k]? = some x → False := fun {k} hk => nd'.1 (List.mem_filter.mpr ⟨List.mem_of_getElem? hk, by simp [hx]⟩)
      cases i with
      | zero =>
        simp at hi
        subst hi
        cases j with
        | zero => rfl
        | succ j => exact (no (by simpa using hj)).elim
      | succ i =>
        cases j with
        | zero =>
          simp at hj
          subst hj
          exact (no (by simpa using hi)).elim
        | succ j => rw [ih nd'.2 (i := i) (j := j) (by simpa using hi) (by simpa using hj)]
theorem flat_len {h w : Nat} {g : Grid} (R : Rect h w g) : g.flatten.length = h * w := by
  rw [List.length_flatten]
  have : g.map List.length = List.replicate h w := List.eq_replicate_iff.mpr ⟨by rw [List.length_map]; exact R.1, fun x hx => by
    obtain ⟨l, hl, rfl⟩ := List.mem_map.mp hx
    exact R.2 l hl⟩
  rw [this]
  simp
theorem join0 : ∀ g : Grid, Txt.join (S []) (g.map S) = S g.flatten := fun g => by
  rw [join_S, joinL_nil]
theorem ok_cl {f : Addr} {fd : FuncData} (F : Fun K "__call__" "Tray.__call__" sTrayCall f fd) (CT : ClsT K mg D) (dm : mg "divmod" = none)
    (hs : PySem.W.findIn K (.ref D) "__contains__" = some (some (.ref fC))) (hf : PySem.W.isFn K (.ref fC) = true) (FC : FnR P w K mg base CX0 3 fC (spTc K D))
    (PW_ : PropOf K D "width" pW gW) (GW : FnOk P w K mg base CX0 1 gW fdW ["self"] (spWd K D)) (bW : Binds K fdW ["self"] [])
    (X : ExcT K mg "UnknownMarble" CU fU) (GU : FnOk P w K mg base CX0 1 fU fdU ["self", "marble"] (spUm CU)) (bU : Binds K fdU ["self", "marble"] []) :
    FnOk P w K mg base (L2.CX P w) 4 f fd ["self", "marble"] (spCl K D CU) := by
  refine F.okX scCl (fun vs H Q E h => ?_) (fun cdv A outer s H vs Q E hr h => ?_)
  · obtain ⟨p, x, h, w, g, rfl, _⟩ := h
    rfl
  · obtain ⟨p, x, h, w, g, rfl, T0, hV, hx⟩ := h
    obtain ⟨dx, a, hp, hS⟩ := id T0
    refine ⟨_, pss_cons (ps_if (pt_cmpR (op_notOwn hs hf FC hr pass0) (pv 1) (pv 0) (by rfl)) (pss_one (ps_raise rfl (takes_of rfl rfl rfl rfl) (pmk_oex X.ox X.iE X.tE GU (hr.mono (by decide)) bU .nil pass0 rfl X.mgE (pa_cons (pv 1) pa_nil)))) pss_nil)
      (pss_cons (ps_set (i := 2) scCl.nd rfl (.inl rfl) (pe_join pe_str (pe_fld (pv 0) rfl)))
      (pss_one (ps_ret (pe_callB call_divmod (by rfl) dm (by decide +kernel) (pa_cons (pe_bm PySem.F.plainAttrs_str PySem.F.slot_str_index PySem.F.type_str_index mt_sindex (pv 2) (pa_cons (pv 1) pa_nil)) (pa_cons (pe_prop (pv 0) CT.cl PW_ GW (hr.mono (by decide)) bW .nil pass0 rfl) pa_nil)))))), ?_⟩
    rcases hx with ⟨c, kk, rfl, hc, hk, k⟩ | ⟨hn, k⟩
    · have hm : c ∈ mb g.flatten := List.mem_filter.mpr ⟨List.mem_of_getElem? hk, by simp [hc]⟩
      have hh : has g [c] = true := by
        show (true && decide (c ∈ mb g.flatten)) = true
        rw [decide_eq_true hm]
        rfl
      refine ⟨_, rfl, _, rfl, p, dx, _, rfl, hp, p, _, h, w, g, rfl, T0, hV, .inl ⟨[c], rfl, by show 1 ≤ 1000; decide, fun H1 sm => ?_⟩⟩
      rw [hh]
      refine ⟨true, rfl, _, rfl, iteF ?_⟩
      have hf64 := flat_len hV.rc
      have h64 : h * w ≤ 64 := Nat.mul_le_mul hV.n8 hV.m8
      refine ⟨⟨_, rfl⟩, _, rfl, p, D, dx, _, _, rfl, sm _ _ hp, CT.cl, CT.nR, rfl, _, a, g.map S, rfl, rfl, .inr ?_, ?_, ?_⟩
      · rw [List.map_map]
        exact sm.tup hS
      · have h1 := row_sum 8 g fun r hr => hV.row hr
        have h2 := hV.len
        rw [List.length_map]
        show _ + _ * 0 ≤ _
        omega
      rw [show Str.ofString "" = S [] from rfl, join0]
      have hcf : c ∈ g.flatten := List.mem_of_getElem? hk
      obtain ⟨i, rest, e1, e2⟩ := occ_at hcf
      have ei := mb_uniq hV.nd hc e2 hk
      subst ei
      refine ⟨_, rfl, rfl, _, rfl, _, _, i, rest, rfl, rfl, e1, ?_⟩
      refine ⟨_, rfl, p, dx, _, rfl, sm _ _ hp, p, h, w, g, rfl, T0.same sm, hV, _, _, rfl, ⟨by have := hV.m1; omega, by have := hV.m8; omega⟩, fun q hq => ?_⟩
      exact k _ q (sm.trans (same_new hq)) (sm.free hq) upd_same
    · have raised : ∀ {H1 : Hp}, Same H H1 → ∀ a, H1 a = none → spUm CU [.ref a, x] (upd H1 a (exo a CU none)) (fun v H2 => v = .non ∧ ∃ (d : Addr) (fs : List (Str × V)), H2 a = some (exo a CU (some d)) ∧ H2 d = some (exd d fs) ∧ H1 d = none ∧ E (.ref CU) (some d) (upd (del H2 a) d (.xd fs))) (fun _ _ _ => False) := by
        intro H1 sm a ha
        refine ⟨a, x, rfl, upd_same, fun d hd hne => ⟨rfl, d, _, upd_same, by rw [upd_ne hne, upd_same], ?_, ?_⟩⟩
        · rw [upd_ne hne] at hd
          exact hd
        · rw [upd_ne hne] at hd
          refine k _ _ (fun b o e => ?_) (sm.free hd) upd_same
          have e1 := sm b o e
          have nd := ne_of_none e1 hd
          have na := ne_of_none e1 ha
          rw [upd_ne nd, del_ne na, upd_ne na, upd_ne nd, upd_ne na]
          exact e1
      refine ⟨_, rfl, _, rfl, p, dx, _, rfl, hp, p, _, h, w, g, rfl, T0, hV, ?_⟩
      rcases hn with ⟨u, rfl, hu, hh⟩ | hn
      · refine .inl ⟨u, rfl, hu, fun H1 sm => ?_⟩
        rw [hh]
        exact ⟨false, rfl, _, rfl, iteT ⟨_, rfl, by show 1 ≤ 1000; decide, raised sm⟩⟩
      · exact .inr ⟨hn, fun H1 sm => ⟨false, rfl, _, rfl, iteT ⟨_, rfl, by show 1 ≤ 1000; decide, raised sm⟩⟩⟩
end
end TP
end
section
set_option Elab.async false
set_option maxRecDepth 100000
set_option linter.all false
namespace TP
open PySem L2 TM TK TH TB TX
open PySem.Spec PyProof.Rows
theorem passX {X : Cx} {E : XK} (tk : Takes X (fun cls d _ H => E cls d H)) : Passes (L2.CX X.prog X.w) X E := passes_call tk fun _ _ _ _ h => h
/-- what is_place says of a value -/
inductive Plc (K : PySem.W.Frag) (H : Hp) (h w : Nat) : V → Bool → Prop where
  | two {q : Addr} {a b : V} {ta tb : String} {xa ya xb yb : Bool} (hq : SqT K H q [a, b]) (ka : TA.Kn K H a ta xa ya) (kb : TA.Kn K H b tb xb yb) : Plc K H h w (.ref q) (TA.isN a ((h : Int) - 1) && TA.isN b ((w : Int) - 1))
  | tup {q : Addr} {xs : List V} (hq : SqT K H q xs) (hl : xs.length ≠ 2) : Plc K H h w (.ref q) false
  | other {x : V} {ty : String} (ht : TyX K H x (.type ty)) (hk : kitB ty "tuple" = some false) : Plc K H h w x false
section
variable {P : Program} {w : World} {K : PySem.W.Frag} {mg : Str → Option Value} {base : Heap} {D CP fN fL pH gH pW gW : Addr} {fdN fdL fdH fdW : FuncData}
structure TxtP (K : PySem.W.Frag) (mg : Str → Option Value) : Prop where
  isi : mg "isinstance" = none
  tup : mg "tuple" = none
  len : mg "len" = none
theorem scPl : FnScope ["value", "height", "width"] ["value", "height", "width"] (defScope sIsPlace) := ⟨rfl, rfl, rfl, by decide +kernel, rfl, by decide +kernel, by decide +kernel⟩
def spPl (K : PySem.W.Frag) : Sp := fun vs H Q _ => ∃ (x : V) (h w : Nat) (b : Bool), vs = [x, .int (h : Nat), .int (w : Nat)] ∧ Plc K H h w x b ∧ Q (.bl b) H
theorem ok_pl {f : Addr} {fd : FuncData} (F : Fun K "is_place" "is_place" sIsPlace f fd) (T : TxtP K mg) (GN : FnOk P w K mg base CX0 1 fN fdN ["value", "limit"] (TA.spNum K)) (kN : PySem.W.keepIn K (.ref fN) = true) (bN : Binds K fdN ["value", "limit"] []) (mN : mg "is_number" = some (.ref fN)) :
    FnOk P w K mg base CX0 2 f fd ["value", "height", "width"] (spPl K) := by
  refine F.ok scPl (fun vs H Q E h => ?_) (fun cdv A outer s H vs Q E hr h => ?_)
  · obtain ⟨x, h, w, b, rfl, _⟩ := h
    rfl
  · obtain ⟨x, h, w, b, rfl, hx, k⟩ := h
    refine ⟨_, pss_cons (ps_if (PW.pt (pw_or (pt_not (pt_val (pe_callB call_isi (by rfl) T.isi (by decide +kernel) (pa_cons (pv 0) (pa_cons (pe_bltn (v := .ty "tuple") (by rfl) T.tup (by decide +kernel) rfl) pa_nil)))))
        (pw_or1 (pt_cmpR op_ne (pe_callB call_len_seq (by rfl) T.len PySem.boot_len (pa_cons (pv 0) pa_nil)) pe_int (nomark _))))) (pss_one (ps_ret pe_bl)) pss_nil)
      (pss_one (ps_ret (pe_and (pe_call GN hr rfl mN kN bN .nil pass0 (pa_cons (pe_ix ix_tup (pv 0) pe_int (fun _ _ => rfl)) (pa_cons (pe_op op_sub (pv 1) pe_int) pa_nil)))
        (pe_one (pe_call GN hr rfl mN kN bN .nil pass0 (pa_cons (pe_ix ix_tup (pv 0) pe_int (fun _ _ => rfl)) (pa_cons (pe_op op_sub (pv 2) pe_int) pa_nil))))))), ?_⟩
    cases hx with
    | two hq ka kb =>
      rename_i q a b ta tb xa ya xb yb
      refine ⟨_, rfl, _, _, _, _, true, rfl, .ty _, TA.sq_ty (.tup hq), kit_ty (TA.tup_kit true), true, rfl, iteF ?_⟩
      refine ⟨_, rfl, q, _, rfl, .inr hq, rfl, _, rfl, iteF ?_⟩
      refine ⟨_, rfl, q, _, _, _, rfl, rfl, hq, rfl, _, rfl, _, _, rfl, rfl, a, _, _, _, _, rfl, ka, _, rfl, ?_⟩
      by_cases ha : TA.isN a ((h : Int) - 1) = true
      · rw [ha] at k ⊢
        refine iteT ⟨_, rfl, q, _, _, _, rfl, rfl, hq, rfl, _, rfl, _, _, rfl, rfl, b, _, _, _, _, rfl, kb, ?_⟩
        rw [Bool.true_and] at k
        exact k
      · rw [Bool.not_eq_true] at ha
        rw [ha] at k ⊢
        exact iteF k
    | tup hq hl =>
      rename_i q xs
      refine ⟨_, rfl, _, _, _, _, true, rfl, .ty _, TA.sq_ty (.tup hq), kit_ty (TA.tup_kit true), true, rfl, iteF ?_⟩
      refine ⟨_, rfl, q, _, rfl, .inr hq, rfl, _, rfl, ?_⟩
      rw [show (!decide (V.int (xs.length : Nat) = V.int 2)) = true by
        rw [decide_eq_false]
        · rfl
        · intro z
          injection z with z
          omega]
      exact iteT k
    | other ht hk =>
      refine ⟨_, rfl, _, _, _, _, false, rfl, .ty _, ht, kit_ty hk, false, rfl, iteT (iteT k)⟩
theorem scCp : FnScope ["tray", "place"] ["tray", "place"] (defScope sCheckPlace) := ⟨rfl, rfl, rfl, by decide +kernel, rfl, by decide +kernel, by decide +kernel⟩
def spCp (K : PySem.W.Frag) (D CP : Addr) : Sp := fun vs H Q E => ∃ (p : Addr) (x : V) (h w : Nat) (g : Grid), vs = [.ref p, x] ∧ TrayAt K D H p g ∧ VG h w g ∧
  ((∃ (q : Addr) (r c : Nat), x = .ref q ∧ SqT K H q [.int r, .int c] ∧ r < h ∧ c < w ∧ Q .non H) ∨ (Plc K H h w x false ∧ E (.ref CP) none H))
theorem ok_cp {f : Addr} {fd : FuncData} (F : Fun K "check_place" "check_place" sCheckPlace f fd) (CT : ClsT K mg D) (GL : FnOk P w K mg base CX0 2 fL fdL ["value", "height", "width"] (spPl K)) (kL : PySem.W.keepIn K (.ref fL) = true) (bL : Binds K fdL ["value", "height", "width"] []) (mL : mg "is_place" = some (.ref fL))
    (PH : PropOf K D "height" pH gH) (GH : FnOk P w K mg base CX0 1 gH fdH ["self"] (spHt K D)) (bH : Binds K fdH ["self"] [])
    (PW_ : PropOf K D "width" pW gW) (GW : FnOk P w K mg base CX0 1 gW fdW ["self"] (spWd K D)) (bW : Binds K fdW ["self"] []) (X : TA.ExN K mg "InvalidPlace" CP) :
    FnOk P w K mg base (L2.CX P w) 3 f fd ["tray", "place"] (spCp K D CP) := by
  refine F.okX scCp (fun vs H Q E h => ?_) (fun cdv A outer s H vs Q E hr h => ?_)
  · obtain ⟨p, x, h, w, g, rfl, _⟩ := h
    rfl
  · obtain ⟨p, x, h, w, g, rfl, T0, hV, hx⟩ := h
    obtain ⟨dx, a, hp, hS⟩ := id T0
    refine ⟨_, pss_one (ps_if (pt_not (pt_val (pe_call GL hr rfl mL kL bL .nil pass0 (pa_cons (pv 1) (pa_cons (pe_prop (pv 0) CT.cl PH GH (hr.mono (by decide)) bH .nil pass0 rfl) (pa_cons (pe_prop (pv 0) CT.cl PW_ GW (hr.mono (by decide)) bW .nil pass0 rfl) pa_nil))))))
        (pss_one (ps_raise rfl (takes_of rfl rfl rfl rfl) (pmk_own PySem.F.excBase_ValueError X.q X.g X.k (raises_own X.s X.t) rfl))) pss_nil), ?_⟩
    refine ⟨_, rfl, _, rfl, p, dx, _, rfl, hp, p, h, w, g, rfl, T0, hV, _, rfl, p, dx, _, rfl, hp, p, h, w, g, rfl, T0, hV, x, h, w, ?_⟩
    rcases hx with ⟨q, r, c, rfl, hq, hr', hc', k⟩ | ⟨hb, k⟩
    · refine ⟨_, rfl, .two hq (TA.kn_int _) (TA.kn_int _), ?_⟩
      have e1 : TA.isN (.int r) ((h : Int) - 1) = true := by
        show (decide ((0 : Int) ≤ r) && decide ((r : Int) ≤ (h : Int) - 1)) = true
        rw [decide_eq_true (by omega), decide_eq_true (by omega)]
        rfl
      have e2 : TA.isN (.int c) ((w : Int) - 1) = true := by
        show (decide ((0 : Int) ≤ c) && decide ((c : Int) ≤ (w : Int) - 1)) = true
        rw [decide_eq_true (by omega), decide_eq_true (by omega)]
        rfl
      rw [e1, e2]
      exact ⟨true, rfl, iteF k⟩
    · exact ⟨false, rfl, hb, false, rfl, iteT k⟩
abbrev NAt : List Str := ["self", "place", "row", "column", "cell"]
theorem scAt : FnScope NAt ["self", "place"] (defScope sTrayAt) := ⟨rfl, rfl, rfl, by decide +kernel, rfl, by decide +kernel, by decide +kernel⟩
def atV (g : Grid) (r c : Nat) : V := if (g.getD r []).getD c 46 = 46 then .non else sg ((g.getD r []).getD c 46)
def spAt (K : PySem.W.Frag) (D CP : Addr) : Sp := fun vs H Q E => ∃ (p : Addr) (x : V) (h w : Nat) (g : Grid), vs = [.ref p, x] ∧ TrayAt K D H p g ∧ VG h w g ∧
  ((∃ (q : Addr) (r c : Nat), x = .ref q ∧ SqT K H q [.int r, .int c] ∧ r < h ∧ c < w ∧ Q (atV g r c) H) ∨ (Plc K H h w x false ∧ E (.ref CP) none H))
theorem ok_at {fV : Addr} {fdV : FuncData} {f : Addr} {fd : FuncData} (F : Fun K "at" "Tray.at" sTrayAt f fd) (T : TxtM K mg) (CT : ClsT K mg D)
    (GV : FnOk P w K mg base (L2.CX P w) 3 fV fdV ["tray", "place"] (spCp K D CP)) (kV : PySem.W.keepIn K (.ref fV) = true) (bV : Binds K fdV ["tray", "place"] []) (mV : mg "check_place" = some (.ref fV)) :
    FnOk P w K mg base (L2.CX P w) 4 f fd ["self", "place"] (spAt K D CP) := by
  refine F.okX scAt (fun vs H Q E h => ?_) (fun cdv A outer s H vs Q E hr h => ?_)
  · obtain ⟨p, x, h, w, g, rfl, _⟩ := h
    rfl
  · obtain ⟨p, x, h, w, g, rfl, T0, hV, hx⟩ := h
    obtain ⟨dx, a, hp, hS⟩ := id T0
    have nd := scAt.nd
    refine ⟨_, pss_cons (ps_expr (pe_call GV hr rfl mV kV bV .nil (passX (takes_of rfl rfl rfl rfl)) (pa_cons (pv 0) (pa_cons (pv 1) pa_nil))))
      (pss_cons (ps_asg (pv 1) (pg_tup (by rfl) (pgs_cons (pg_name (i := 2) nd rfl (.inl rfl)) (pgs_cons (pg_name (i := 3) nd rfl (.inl rfl)) pgs_nil))))
      (pss_cons (ps_set (i := 4) nd rfl (.inl rfl) (pe_ix ix_str (pe_ix ix_tup (pe_fld (pv 0) rfl) (pv 2) (fun _ _ => rfl)) (pv 3) (fun _ _ => rfl)))
      (pss_one (ps_ret (pe_ifExp (pt_cmpR op_eq (pv 4) (C8.pe_gc rfl T.em) (nomark _)) pe_non (pv 4)))))), ?_⟩
    refine ⟨_, rfl, _, rfl, p, x, h, w, g, rfl, T0, hV, ?_⟩
    rcases hx with ⟨q, r, c, rfl, hq, hr', hc', k⟩ | ⟨hb, k⟩
    · refine .inl ⟨q, r, c, rfl, hq, hr', hc', ?_⟩
      refine ⟨_, rfl, q, _, rfl, hq, rfl, _, _, rfl, _, _, rfl, rfl, ?_⟩
      have hrg : r < g.length := by rw [hV.rc.1]; exact hr'
      have er : g[r]? = some (g.getD r []) := by
        rw [List.getD_eq_getElem?_getD, List.getElem?_eq_getElem hrg]
        rfl
      have lr : (g.getD r []).length = w := hV.rc.2 _ (List.mem_of_getElem? er)
      have h8 := hV.m8
      unfold atV at k
      generalize g.getD r [] = row at er lr k
      have ec : row[c]? = some (row.getD c 46) := by
        rw [List.getD_eq_getElem?_getD, List.getElem?_eq_getElem (by omega)]
        rfl
      refine ⟨_, rfl, p, D, dx, _, _, rfl, hp, CT.cl, CT.nR, rfl, _, rfl, a, _, _, _, rfl, rfl, hS, atI_nat (by rw [List.getElem?_map, er]; all_goals rfl), _, rfl, S row, (c : Int), row.getD c 46, rfl, rfl, by rw [S_len]; show _ ≤ 16777216; omega, by rw [S_list]; exact atI_nat ec, ?_⟩
      generalize row.getD c 46 = z at k
      refine ⟨_, rfl, rfl, _, rfl, ?_⟩
      rw [show decide (V.str (⟨#[z]⟩ : Str) = V.str (S [46])) = (z == 46) from dL z 46]
      by_cases q46 : z = 46
      · rw [beq_iff_eq.mpr q46]
        rw [if_pos q46] at k
        exact iteT k
      · rw [beq_eq_false_iff_ne.mpr q46]
        rw [if_neg q46] at k
        exact iteF ⟨_, rfl, k⟩
    · exact .inr ⟨hb, k⟩
end
end TP
end
section
set_option Elab.async false
set_option maxRecDepth 100000
set_option linter.all false
namespace TP
open PySem L2 TM TK TH TB TX
open PySem.Spec PyProof.Rows
def cellB (c : Nat) : Bool := decide (c ∈ [46] ++ letters)
/-- the first wrong column of a line behind the cells l, or all cells -/
def fwcell (l : List Nat) (j : Nat) : List Nat → Nat ⊕ List Nat
  | [] => .inr l
  | c :: t => if c ∈ mb l ∨ cellB c = false then .inl j else fwcell (l ++ [c]) (j + 1) t
def badRow (m0 i : Nat) (t : List Nat) : Bool := decide (8 ≤ i) || !(decide (1 ≤ t.length) && decide (t.length ≤ 8)) || !decide (t.length = m0)
def fwrows (m0 : Nat) (l : List Nat) (i : Nat) : List (Option (List Nat)) → Option (Nat × Nat)
  | [] => none
  | none :: _ => some (i, 0)
  | some t :: r => if badRow m0 i t = true then some (i, 0) else match fwcell l 0 t with
    | .inl j => some (i, j)
    | .inr l' => fwrows m0 l' (i + 1) r
def fwc : List (Option (List Nat)) → Option (Nat × Nat)
  | [] => some (0, 0)
  | none :: _ => some (0, 0)
  | some t :: r => fwrows t.length [] 0 (some t :: r)
/-- a row and its signs, if it is a text -/
inductive Rw (K : PySem.W.Frag) : V → Option (List Nat) → Prop where
  | txt (t : List Nat) (hl : t.length ≤ 1000) : Rw K (.str (S t)) (some t)
  | no {x : V} (h : ∀ H, NoText K H x) : Rw K x none
section
variable {P : Program} {w : World} {K : PySem.W.Frag} {mg : Str → Option Value} {base : Heap} {t0 : Tok} {fR : Addr} {fdR : FuncData}
def spIrx (K : PySem.W.Frag) : Sp := fun vs H Q _ => ∃ (x : V) (r : Option (List Nat)), vs = [x] ∧ Rw K x r ∧ Q (.bl (match r with | some t => decide (1 ≤ t.length) && decide (t.length ≤ 8) | none => false)) H
theorem ok_irx {f : Addr} {fd : FuncData} (F : Fun K "_is_row" "_is_row" sIsRow f fd) (T : TxtW K mg) (U : TxtT K mg t0) : FnOk P w K mg base CX0 1 f fd ["row"] (spIrx K) := by
  refine F.ok scIr (fun vs H Q E h => ?_) (fun cdv A outer s H vs Q E hr h => ?_)
  · obtain ⟨x, r, rfl, _⟩ := h
    rfl
  · obtain ⟨x, r, rfl, hx, k⟩ := h
    refine ⟨_, pss_one (ps_ret (pe_and (pe_callB call_isi (by rfl) T.isi (by decide +kernel) (pa_cons (pv 0) (pa_cons (pe_bltn (v := .ty "str") (by rfl) T.str (by decide +kernel) rfl) pa_nil)))
      (pe_one (pe_chain op_le op_le pe_int (pe_callB call_len_str (by rfl) T.len PySem.boot_len (pa_cons (pv 0) pa_nil)) (C8.pe_gc rfl U.MS))))), ?_⟩
    cases hx with
    | txt t hl =>
      refine ⟨_, rfl, _, _, _, _, true, rfl, .ty _, .base (.str _), kit_ty (by decide +kernel), true, rfl, iteT ?_⟩
      have hs : (S t).length ≤ sizeLine := by
        rw [S_len]
        show _ ≤ 16777216
        omega
      refine ⟨_, rfl, _, rfl, hs, _, _, rfl, rfl, _, rfl, ?_⟩
      have e1 : decide ((1 : Int) ≤ ((S t).length : Int)) = decide (1 ≤ t.length) := decide_eq_decide.mpr (by rw [S_len]; omega)
      have e2 : decide (((S t).length : Int) ≤ (8 : Int)) = decide (t.length ≤ 8) := decide_eq_decide.mpr (by rw [S_len]; omega)
      rw [e1]
      by_cases h1 : 1 ≤ t.length
      · rw [decide_eq_true h1]
        refine iteT ⟨_, _, rfl, rfl, ?_⟩
        show Q (V.bl (decide (((S t).length : Int) ≤ (8 : Int)))) H
        rw [e2]
        simp only [decide_eq_true h1, Bool.true_and] at k
        exact k
      · rw [decide_eq_false h1]
        simp only [decide_eq_false h1, Bool.false_and] at k
        exact iteF k
    | no h =>
      obtain ⟨ty, hty, hk⟩ := h H
      exact ⟨_, rfl, _, _, _, _, false, rfl, .ty _, hty, kit_ty hk, false, rfl, iteF k⟩
def spFcx (K : PySem.W.Frag) : Sp := fun vs H Q _ => ∃ (a : Addr) (xs : List V) (rs : List (Option (List Nat))), vs = [.ref a] ∧ SqT K H a xs ∧ xs.length = rs.length ∧ xs.length ≤ 1000 ∧ (∀ (i : Nat) (x : V) (r : Option (List Nat)), xs[i]? = some x → rs[i]? = some r → Rw K x r) ∧
  ∀ H', Same H H' → (fwc rs = none → Q .non H') ∧ ∀ (i j : Nat) (q : Addr), fwc rs = some (i, j) → H' q = some (.tup [.int (i : Nat), .int (j : Nat)]) → Q (.ref q) H'
theorem ok_fcx {f : Addr} {fd : FuncData} (F : Fun K "_first_wrong_cell" "_first_wrong_cell" sFirstWrongCell f fd) (T : TxtW K mg) (U : TxtT K mg t0) (FR : Fun K "_is_row" "_is_row" sIsRow fR fdR) (bR : Binds K fdR ["row"] []) (mR : mg "_is_row" = some (.ref fR)) :
    FnOk P w K mg base CX0 2 f fd ["rows"] (spFcx K) := by
  have GR : FnOk P w K mg base CX0 1 fR fdR ["row"] (spIrx K) := ok_irx FR T U
  refine F.ok scFc (fun vs H Q E h => ?_) (fun cdv A outer s H vs Q E hr h => ?_)
  · obtain ⟨a, xs, rs, rfl, _⟩ := h
    rfl
  · obtain ⟨a, xs, rs, rfl, hS, hl, h1000, hrw, k⟩ := h
    refine ⟨_, pss_cons (ps_if (pt_not (pt_truth (pv 0) (by intro _; rfl))) (pss_one (ps_ret (pe_tup (pa_cons pe_int (pa_cons pe_int pa_nil))))) pss_nil)
      (pss_cons (ps_set (i := 1) scFc.nd rfl (.inl rfl) (pe_callTy0 cr_set0K (by rfl) U.set (by decide +kernel)))
      (pss_cons (ps_for PassesOwn.never rfl (TH.pi_enumT (by rfl) T.enum (pa_cons (pv 0) pa_nil)) (pg_tup rfl (pgs_cons (pg_name (i := 2) scFc.nd rfl (.inl rfl)) (pgs_cons (pg_name (i := 3) scFc.nd rfl (.inl rfl)) pgs_nil)))
        (pss_cons (ps_if (PW.pt (pw_or (pt_cmpR op_ge (pv 2) (C8.pe_gc rfl U.MS) (nomark _)) (pw_or (pt_not (pt_val (pe_call GR hr rfl mR FR.kp bR .nil pass0 (pa_cons (pv 3) pa_nil))))
            (pw_or1 (pt_cmpR op_ne (pe_callB call_len_str (by rfl) T.len PySem.boot_len (pa_cons (pv 3) pa_nil)) (pe_callB call_len_str (by rfl) T.len PySem.boot_len (pa_cons (pe_ix ix_tup (pv 0) pe_int (fun _ _ => rfl)) pa_nil)) (nomark _)))))) (pss_one (ps_ret (pe_tup (pa_cons (pv 2) (pa_cons pe_int pa_nil))))) pss_nil)
        (pss_one (ps_for PassesOwn.never rfl (TH.pi_enumS (by rfl) T.enum (pa_cons (pv 3) pa_nil)) (pg_tup rfl (pgs_cons (pg_name (i := 4) scFc.nd rfl (.inl rfl)) (pgs_cons (pg_name (i := 5) scFc.nd rfl (.inl rfl)) pgs_nil)))
          (pss_cons (ps_if (PW.pt (pw_or (pt_cmpR or_sinK (pv 5) (pv 1) (by rfl)) (pw_or1 (pt_cmpR op_notIn_sign (pv 5) (pe_op op_add_str (C8.pe_gc rfl U.em) (C8.pe_gc rfl U.LE)) (by rfl))))) (pss_one (ps_ret (pe_tup (pa_cons (pv 2) (pa_cons (pv 4) pa_nil))))) pss_nil)
          (pss_one (ps_if (pt_cmpR op_ne (pv 5) (C8.pe_gc rfl U.em) (nomark _)) (pss_one (ps_expr (pe_saddK (pv 1) (pa_cons (pv 5) pa_nil)))) pss_nil)))))))
      (pss_one (ps_ret pe_non)))), ?_⟩
    -- rows without a first one
    cases xs with
    | nil =>
      cases rs with
      | cons _ _ => simp at hl
      | nil =>
        refine ⟨_, rfl, false, .inr (.inl ⟨_, hS, rfl⟩), iteT ⟨by show 2 ≤ sizeLine; decide, fun z hz => (k _ (same_new hz)).2 0 0 z rfl upd_same⟩⟩
    | cons x0 xs' =>
    cases rs with
    | nil => simp at hl
    | cons r0 rs' =>
    refine ⟨_, rfl, true, .inr (.inl ⟨_, hS, rfl⟩), iteF ?_⟩
    have hR0 : Rw K x0 r0 := hrw 0 x0 r0 rfl rfl
    obtain ⟨m0, hm0⟩ : ∃ m0, (match r0 with | some t => t.length | none => 0) = m0 := ⟨_, rfl⟩
    have start : fwc (r0 :: rs') = fwrows m0 [] 0 (r0 :: rs') := by
      cases r0 with
      | none => rfl
      | some t => subst hm0; rfl
    refine ⟨rfl, fun p hp => ?_⟩
    refine ⟨_, rfl, a, x0 :: xs', rfl, (same_new hp).tup hS, for_it TH.walk_enumT (fun i σ H1 => ∃ v2 v3 v4 v5 l, σ = [some (.ref a), some (.ref p), v2, v3, v4, v5] ∧ Same H H1 ∧ Seen P w H1 p l (i * 8) ∧ fwc (r0 :: rs') = fwrows m0 l i ((r0 :: rs').drop i) ∧ (1 ≤ i → r0 ≠ none) ∧ i ≤ 8)
      ⟨none, none, none, none, [], rfl, same_new hp, ⟨_, 0, upd_same, Nat.zero_le _, fun c => by simp [mb]⟩, start, fun h => by omega, by decide⟩ (fun i σ H1 _ ⟨_, _, _, _, _, _, sm, _⟩ => sm.tup hS) ?_ ?_⟩
    · rintro i x σ H1 H2 hi ⟨v2, v3, v4, v5, l, rfl, sm, se, hf, hne, hi8⟩ ⟨q, y, rfl, hq, rfl, hy⟩
      obtain ⟨r, hr'⟩ : ∃ r, (r0 :: rs')[i]? = some r := ⟨_, List.getElem?_eq_getElem (by rw [← hl]; exact hi)⟩
      have hR : Rw K y r := hrw i y r hy hr'
      have hd : (r0 :: rs').drop i = r :: (r0 :: rs').drop (i + 1) := by
        have h1 := (List.getElem?_eq_some_iff.mp hr')
        obtain ⟨h1, h2⟩ := h1
        rw [List.drop_eq_getElem_cons h1, h2]
      rw [hd] at hf
      have sm2 : Same H (upd H1 q (.tup [.int (i : Nat), y])) := sm.trans (same_new hq)
      have stop : ∀ {H' : Hp}, Same H H' → fwc (r0 :: rs') = some (i, 0) → tTup (tCons (tVar 2) (tCons (tC (V.int 0)) tNil)) [some (.ref a), some (.ref p), some (.int (i : Nat)), some y, v4, v5] H' Q := fun s e =>
        ⟨_, rfl, by show 2 ≤ sizeLine; decide, fun z hz => (k _ (s.trans (same_new hz))).2 i 0 z e upd_same⟩
      refine ⟨_, _, rfl, SqT.of upd_same, rfl, _, _, rfl, _, _, rfl, rfl, ?_⟩
      refine ⟨_, rfl, _, _, rfl, rfl, _, rfl, ?_⟩
      by_cases h8 : 8 ≤ i
      · rw [show decide ((i : Int) ≥ (8 : Int)) = true from decide_eq_true (by omega)]
        refine iteT (iteT (stop sm2 ?_))
        rw [hf]
        cases r with
        | none => rfl
        | some t =>
          show (if badRow m0 i t = true then some (i, 0) else _) = _
          rw [if_pos (by unfold badRow; rw [decide_eq_true h8]; rfl)]
      rw [show decide ((i : Int) ≥ (8 : Int)) = false from decide_eq_false (by omega)]
      refine iteF ⟨_, rfl, y, r, rfl, hR, _, rfl, ?_⟩
      cases hR with
      | no hno => exact stop sm2 (by rw [hf]; rfl)
      | txt t ht =>
      by_cases hlen : 1 ≤ t.length ∧ t.length ≤ 8
      case neg =>
        have e : (decide (1 ≤ t.length) && decide (t.length ≤ 8)) = false := by
          rw [Bool.and_eq_false_iff, decide_eq_false_iff_not, decide_eq_false_iff_not]
          omega
        simp only [e]
        refine stop sm2 ?_
        rw [hf]
        show (if badRow m0 i t = true then some (i, 0) else _) = _
        rw [if_pos (by unfold badRow; rw [e]; simp)]
      have e0 : (decide (1 ≤ t.length) && decide (t.length ≤ 8)) = true := by rw [decide_eq_true hlen.1, decide_eq_true hlen.2]; rfl
      simp only [e0]
      refine iteF ?_
      -- the first row is a text
      obtain ⟨tt, rfl, htt⟩ : ∃ tt, r0 = some tt ∧ tt.length ≤ 1000 := by
        cases i with
        | zero =>
          cases hr'
          exact ⟨t, rfl, ht⟩
        | succ i =>
          cases hR0 with
          | txt tt h => exact ⟨tt, rfl, h⟩
          | no h => exact absurd rfl (hne (by omega))
      have hx0 : x0 = .str (S tt) := by
        cases hR0
        rfl
      subst hx0
      have hm0' : tt.length = m0 := hm0
      have hs : (S t).length ≤ sizeLine := by
        rw [S_len]
        show _ ≤ 16777216
        omega
      have hs0 : (S tt).length ≤ sizeLine := by
        rw [S_len]
        show _ ≤ 16777216
        omega
      refine ⟨_, rfl, _, rfl, hs, _, rfl, a, _, _, _, rfl, rfl, sm2.tup hS, atI_nat (j := 0) (v := V.str (S tt)) rfl, _, rfl, hs0, rfl, _, rfl, ?_⟩
      rw [S_len, S_len, hm0']
      by_cases hlm : t.length = m0
      case neg =>
        rw [show (!decide (V.int (t.length : Nat) = V.int (m0 : Nat))) = true from by
          rw [decide_eq_false]
          · rfl
          · intro z
            injection z with z
            omega]
        refine iteT (stop sm2 ?_)
        rw [hf]
        show (if badRow m0 i t = true then some (i, 0) else _) = _
        rw [if_pos (by unfold badRow; rw [decide_eq_false hlm]; simp)]
      rw [show (!decide (V.int (t.length : Nat) = V.int (m0 : Nat))) = false from by rw [hlm]; simp]
      refine iteF ?_
      have hf2 : fwc (some tt :: rs') = match fwcell l 0 t with
          | .inl j => some (i, j)
          | .inr l' => fwrows m0 l' (i + 1) ((some tt :: rs').drop (i + 1)) := by
        rw [hf]
        show (if badRow m0 i t = true then some (i, 0) else _) = _
        rw [if_neg]
        unfold badRow
        rw [decide_eq_false h8, e0, decide_eq_true hlm]
        simp
      have se2 : Seen P w (upd H1 q (.tup [.int (i : Nat), .str (S t)])) p l (i * 8) := by
        obtain ⟨Z, n', h1, h2, h3⟩ := se
        exact ⟨Z, n', by rw [upd_ne (ne_of_none h1 hq)]; exact h1, h2, h3⟩
      refine ⟨_, rfl, S t, rfl, for_it TH.walk_enumS (fun j σ H2 => ∃ v4 v5 l2, σ = [some (.ref a), some (.ref p), some (.int (i : Nat)), some (.str (S t)), v4, v5] ∧ Same H H2 ∧ Seen P w H2 p l2 (i * 8 + j) ∧ fwcell l 0 t = fwcell l2 j (t.drop j))
        ⟨v4, v5, l, rfl, sm2, se2, rfl⟩ (fun _ _ _ _ _ => True.intro) ?_ ?_⟩
      · rintro j x σ H2 H3 hj ⟨v4, v5, l2, rfl, sm, ⟨Z, k', hZ, hk', hz⟩, hfc⟩ ⟨q', c, rfl, hq', rfl, hc⟩
        rw [S_at] at hc
        have hjt : j < t.length := (List.getElem?_eq_some_iff.mp hc).1
        have hdt : t.drop j = c :: t.drop (j + 1) := by
          obtain ⟨h1, h2⟩ := (List.getElem?_eq_some_iff.mp hc)
          rw [List.drop_eq_getElem_cons h1, h2]
        rw [hdt] at hfc
        have hZ2 : upd H2 q' (.tup [.int (j : Nat), .str ⟨#[c]⟩]) p = some (SetK P w p Z k') := by rw [upd_ne (ne_of_none hZ hq')]; exact hZ
        have smq := sm.trans (same_new (o := .tup [.int (j : Nat), .str ⟨#[c]⟩]) hq')
        have stop2 : (c ∈ mb l2 ∨ cellB c = false) → tTup (tCons (tVar 2) (tCons (tVar 4) tNil)) [some (.ref a), some (.ref p), some (.int (i : Nat)), some (.str (S t)), some (.int (j : Nat)), some (.str ⟨#[c]⟩)] (upd H2 q' (.tup [.int (j : Nat), .str ⟨#[c]⟩])) Q := fun hb => by
          refine ⟨_, rfl, _, rfl, by show 2 ≤ sizeLine; decide, fun z hz => (k _ (smq.trans (same_new hz))).2 i j z ?_ upd_same⟩
          rw [hf2, hfc]
          show (match (if c ∈ mb l2 ∨ cellB c = false then Sum.inl j else fwcell (l2 ++ [c]) (j + 1) (t.drop (j + 1))) with | .inl j => some (i, j) | .inr l' => fwrows m0 l' (i + 1) _) = _
          rw [if_pos hb]
        refine ⟨_, _, rfl, SqT.of upd_same, rfl, _, _, rfl, _, _, rfl, rfl, ?_⟩
        refine ⟨_, rfl, _, rfl, .inr (S [c]), p, Z, k', rfl, rfl, hZ2, _, rfl, ?_⟩
        by_cases hin : c ∈ mb l2
        · have e3 : Z (.inr (S [c])) = true := by rw [hz c]; exact decide_eq_true hin
          rw [show (if false = true then !Z (.inr (S [c])) else Z (.inr (S [c]))) = true from e3]
          exact iteT (iteT (stop2 (.inl hin)))
        have e3 : Z (.inr (S [c])) = false := by rw [hz c]; exact decide_eq_false hin
        rw [show (if false = true then !Z (.inr (S [c])) else Z (.inr (S [c]))) = false from e3]
        refine iteF ⟨_, rfl, _, _, rfl, rfl, by show 27 ≤ sizeLine; decide, c, _, rfl, rfl, _, rfl, ?_⟩
        have e4 : decide (c ∈ ((S [46] ++ S letters) : Str).cps.toList) = cellB c := by
          rw [SX.S_cat, S_list]
          rfl
        rw [e4]
        by_cases hcb : cellB c = true
        case neg =>
          rw [Bool.not_eq_true] at hcb
          rw [hcb]
          exact iteT (stop2 (.inr hcb))
        rw [hcb]
        have hfc' : fwcell l 0 t = fwcell (l2 ++ [c]) (j + 1) (t.drop (j + 1)) := by
          rw [hfc]
          show (if c ∈ mb l2 ∨ cellB c = false then Sum.inl j else fwcell (l2 ++ [c]) (j + 1) (t.drop (j + 1))) = _
          rw [if_neg]
          rintro (z | z)
          · exact hin z
          · rw [hcb] at z; cases z
        refine iteF ⟨_, rfl, rfl, _, rfl, ?_⟩
        by_cases h46 : c = 46
        · subst h46
          refine iteF ⟨_, _, l2 ++ [46], rfl, smq, ⟨Z, k', hZ2, by omega, fun d => ?_⟩, hfc'⟩
          rw [mb_dot]
          exact hz d
        · rw [show (!decide (sg c = V.str (S [46]))) = true by simp [h46]]
          refine iteT ⟨_, rfl, ⟨p, Z, k', rfl, hZ2⟩, _, rfl, p, .inr (S [c]), Z, k', rfl, rfl, hZ2, ?_, ?_⟩
          · show _ < 4096
            omega
          · refine ⟨_, _, l2 ++ [c], rfl, same_put smq hp, ⟨_, _, upd_same, ?_, fun d => ?_⟩, hfc'⟩
            · rw [if_neg (by rw [e3]; exact Bool.false_ne_true)]
              omega
            · rw [mb_step h46, hz d]
              by_cases hd : d = c
              · subst hd; simp
              · rw [show decide ((Sum.inr (S [d]) : Key) = .inr (S [c])) = false from decide_eq_false fun z => hd (one_inj.mp z), Bool.or_false]
                simp [hd]
      · rintro σ H2 ⟨v4, v5, l2, rfl, sm, se, hfc⟩
        rw [S_size] at se hfc
        rw [List.drop_length] at hfc
        obtain ⟨Z, k', h1, h2, h3⟩ := se
        refine ⟨_, _, _, _, l2, rfl, sm, ⟨Z, k', h1, by omega, h3⟩, ?_, fun _ => by simp, by omega⟩
        rw [hf2, hfc]
        rfl
    · rintro σ H1 ⟨v2, v3, v4, v5, l, rfl, sm, se, hf, _⟩
      refine (k _ sm).1 ?_
      rw [hf, hl, List.drop_length]
      rfl
end
end TP
end
section
set_option Elab.async false
set_option maxRecDepth 100000
set_option linter.all false
namespace TP
open PySem L2 TM TK TH TB TX
open PySem.Spec PyProof.Rows
theorem fwcell_le : ∀ (t l : List Nat) (j a : Nat), fwcell l j t = .inl a → a < j + t.length
  | [], _, _, _, h => by cases h
  | c :: t, l, j, a, h => by
    unfold fwcell at h
    split at h
    · cases h
      simp
    · have := fwcell_le t _ _ a h
      simp only [List.length_cons]
      omega
theorem fwrows_le (m0 : Nat) : ∀ (rs : List (Option (List Nat))) (l : List Nat) (i a b : Nat), i ≤ 8 → fwrows m0 l i rs = some (a, b) → a ≤ 8 ∧ b ≤ 8
  | [], _, _, _, _, _, h => by cases h
  | none :: _, _, _, _, _, hi, h => by
    cases h
    exact ⟨hi, by decide⟩
  | some t :: r, l, i, a, b, hi, h => by
    unfold fwrows at h
    split at h
    · cases h
      exact ⟨hi, by decide⟩
    · rename_i hb
      have hb' : badRow m0 i t = false := by simpa using hb
      unfold badRow at hb'
      simp at hb'
      cases e : fwcell l 0 t with
      | inl j =>
        rw [e] at h
        cases h
        have := fwcell_le t l 0 _ e
        omega
      | inr l' =>
        rw [e] at h
        exact fwrows_le m0 r l' (i + 1) a b (by omega) h
theorem fwc_le {rs : List (Option (List Nat))} {a b : Nat} (h : fwc rs = some (a, b)) : a ≤ 8 ∧ b ≤ 8 := by
  unfold fwc at h
  split at h
  · cases h; decide
  · cases h; decide
  · exact fwrows_le _ _ _ 0 a b (by decide) h
section
variable {P : Program} {w : World} {K : PySem.W.Frag} {mg : Str → Option Value} {base : Heap} {D CT_ fF fE : Addr} {fdF fdE : FuncData}
def spTix (K : PySem.W.Frag) (D CE : Addr) : Sp := fun vs H Q E => ∃ (p dx a : Addr) (xs : List V) (rs : List (Option (List Nat))), vs = [.ref p, .ref a] ∧ H p = some (.ins D dx []) ∧ SqT K H a xs ∧ xs.length = rs.length ∧ xs.length ≤ 1000 ∧ (∀ (i : Nat) (x : V) (r : Option (List Nat)), xs[i]? = some x → rs[i]? = some r → Rw K x r) ∧
  (fwc rs = none → ∀ H', (∃ dx' a', H' p = some (.ins D dx' [("_rows", .ref a')]) ∧ SqT K H' a' xs) → (∀ b o, H b = some o → b ≠ p → H' b = some o) → Q .non H') ∧
  ∀ i j : Nat, fwc rs = some (i, j) → ∀ H' d, (∀ b o, H b = some o → H' b = some o) → H d = none → H' d = some (.xd [("column", .int (j : Nat)), ("row", .int (i : Nat))]) → E (.ref CE) (some d) H'
theorem ok_tix {f : Addr} {fd : FuncData} (F : Fun K "__init__" "Tray.__init__" sTrayInit f fd) (CT : ClsT K mg D) (GF : FnOk P w K mg base CX0 2 fF fdF ["rows"] (spFcx K)) (kF : PySem.W.keepIn K (.ref fF) = true) (bF : Binds K fdF ["rows"] []) (mF : mg "_first_wrong_cell" = some (.ref fF))
    (X : ExcT K mg "InvalidTray" CT_ fE) (GE : FnOk P w K mg base CX0 1 fE fdE ["self", "row", "column"] (spItr CT_)) (bE : Binds K fdE ["self", "row", "column"] []) :
    FnR P w K mg base (L2.CX P w) 3 f (fun vs H Q E => ∃ ws rest, vs = ws ++ rest ∧ ws.length = 1 ∧ rest.length ≤ sizeLine ∧ ∀ p, H p = Option.none → spTix K D CT_ (ws ++ [V.ref p]) (upd H p (.tup rest)) Q E) := by
  obtain ⟨oc, od, kV, doc, pm, an, cdv, ct, osl, rfl, lk, hcd⟩ := F.ex
  refine StX.fn_star (ps := ["self"]) (pv := "rows") lk hcd scTi StX.cxUp (StX.bind_star1 (B := fun us => bindArgs (PySem.W.fnOf "__init__" "Tray.__init__" (defArgs sTrayInit) (defBody sTrayInit) (defScope sTrayInit) .none kV doc pm an cdv ct) ⟨us, []⟩) (p1 := "self") (pv := "rows") (fun _ => rfl) fun _ _ _ => rfl) fun A outer s H vs Q E hr h => ?_
  obtain ⟨p, dx, a, xs, rs, rfl, hp, hS, hl, h1000, hrw, k1, k2⟩ := h
  have nd := scTi.nd
  refine ⟨_, pss_cons (ps_set (i := 2) nd rfl (.inl rfl) (pe_call GF hr rfl mF kF bF .nil pass0 (pa_cons (pv 1) pa_nil)))
    (pss_cons (ps_if (pt_cmpR op_notN (pv 2) pe_non (nomark _)) (pss_cons (ps_asg (pv 2) (pg_tup (by rfl) (pgs_cons (pg_name (i := 3) nd rfl (.inl rfl)) (pgs_cons (pg_name (i := 4) nd rfl (.inl rfl)) pgs_nil))))
      (pss_one (ps_raise rfl (takes_of rfl rfl rfl rfl) (pmk_oex X.ox X.iE X.tE GE (hr.mono (by decide)) bE .nil pass0 rfl X.mgE (pa_cons (pv 3) (pa_cons (pv 4) pa_nil)))))) pss_nil)
    (pss_one (ps_fld (pv 0) (pv 1) rfl))), ?_⟩
  refine ⟨_, rfl, a, xs, rs, rfl, hS, hl, h1000, hrw, fun H1 sm => ⟨fun hf => ?_, fun i j q hf hq => ?_⟩⟩
  · refine ⟨_, rfl, rfl, _, rfl, iteF ?_⟩
    refine ⟨_, rfl, _, rfl, p, D, dx, [], rfl, sm _ _ hp, CT.cl, CT.nR, (by show 0 < 1000; decide), ?_⟩
    refine k1 hf _ ⟨dx, a, upd_same, ?_⟩ fun b o e hb => by rw [upd_ne hb]; exact sm _ _ e
    exact seq_but (sm.tup hS) (sm _ _ hp) (fun _ _ => ⟨by simp, by simp⟩) fun b o e hb => by rw [upd_ne hb]; exact e
  · refine ⟨_, rfl, rfl, _, rfl, iteT ?_⟩
    have hle := fwc_le hf
    refine ⟨_, rfl, q, _, rfl, SqT.of hq, rfl, _, _, rfl, _, _, rfl, rfl, ?_⟩
    refine ⟨_, rfl, _, rfl, by show 2 ≤ 1000; decide, fun z hz => ?_⟩
    refine ⟨z, i, j, rfl, upd_same, by omega, by omega, fun d hd hne => ⟨rfl, d, _, ?_, upd_same, ?_, ?_⟩⟩
    · rw [upd_ne hne.symm, upd_same]
    · rw [upd_ne hne] at hd
      exact hd
    · rw [upd_ne hne] at hd
      refine k2 i j hf _ _ (fun b o e => ?_) (sm.free hd) upd_same
      have e1 := sm b o e
      have nd := ne_of_none e1 hd
      have na := ne_of_none e1 hz
      rw [upd_ne nd, del_ne na, upd_ne nd, upd_ne na, upd_ne nd, upd_ne na]
      exact e1
def spOtx (K : PySem.W.Frag) (D CE : Addr) : Sp := fun vs H Q E => ∃ g : Grid, vs = [.ref D, .str (S (TL.joinL [10] g))] ∧ g ≠ [] ∧ g.length ≤ 1000 ∧ (∀ r ∈ g, r.length ≤ 1000 ∧ 10 ∉ r) ∧
  (fwc (g.map some) = none → ∀ H' p, Same H H' → TrayAt K D H' p g → Q (.ref p) H') ∧
  ∀ i j : Nat, fwc (g.map some) = some (i, j) → ∀ H' d, Same H H' → H' d = some (.xd [("column", .int (j : Nat)), ("row", .int (i : Nat))]) → E (.ref CE) (some d) H'
theorem ok_otx {f fI CE : Addr} {fd : FuncData} (F : Fun K "of_text" "Tray.of_text" sTrayOfText f fd) (T : TxtW K mg) (M : Mk K D fI)
    (GI : FnR P w K mg base (L2.CX P w) 3 fI (fun vs H Q E => ∃ ws rest, vs = ws ++ rest ∧ ws.length = 1 ∧ rest.length ≤ sizeLine ∧ ∀ p, H p = Option.none → spTix K D CE (ws ++ [V.ref p]) (upd H p (.tup rest)) Q E)) :
    FnOk P w K mg base (L2.CX P w) 5 f fd ["cls", "text"] (spOtx K D CE) := by
  refine F.okX scOt (fun vs H Q E h => ?_) (fun cdv A outer s H vs Q E hr h => ?_)
  · obtain ⟨g, rfl, _⟩ := h
    rfl
  · obtain ⟨g, rfl, hne, hgl, hg, k1, k2⟩ := h
    refine ⟨_, pss_cons (ps_if (pt_not (pt_val (pe_callB call_isi (by rfl) T.isi (by decide +kernel) (pa_cons (pv 1) (pa_cons (pe_bltn (v := .ty "str") (by rfl) T.str (by decide +kernel) rfl) pa_nil))))) pss_never pss_nil)
      (pss_cons (ps_set (i := 2) scOt.nd rfl (.inl rfl) (pe_split (pv 1) pe_str))
      (pss_one (ps_ret (TH.pe_makeSv M GI hr (pv 0) (passX (takes_of rfl rfl rfl rfl)) (pv 2))))), ?_⟩
    refine ⟨_, rfl, _, _, _, _, true, rfl, .ty _, .base (.str _), kit_ty (by decide +kernel), true, rfl, iteF ?_⟩
    have hlen : (S (TL.joinL [10] g)).length + 2 ≤ sizeLine := by
      have h1 := joinL_len [10] 1000 g fun r hr => (hg r hr).1
      rw [S_len]
      show _ ≤ 16777216
      have h2 : g.length * (1000 + [10].length) = g.length * 1001 := rfl
      omega
    refine ⟨_, rfl, ⟨_, rfl⟩, _, _, rfl, rfl, rfl, hlen, fun l hl => ?_⟩
    have e : (Txt.split (S (TL.joinL [10] g)) (Str.ofString "\n")).map V.str = rowV g := by
      have e2 : Txt.split (S (TL.joinL [10] g)) (S [10]) = g.map S := by rw [SX.split_S (by simp) (by rfl), SX.spl_join hne fun r hr => (hg r hr).2]
      rw [show Str.ofString "\n" = S [10] from rfl, e2, List.map_map]
      rfl
    rw [e]
    refine ⟨_, rfl, rfl, _, rfl, l, rowV g, rfl, .inr (SqL.of upd_same), fun x dx nx ndx nex => ?_⟩
    refine ⟨[.ref x], rowV g, rfl, rfl, ?_, fun p hp => ?_⟩
    · rw [List.length_map]
      show _ ≤ 16777216
      omega
    have hpx : x ≠ p := fun z => by rw [← z, upd_same] at hp; cases hp
    have keep : ∀ b o, H b = some o → (upd (upd (upd (upd H l (.lst (rowV g))) dx (.own x)) x (.ins D dx [])) p (.tup (rowV g))) b = some o ∧ b ≠ x := fun b o e => by
      have hbl : b ≠ l := ne_of_none e hl
      have e1 : upd H l (.lst (rowV g)) b = some o := by rw [upd_ne hbl]; exact e
      have hbx : b ≠ x := ne_of_none e1 nx
      have hbd : b ≠ dx := ne_of_none e1 ndx
      have e2 : (upd (upd (upd H l (.lst (rowV g))) dx (.own x)) x (.ins D dx [])) b = some o := by rw [upd_ne hbx, upd_ne hbd]; exact e1
      exact ⟨by rw [upd_ne (ne_of_none e2 hp)]; exact e2, hbx⟩
    refine ⟨x, dx, p, rowV g, g.map some, rfl, by rw [upd_ne hpx, upd_same], SqT.of upd_same, by rw [List.length_map, List.length_map], by rw [List.length_map]; exact hgl, fun i v r hv hr => ?_, fun hf H' ⟨dx', a', h1, h2⟩ kp => ⟨rfl, ?_⟩, fun i j hf H' d kp hd h1 => ?_⟩
    · obtain ⟨t, ht, rfl⟩ := at_map hv
      rw [List.getElem?_map, ht] at hr
      cases hr
      exact .txt t (hg t (List.mem_of_getElem? ht)).1
    · exact k1 hf _ _ (fun b o e => kp b o (keep b o e).1 (keep b o e).2) ⟨dx', a', h1, h2⟩
    · exact k2 i j hf _ _ (fun b o e => kp b o (keep b o e).1) h1
end
end TP
end
section
set_option Elab.async false
set_option maxRecDepth 100000
set_option linter.all false
namespace TP
open PySem PySem.Spec PyProof.Rows L2 LamX TX TK TA
/-- the lambda's object at f, its code object at c' -/
def LamO (f c' : Addr) (q : Str) (params : Arguments) (body : Expr) (scope : Scope) : HO := .ext fun h => ∃ pm ctv : Value, h.get? f = some (PySem.W.kla_obj "<lambda>" q params body scope [] pm c' ctv)
theorem lamO_ne {f c' : Addr} {q : Str} {params : Arguments} {body : Expr} {scope : Scope} (ps : Array Value) : LamO f c' q params body scope ≠ .tbl ps := fun z => by
  unfold LamO at z
  cases z
theorem lamO_ok {P : Program} {w : World} {H : Hp} {h : Heap} {f c' : Addr} {q : Str} {params : Arguments} {body : Expr} {scope : Scope} {pm ctv : Value} (e : h.get? f = some (PySem.W.kla_obj "<lambda>" q params body scope [] pm c' ctv)) :
    ObjOk P w H h f (LamO f c' q params body scope) := ⟨⟨pm, ctv, e⟩, ⟨_, e⟩, fun _ _ ⟨pm, ctv, e⟩ st => ⟨pm, ctv, st _ e⟩⟩
def tLam0 (T : List (Addr × Str)) (q : Str) (params : Arguments) (body : Expr) (scope : Scope) : TE := fun σ H Q => Tabs T H ∧ ∀ (H1 : Hp) (f c' : Addr), ExtN H H1 → Tabs T H1 → H1 f = some (LamO f c' q params body scope) → H1 c' = some (CodeO c' q) → Q (.ref f) H1
section
variable {X : Cx}
theorem pe_lam0 {T : List (Addr × Str)} {c P : Addr} {params : Arguments} {body : Expr} {scope : Scope} {pos : Pos} (TB : TabB X.base X.mg c P) (hcode : X.env.code = .ref c) (hm : (P, X.env.qual ++ "<lambda>") ∈ T) (hu : ∀ p ∈ T, p.1 = P → p.2 = X.env.qual ++ "<lambda>")
    (hdef : defaultsOf params X.env = ([], [])) (hfree : ∀ y ∈ scope.names, y.2 ≠ .free) (hcl : cloFrom X.env.cells scope.names [] = []) : PE X (.Lambda params body scope pos) (tLam0 T (X.env.qual ++ "<lambda>") params body scope) := by
  refine ⟨fun pins s σ H Q I h => ?_⟩
  obtain ⟨hT, h⟩ := h
  obtain ⟨ps, hP, ht, ha⟩ := hT _ hm
  refine PySem.W.kla_eval hdef ?_
  have bP : s.heap.BuiltinsAt X.mg P := TB.bm.keeps I.bk
  have hP' : s.heap.get? P = some { cls := .none, data := .fields ps } := I.hok P _ hP
  have hfree' : ∀ y ∈ scope.names, y.2 = .free → ∃ c, X.env.cells.lookup y.1 = some c := fun y hy e => absurd e (hfree y hy)
  have fin : ∀ {h' : Heap} {tk : Nat} {H1 : Hp} {c' : Addr} {pm ctv : Value}, Inv X pins σ H1 { s with heap := h', toks := tk } → ExtN H H1 → Tabs T H1 → H1 c' = some (CodeO c' (X.env.qual ++ "<lambda>")) →
      EP X pins σ Q (.ref h'.objs.size) { s with heap := h'.push (PySem.W.kla_obj "<lambda>" (X.env.qual ++ "<lambda>") params body scope (cloFrom X.env.cells scope.names []) pm c' ctv), toks := tk } := by
    intro h' tk H1 c' pm ctv I1 eN T1 hco
    have hn : H1 h'.objs.size = none := I1.hok.fresh (Nat.le_refl _)
    have hg : h'.get? h'.objs.size = none := by
      cases e : h'.get? h'.objs.size with
      | none => rfl
      | some o => exact absurd (Heap.lt_size e) (Nat.lt_irrefl _)
    have ho : (h'.push (PySem.W.kla_obj "<lambda>" (X.env.qual ++ "<lambda>") params body scope (cloFrom X.env.cells scope.names []) pm c' ctv)).get? h'.objs.size = some (PySem.W.kla_obj "<lambda>" (X.env.qual ++ "<lambda>") params body scope [] pm c' ctv) := by
      rw [hcl]
      exact Heap.get?_push_size _ rfl
    have J := Inv.laidN (t' := tk) (o := LamO h'.objs.size c' (X.env.qual ++ "<lambda>") params body scope) I1 (fun b o e => Heap.get?_push_of_some _ e) hg hn (lamO_ok ho)
    have ex : ∀ b o, H1 b = some o → upd H1 h'.objs.size (LamO h'.objs.size c' (X.env.qual ++ "<lambda>") params body scope) b = some o := fun b o e => by rw [upd_ne (ne_of_none e hn)]; exact e
    exact ⟨.ref h'.objs.size, _, J, rfl, h _ _ c' (eN.trans (ExtN.of ex)) (T1.ext ex) upd_same (ex _ _ hco)⟩
  cases hc : codeAmong pos ps.toList with
  | none =>
    refine PySem.W.kla_makeFunction (mg := X.mg) (c := c) (P := P) (ps := ps) (closure_ok hfree') I.ok.glob (I.mod.glob.keeps I.bk) hcode (TB.code.keeps I.bk) hP' ht hc TB.gP bP fun c' ctv h' tk hx hge hlt hrec htb => ?_
    obtain ⟨c2, oc, vs, t, e2, hoc, hd, hv⟩ := hrec
    cases e2
    have nC : H c' = none := I.hok.fresh hge
    have I1 := inv_table (t' := tk) (more := #[rawInt pos.line, rawInt pos.col, .ref c']) (h' := h') I hP (fun b o hb e => hx b o hb e) htb hge ⟨oc, vs, t, hoc, hd, hv⟩
    have hE : ExtN H (upd (upd H P (.tbl (ps ++ #[rawInt pos.line, rawInt pos.col, .ref c']))) c' (CodeO c' (X.env.qual ++ "<lambda>"))) := fun b o e n => by
      rw [upd_ne (ne_of_none e nC), upd_ne (fun z => n ps (Option.some.inj (e.symm.trans (by rw [z]; exact hP))))]
      exact e
    have eL : (ps ++ #[rawInt pos.line, rawInt pos.col, .ref c']).toList = ps.toList ++ [rawInt pos.line, rawInt pos.col, .ref c'] := by simp
    refine fin I1 hE (fun p hp => ?_) upd_same
    by_cases hb : p.1 = P
    · rw [hu p hp hb, hb]
      refine ⟨_, by rw [upd_ne (ne_of_none hP nC), upd_same], by rw [eL]; exact PySem.TriplesOk_snoc _ _ _ _ ht, fun p' cv hcv => ?_⟩
      rw [eL] at hcv
      rcases among_app _ ht hcv with z | z
      · obtain ⟨c0, e1, e2⟩ := ha p' cv z
        exact ⟨c0, e1, hE _ _ e2 codeO_ne⟩
      · exact ⟨c', z, upd_same⟩
    · obtain ⟨ps', a1, a2, a3⟩ := hT p hp
      refine ⟨ps', by rw [upd_ne (ne_of_none a1 nC), upd_ne hb]; exact a1, a2, fun p' cv hcv => ?_⟩
      obtain ⟨c0, e1, e2⟩ := a3 p' cv hcv
      exact ⟨c0, e1, hE _ _ e2 codeO_ne⟩
  | some cv =>
    obtain ⟨c', e, hco⟩ := ha pos cv hc
    subst e
    refine PySem.W.kla_makeFunctionHit (mg := X.mg) (c := c) (P := P) (ps := ps) (closure_ok hfree') I.ok.glob (I.mod.glob.keeps I.bk) hcode (TB.code.keeps I.bk) hP' ht hc bP fun ctv h' tk hx hsz => ?_
    have I1 : Inv X pins σ H { s with heap := h', toks := tk } := I.kept fun b o e => hx b o e
    exact fin I1 (ExtN.refl H) hT hco
end
end TP
end
section
set_option Elab.async false
set_option maxRecDepth 100000
set_option linter.all false
namespace TP
open PySem PySem.Spec PyProof.Rows L2 LamX TX TK TA
abbrev lam0Env (q : Str) (scope : Scope) (L f c' : Addr) : Env := PySem.W.envX q scope L f (.ref c') []
/-- the context of the body of a lambda without free names -/
def lamC0 (P : Program) (w : World) (K : PySem.W.Frag) (mg : Str → Option Value) (base : Heap) (A : Around) (outer : List Env) (s : Shared) (H : Hp) (E : XK) (q : Str) (scope : Scope) (f c' : Addr) : Cx where
  prog := P
  w := w
  K := K
  mg := mg
  base := base
  A := A.deeper (lam0Env q scope s.heap.objs.size f c')
  N := []
  s_0 := s
  H_0 := H
  env := lam0Env q scope s.heap.objs.size f c'
  outer := outer
  stack := lam0Env q scope s.heap.objs.size f c' :: outer
  ex := []
  fn := fun _ => false
  calm := true
  pn := []
  xe := fun e s' => wpAny (model P w) (A.deeper (lam0Env q scope s.heap.objs.size f c')) (leaving (lam0Env q scope s.heap.objs.size f c') e) (fun _ s'' => L2.CX P w outer H s E e s'') (fun e' s'' => L2.CX P w outer H s E e' s'') s'
/-- globals alone -/
structure Lam0S (scope : Scope) : Prop where
  kind : scope.kind = .function
  co : scope.isCoroutine = false
  gen : scope.isGenerator = false
  own : ∀ y ∈ scope.names, y.2 ≠ .local ∧ y.2 ≠ .cell ∧ y.2 ≠ .free
def lam0SB (scope : Scope) : Bool := decide (scope.kind = .function) && !scope.isCoroutine && !scope.isGenerator && scope.names.all fun y => !decide (y.2 = .local) && !decide (y.2 = .cell) && !decide (y.2 = .free)
theorem lam0S_by {scope : Scope} (h : lam0SB scope = true) : Lam0S scope := by
  unfold lam0SB at h
  simp only [Bool.and_eq_true, Bool.not_eq_true', decide_eq_true_eq, decide_eq_false_iff_not, List.all_eq_true] at h
  obtain ⟨⟨⟨h1, h2⟩, h3⟩, h4⟩ := h
  exact ⟨h1, h2, h3, fun y hy => ⟨(h4 y hy).1.1, (h4 y hy).1.2, (h4 y hy).2⟩⟩
section
variable {P : Program} {w : World} {K : PySem.W.Frag} {mg : Str → Option Value} {base : Heap}
theorem lam0_start {A : Around} {outer : List Env} {E : XK} {q : Str} {scope : Scope} {f c' : Addr} {h₁ : Heap} {tk : Nat} {HZ : Hp} {s1 : Shared} (L : Lam0S scope) (e0 : Env0 P w K mg base A outer s1 HZ) (hd : A.handled = none)
    (hns : h₁.Ns s1.heap.objs.size fun y => ([] : List (Str × Value)).reverse.lookup y) (kp : ∀ b o, s1.heap.get? b = some o → h₁.get? b = some o) :
    Inv (lamC0 P w K mg base A outer s1 HZ E q scope f c') [] [] HZ { s1 with heap := h₁, toks := tk } := by
  have noA : ∀ b : Addr, b ∉ (lamC0 P w K mg base A outer s1 HZ E q scope f c').ex := fun b z => absurd (show b ∈ ([] : List Addr) from z) (by simp)
  have noC : ∀ {y : Str} {c : Addr}, (lamC0 P w K mg base A outer s1 HZ E q scope f c').env.cells.lookup y = some c → False := fun {y c} e => nomatch (show ([] : List (Str × Addr)).lookup y = some c from e)
  refine ⟨⟨e0.mod, L.kind, rfl, rfl, Nat.le_refl _, fun y z c e1 e2 => (noC e1).elim, fun y hy => ?_, fun y c z _ => ?_, fun _ => hd, Around.frames_deeper e0.frames, .inr ⟨rfl, rfl⟩, fun b z => absurd z (noA b), e0.bs, e0.bsz, fun b _ _ => noA b,
      fun b z => absurd z (noA b), e0.funs, e0.frf⟩,
    rfl, e0.bare, Un.kept kp, ⟨_, hns, fun i y v e1 e2 e3 => ?_⟩, fun y c e => (noC e).elim, e0.hok.fresh (Nat.le_refl _), fun y c e => (noC e).elim, fun q hq => absurd (show q ∈ ([] : List (Addr × Obj)) ++ [] from hq) (by simp), e0.hok.kept kp, rfl⟩
  · have hy : scope.names.lookup y = some .cell ∨ scope.names.lookup y = some .free := hy
    rcases hy with hy | hy
    · exact absurd rfl (L.own _ (PySem.mem_of_lookup hy)).2.1
    · exact absurd rfl (L.own _ (PySem.mem_of_lookup hy)).2.2
  · have z : false = true := z
    cases z
  · have e1 : ([] : List Str)[i]? = some y := e1
    simp at e1
variable {X : Cx} {pins : List (Addr × Obj)} {σ : L2.St} {H HZ : Hp} {s s1 : Shared}
theorem pe_act0 {CXg : CXT} {Eg : XK} {Ng : List Str} {qg q : Str} {sg : Scope} {g f c' : Addr} {cdg : Value} {params : Arguments} {body : Expr} {scope : Scope} {k i : Nat} {a : Str} {pn : List (Addr × Obj)} {xe : Value → Shared → Prop} {W : WX} {E : XK} {tb : TE} {p1 p2 : Pos}
    {A : Around} {outer : List Env} (L : Lam0S scope)
    (hbind : ∀ pm ctv : Value, bindArgs (PySem.W.kla_fn "<lambda>" q params body scope [] pm (.ref c') ctv) ⟨[], []⟩ = pure [])
    (tk : Takes ((cxOf CXg P w K mg base Ng qg sg g cdg A outer s H Eg).tr pn xe) W) (hW : ∀ cls d σ' H', E cls d H' → W cls d σ' H') (hr : Room (k + 1) (A.deeper (envOfC qg sg s.heap.objs.size g cdg)))
    (hbody : ∀ (A : Around) (outer : List Env) (s : Shared) (H : Hp), Room k (A.deeper (lam0Env q scope s.heap.objs.size f c')) → PE (lamC0 P w K mg base A outer s H E q scope f c') body tb)
    (hN : Ng[i]? = some a) (hv : Vis sg a) (hd : (a == ("__debug__" : Str)) = false := by decide) (hcd : (a == ("__classdict__" : Str)) = false := by decide) :
    PE ((cxOf CXg P w K mg base Ng qg sg g cdg A outer s H Eg).tr pn xe) (.Call (.Name a p1) [] [] p2)
      (fun σZ HZ Q => σZ[i]? = some (some (.ref f)) ∧ HZ c' = some (CodeO c' q) ∧ HZ f = some (LamO f c' q params body scope) ∧ tb [] HZ Q) := by
  refine ⟨fun pinsZ sZ σZ HZ Q IZ h => ?_⟩
  obtain ⟨hs, hc, hl, ht⟩ := h
  refine wpAny_Call_Name_kw (thn ((pe_var (pos := p1) (i := i) hN hv hd hcd).run pinsZ sZ σZ HZ (fun v H1 => v = .ref f ∧ H1 = HZ) IZ ⟨.ref f, hs, rfl, rfl⟩) fun u s1 ⟨v, H1, I1, r1, q1⟩ => ?_)
  obtain ⟨ev, eH⟩ := q1
  subst ev
  rw [eH] at I1
  obtain rfl : u = Value.ref f := r1
  obtain ⟨⟨pm, ctv, of1⟩, _, _⟩ := I1.hok f _ hl
  refine PySem.W.callWith_F0 ⟨_, _, _, _, of1⟩ ?_
  obtain ⟨⟨oc, vs, t, hoc, hdc, hvc⟩, _, _⟩ := I1.hok c' _ hc
  have rc : codeAny (model P w) (A.deeper (envOfC qg sg s.heap.objs.size g cdg)) (.call (.ref f) ⟨[], []⟩) (CR (L2.CX P w) (envOfC qg sg s.heap.objs.size g cdg :: outer) P w HZ s1 Q E) s1 := by
    refine PySem.W.kla_callFunE hr.depth of1 rfl L.co L.gen rfl ⟨c', oc, vs, t, rfl, hoc, hdc, hvc⟩ ?_
    rw [hbind]
    refine wpAny_pure (wpAny_newFunctionEnv (fun y hy => (L.own y hy).2.1) (fun y hy => absurd hy (by simp)) (fun h₁ hns hsb => ⟨I1.nolimit.fresh _ hsb, ?_⟩) L.kind)
    show codeAny _ _ (.expr body (lam0Env q scope s1.heap.objs.size f c')) _ _
    have kp : ∀ b o, s1.heap.get? b = some o → h₁.get? b = some o := fun b o e => hsb.extBut b o (Nat.ne_of_lt (Heap.lt_size e)) (Heap.get?_push_of_some _ e)
    have J : Inv (lamC0 P w K mg base (A.deeper (envOfC qg sg s.heap.objs.size g cdg)) (envOfC qg sg s.heap.objs.size g cdg :: outer) s1 HZ E q scope f c') [] [] HZ { s1 with heap := h₁, toks := s1.toks + ([] : List (Str × Value)).length } :=
      lam0_start L I1.env0 hr.hd hns kp
    refine PySem.W.kla_codeExpr (wpAny_mono ((hbody _ _ s1 HZ (hr.deeper _)).run [] _ _ HZ Q J ht) (fun v s' hq => ?_) fun e s' hq => hq)
    obtain ⟨w', H', J', rv, q⟩ := hq
    exact ⟨w', H', J'.os, J'.bare, J'.base, J'.hok, rv, q⟩
  have hx : Passes (L2.CX P w) ((cxOf CXg P w K mg base Ng qg sg g cdg A outer s H Eg).tr pn xe) E := passes_call tk hW
  refine wpAny_call (codeAny_mono rc fun r s' hq => ?_)
  cases r with
  | error e => exact hx pinsZ σZ HZ s1 e s' I1 hq
  | ok fl =>
    cases fl with
    | ret u => exact I1.after hq
    | next => exact False.elim hq
    | brk => exact False.elim hq
    | cont => exact False.elim hq
end
end TP
end
section
set_option Elab.async false
set_option maxRecDepth 100000
set_option linter.all false
namespace TA
open TK
open TK
open PySem PySem.Spec PyProof.Rows L2 LamX TX TK TM TB
theorem pe_told {X : Cx} {ce : Nat → Addr} {cT g c P : Addr} {fdg : FuncData} {T : List (Addr × Str)} {k : Nat} {params : Arguments} {body : Expr} {scope : Scope} {t : XK → TE} {p lpos pos : Pos} (FR : Fun X.K "_law_raised" "_law_raised" sLawRaised g fdg) (bR : L2.Binds X.K fdg ["_law_work"] [])
    (mR : X.mg "_law_raised" = some (.ref g)) (TE : TxtE X.K X.mg ce cT) (hg : Gl X "_law_raised") (TB : LamX.TabB X.base X.mg c P) (hcode : X.env.code = .ref c) (hmT : (P, X.env.qual ++ "<lambda>") ∈ T) (hu : ∀ p ∈ T, p.1 = P → p.2 = X.env.qual ++ "<lambda>") (hr : Room (k + 2) X.A)
    (L : LamS X.env.scope scope) (hdef : defaultsOf params X.env = ([], [])) (hbind : ∀ (q : Str) (cl : List (Str × Addr)) (pm cv ctv : Value), bindArgs (PySem.W.kla_fn "<lambda>" q params body scope cl pm cv ctv) ⟨[], []⟩ = pure [])
    (hbody : ∀ (A : Around) (outer : List Env) (s : Shared) (H : Hp) (E : XK) (f c' : Addr), Room k (A.deeper (lamEnv X scope s.heap.objs.size f c')) → PE (lamCx X A outer s H E scope f c') body (t E)) :
    PE X (.Call (.Name "_law_raised" p) [.Lambda params body scope lpos] [] pos) (tLam T (TRa ce) t) := by
  obtain ⟨oc, od, kV, doc, pm, an, cdv, ct, osl, rfl, lk, hcd⟩ := FR.ex
  exact pe_lamcall hg mR FR.kp lk hcd bR scRa rfl (.inl rfl) (raised_gives TE) TB hcode hmT hu hr L hdef hbind hbody
end TA
namespace TP
open PySem PySem.Spec PyProof.Rows L2 LamX TX TK TA
/-- a kept lambda: no parameter, globals alone, its body's reading -/
structure LamK (P : Program) (w : World) (K : PySem.W.Frag) (mg : Str → Option Value) (base : Heap) (k : Nat) (q : Str) (params : Arguments) (body : Expr) (scope : Scope) (t : XK → TE) : Prop where
  sc : Lam0S scope
  bind : ∀ pm cv ctv : Value, bindArgs (PySem.W.kla_fn "<lambda>" q params body scope [] pm cv ctv) ⟨[], []⟩ = pure []
  run : ∀ (A : Around) (outer : List Env) (s : Shared) (H : Hp) (E : XK) (f c' : Addr), Room k (A.deeper (lam0Env q scope s.heap.objs.size f c')) → PE (lamC0 P w K mg base A outer s H E q scope f c') body (t E)
def tToldV (P : Program) (w : World) (K : PySem.W.Frag) (mg : Str → Option Value) (base : Heap) (ce : Nat → Addr) (k : Nat) (te : TE) : TE := fun σ H Q => te σ H fun v H1 => ∃ (f c' : Addr) (q : Str) (params : Arguments) (body : Expr) (scope : Scope) (t : XK → TE), v = .ref f ∧ LamK P w K mg base k q params body scope t ∧
  H1 f = some (LamO f c' q params body scope) ∧ H1 c' = some (CodeO c' q) ∧ TRa ce (fun E H' Q' => H' f = some (LamO f c' q params body scope) ∧ t E [] H' Q') H1 Q
theorem pe_toldV {X : Cx} {ce : Nat → Addr} {cT g : Addr} {fdg : FuncData} {k : Nat} {y : Str} {te : TE} {p py pos : Pos} (FR : Fun X.K "_law_raised" "_law_raised" sLawRaised g fdg) (bR : L2.Binds X.K fdg ["_law_work"] [])
    (mR : X.mg "_law_raised" = some (.ref g)) (TE : TxtE X.K X.mg ce cT) (hg : Gl X "_law_raised") (hr : Room (k + 2) X.A) (he : PE X (.Name y py) te) :
    PE X (.Call (.Name "_law_raised" p) [.Name y py] [] pos) (tToldV X.prog X.w X.K X.mg X.base ce k te) := by
  obtain ⟨oc, od, kV, doc, pm, an, cdv, ct, osl, rfl, lk, hcd⟩ := FR.ex
  refine ⟨fun pins s σ H Q I h => ?_⟩
  refine wpAny_Call_Name_kw (ld_glob I hg mR ?_ (by decide))
  refine PySem.W.callWith_K (h₀ := X.base) I.ok.mod.kin FR.kp ?_ (by rfl) (by rfl)
  show wpAny _ _ (spliced ((false, eval (.Name y py) X.env) :: backTo pos (starEach [] X.env))) _ _ s
  refine Calls.spliced_cons (thn (he.run pins s σ H _ I h) fun u s' ⟨v, H1, I1, r1, q1⟩ => ?_)
  obtain ⟨f, c', q, params, body, scope, t, rfl, LK, hf, hc, hq⟩ := q1
  obtain rfl : u = Value.ref f := r1
  refine Calls.spliced_nil ⟨I1.kIn, ?_⟩
  have rc : codeAny (model X.prog X.w) X.A (.call (.ref g) ⟨[.ref f], []⟩) (CR C8.CX0 X.stack X.prog X.w H1 s' Q C8.E0) s' := by
    refine run_ofS (N := NRa) (ps := ["_law_work"]) (us := [.ref f]) (vs := [.ref f]) lk hcd scRa hr I1.env0 (bR s' [.ref f] I1.kIn rfl) (.cons rfl .nil) rfl fun hr' => ?_
    obtain ⟨t', ht', hq'⟩ := raised_gives (X := X) (g := g) (cdg := cdv) (q := q) TE f c' s' H1 Q (fun E H' Q' => H' f = some (LamO f c' q params body scope) ∧ t E [] H' Q')
      (fun W pn xe E p1 p2 tk hW => pe_act0 (i := 0) LK.sc (fun pm ctv => LK.bind pm _ ctv) tk hW hr' (fun A outer s H hr2 => LK.run A outer s H E f c' hr2) rfl (.inl rfl)) hc hq
    exact ⟨t', ht'.nox, hq'⟩
  refine wpAny_call (codeAny_mono rc fun r s2 hq => ?_)
  cases r with
  | error e => exact (show False from hq).elim
  | ok fl =>
    cases fl with
    | ret u => exact I1.after hq
    | next => exact False.elim hq
    | brk => exact False.elim hq
    | cont => exact False.elim hq
end TP
end
section
set_option Elab.async false
set_option maxRecDepth 100000
set_option linter.all false
namespace TP
open PySem L2 TM TK TH TB TX
open PySem.Spec PyProof.Rows
theorem eqv_rows : ∀ g g' : Grid, PyData.eqvAll (rowD g) (rowD g') = decide (g = g')
  | [], [] => rfl
  | [], _ :: _ => by simp [PyData.eqvAll]
  | _ :: _, [] => by simp [PyData.eqvAll]
  | x :: g, y :: g' => by
    have e : PyData.eqv (.str (S x)) (.str (S y)) = decide (x = y) := by
      show (S x == S y) = _
      rw [Bool.eq_iff_iff]
      simp [beq_iff_eq]
    show PyData.eqvAll (PyData.str (S x) :: rowD g) (PyData.str (S y) :: rowD g') = _
    rw [PyData.eqvAll, e, eqv_rows g g']
    rw [Bool.eq_iff_iff]
    simp
theorem eqv_tup (g g' : Grid) : PyData.eqv (.tuple (rowD g)) (.tuple (rowD g')) = decide (g = g') := eqv_rows g g'
theorem eqv_lst (g g' : Grid) : PyData.eqv (.list (rowD g)) (.list (rowD g')) = decide (g = g') := eqv_rows g g'
/-- the class asked by isinstance -/
structure IsT (K : PySem.W.Frag) (D : Addr) : Prop where
  ha : PySem.W.findIn K (.ref D) "__class__" = some (some (.builtin "object.__class__"))
  hn : PySem.W.specialIn K (.builtin "object.__class__") "__get__" = some (some (.builtin "getset_descriptor.__get__"))
  ht : PySem.W.takesIn K (.builtin "object.__class__") = some true
  hm : PySem.W.mroIn K D (.type "object") = some true
  one : PySem.W.kitOne K (.ref D) (.ref D) = some true
  tup : PySem.W.kitOne K (.type "tuple") (.ref D) = some false
section
variable {P : Program} {w : World} {K : PySem.W.Frag} {mg : Str → Option Value} {base : Heap} {D : Addr}
theorem scTe : FnScope ["self", "other"] ["self", "other"] (defScope sTrayEq) := ⟨rfl, rfl, rfl, by decide +kernel, rfl, by decide +kernel, by decide +kernel⟩
def spTq (K : PySem.W.Frag) (D : Addr) : Sp := fun vs H Q _ => ∃ (p q : Addr) (h w : Nat) (g : Grid), vs = [.ref p, .ref q] ∧ TrayAt K D H p g ∧ VG h w g ∧
  ((∃ (h' w' : Nat) (g' : Grid), TrayAt K D H q g' ∧ VG h' w' g' ∧ Q (.bl (decide (g = g'))) H) ∨ ∃ xs, SqT K H q xs ∧ Q (.bl false) H)
theorem ok_tq {f : Addr} {fd : FuncData} (F : Fun K "__eq__" "Tray.__eq__" sTrayEq f fd) (T : TxtW K mg) (CT : ClsT K mg D) (W : IsT K D) : FnOk P w K mg base CX0 1 f fd ["self", "other"] (spTq K D) := by
  refine F.ok scTe (fun vs H Q E h => ?_) (fun cdv A outer s H vs Q E hr h => ?_)
  · obtain ⟨p, q, h, w, g, rfl, _⟩ := h
    rfl
  · obtain ⟨p, q, h, w, g, rfl, ⟨dp, ap, hp, hSp⟩, V1, hx⟩ := h
    refine ⟨_, pss_one (ps_ret (pe_and (pe_callB call_isi (by rfl) T.isi (by decide +kernel) (pa_cons (pv 1) (pa_cons (pe_glob (v := .ref D) rfl CT.mgC rfl) pa_nil)))
      (pe_one (pe_cmpR (op_eqD hr.units) (pe_fld (pv 0) rfl) (pe_fld (pv 1) rfl) (nomark _))))), ?_⟩
    rcases hx with ⟨h', w', g', ⟨dq, aq, hq, hSq⟩, V2, k⟩ | ⟨xs, hq, k⟩
    · refine ⟨_, rfl, _, _, _, _, true, rfl, .own D, .base (.ins hq CT.cl W.ha W.hn W.ht W.hm), W.one, true, rfl, iteT ?_⟩
      refine ⟨_, rfl, p, D, dp, _, _, rfl, hp, CT.cl, CT.nR, rfl, ?_⟩
      refine ⟨_, rfl, q, D, dq, _, _, rfl, hq, CT.cl, CT.nR, rfl, ?_⟩
      refine ⟨_, _, .tup hSp (row_all _), .tup hSq (row_all _), row_shaped V1, row_shaped V2, ?_⟩
      rw [eqv_tup]
      exact k
    · exact ⟨_, rfl, _, _, _, _, false, rfl, .own D, TA.sq_ty (.tup hq), W.tup, false, rfl, iteF k⟩
end
end TP
end
section
set_option Elab.async false
set_option maxRecDepth 100000
set_option linter.all false
namespace TP
open PySem L2 TM TK TH TB TX
theorem cellB_of {c : Nat} (h : Cell c) : cellB c = true := decide_eq_true (cell_in h)
theorem fwcell_ok : ∀ (t u l : List Nat) (j : Nat), (∀ c ∈ t, Cell c) → (mb (l ++ t)).Nodup → fwcell l j (t ++ u) = fwcell (l ++ t) (j + t.length) u
  | [], u, l, j, _, _ => by simp
  | c :: t, u, l, j, hc, hn => by
    have h0 : ¬(c ∈ mb l ∨ cellB c = false) := by
      rintro (h | h)
      · exact fresh hn h
      · rw [cellB_of (hc c List.mem_cons_self)] at h
        cases h
    show (if c ∈ mb l ∨ cellB c = false then Sum.inl j else fwcell (l ++ [c]) (j + 1) (t ++ u)) = _
    rw [if_neg h0, fwcell_ok t u (l ++ [c]) (j + 1) (fun x hx => hc x (List.mem_cons_of_mem _ hx)) (by simpa using hn)]
    simp [Nat.add_comm, Nat.add_left_comm]
theorem badRow_ok {m0 i : Nat} {t : List Nat} (hi : i < 8) (h1 : 1 ≤ t.length) (h8 : t.length ≤ 8) (hm : t.length = m0) : badRow m0 i t = false := by
  unfold badRow
  simp
  omega
theorem fwrows_ok {m0 : Nat} : ∀ (rs : Grid) (rest : List (Option (List Nat))) (l : List Nat) (i : Nat), (∀ r ∈ rs, r.length = m0) → 1 ≤ m0 → m0 ≤ 8 → (∀ r ∈ rs, ∀ c ∈ r, Cell c) → (mb (l ++ rs.flatten)).Nodup → i + rs.length ≤ 8 →
    fwrows m0 l i (rs.map some ++ rest) = fwrows m0 (l ++ rs.flatten) (i + rs.length) rest
  | [], rest, l, i, _, _, _, _, _, _ => by simp
  | t :: rs, rest, l, i, hl, h1, h8, hc, hn, hi => by
    have hlt := hl t List.mem_cons_self
    simp only [List.length_cons] at hi
    have hb := badRow_ok (m0 := m0) (i := i) (t := t) (by omega) (by omega) (by omega) hlt
    have hn' : (mb ((l ++ t) ++ rs.flatten)).Nodup := by simpa using hn
    have hn1 : (mb (l ++ t)).Nodup := by
      rw [mb_app] at hn'
      exact (List.nodup_append.mp hn').1
    have e := fwcell_ok t [] l 0 (fun c h => hc t List.mem_cons_self c h) hn1
    rw [List.append_nil] at e
    show (if badRow m0 i t = true then some (i, 0) else match fwcell l 0 t with | .inl j => some (i, j) | .inr l' => fwrows m0 l' (i + 1) (rs.map some ++ rest)) = _
    rw [hb, e, if_neg (by simp)]
    show fwrows m0 (l ++ t) (i + 1) (rs.map some ++ rest) = _
    rw [fwrows_ok rs rest (l ++ t) (i + 1) (fun r h => hl r (List.mem_cons_of_mem _ h)) h1 h8 (fun r h => hc r (List.mem_cons_of_mem _ h)) hn' (by omega)]
    simp [Nat.add_comm, Nat.add_left_comm]
theorem fwc_len {m : Nat} {g : Grid} (hne : g ≠ []) (h : ∀ r, g.head? = some r → r.length = m) : fwc (g.map some) = fwrows m [] 0 (g.map some) := by
  cases g with
  | nil => exact absurd rfl hne
  | cons t g =>
    rw [← h t rfl]
    rfl
theorem take_mem {g : Grid} {r : List Nat} {k : Nat} (h : r ∈ g.take k) : r ∈ g := List.mem_of_mem_take h
theorem ahead_nodup {h w : Nat} {g : Grid} {row : List Nat} {i j : Nat} (V : VG h w g) (hr : g[i]? = some row) : (mb (ahead g row i j)).Nodup := by
  have hi := (List.getElem?_eq_some_iff.mp hr).1
  have e1 : g = g.take i ++ row :: g.drop (i + 1) := by
    have := (List.getElem?_eq_some_iff.mp hr).2
    rw [← this]
    simp
  have e2 : g.flatten = ahead g row i j ++ (row.drop j ++ (g.drop (i + 1)).flatten) := by
    conv => lhs; rw [e1]
    unfold ahead
    rw [List.flatten_append, List.flatten_cons]
    rw [List.append_assoc, ← List.append_assoc (row.take j), List.take_append_drop]
  have nd := V.nd
  rw [e2, mb_app] at nd
  exact (List.nodup_append.mp nd).1
/-- a wrong sign at (i, j) -/
theorem fwc_bad {h w : Nat} {g : Grid} {row : List Nat} {i j bad : Nat} (V : VG h w g) (hr : g[i]? = some row) (hj : j < w) (hb : bad ∈ mb (ahead g row i j) ∨ cellB bad = false) :
    fwc ((g.set i (row.take j ++ bad :: row.drop (j + 1))).map some) = some (i, j) := by
  have hi := (List.getElem?_eq_some_iff.mp hr).1
  have hlen := V.len
  have hrl : row.length = w := V.rc.2 row (List.mem_of_getElem? hr)
  have hxl : (row.take j ++ bad :: row.drop (j + 1)).length = w := by
    simp
    omega
  have h8 := V.m8
  have h1 := V.m1
  rw [fwc_len (m := w) (fun e => V.ne (by simpa using e)) (fun r hr' => ?_)]
  · rw [List.set_eq_take_append_cons_drop, if_pos hi, List.map_append, List.map_cons]
    rw [fwrows_ok (g.take i) _ [] 0 (fun r hr' => V.rc.2 r (take_mem hr')) h1 h8 (fun r hr' => V.ok r (take_mem hr')) (by
      have := ahead_nodup (j := 0) V hr
      simpa [ahead] using this) (by rw [List.length_take]; omega)]
    have el : 0 + (g.take i).length = i := by rw [List.length_take]; omega
    rw [el, List.nil_append]
    have hb0 := badRow_ok (m0 := w) (i := i) (t := row.take j ++ bad :: row.drop (j + 1)) (by omega) (by omega) (by omega) hxl
    show (if badRow w i _ = true then some (i, 0) else match fwcell (g.take i).flatten 0 (row.take j ++ bad :: row.drop (j + 1)) with | .inl k => some (i, k) | .inr l' => fwrows w l' (i + 1) _) = _
    rw [hb0, if_neg (by simp), fwcell_ok (row.take j) _ _ 0 (fun c hc => V.ok row (List.mem_of_getElem? hr) c (List.mem_of_mem_take hc)) (ahead_nodup V hr)]
    have ej : 0 + (row.take j).length = j := by rw [List.length_take]; omega
    rw [ej]
    show (match (if bad ∈ mb (ahead g row i j) ∨ cellB bad = false then Sum.inl j else _) with | .inl k => some (i, k) | .inr l' => fwrows w l' (i + 1) _) = _
    rw [if_pos hb]
  · cases g with
    | nil => exact absurd rfl V.ne
    | cons t g =>
      cases i with
      | zero => cases hr'; exact hxl
      | succ i => exact (Option.some.inj hr') ▸ V.rc.2 t List.mem_cons_self
/-- a row that is too long -/
theorem fwc_long {h w : Nat} {g : Grid} {row : List Nat} {i : Nat} (V : VG h w g) (hr : g[i]? = some row) (h2 : 1 < h) :
    ∃ p : Nat × Nat, fwc ((g.take i ++ [row ++ [46]] ++ g.drop (i + 1)).map some) = some p ∧ (p = (0, 0) ∨ p = if 0 < i then (i, 0) else (1, 0)) := by
  have hi := (List.getElem?_eq_some_iff.mp hr).1
  have hlen := V.len
  have hrl : row.length = w := V.rc.2 row (List.mem_of_getElem? hr)
  have h8 := V.m8
  have h1 := V.m1
  have hg := V.rc.1
  cases i with
  | succ i =>
    refine ⟨(i + 1, 0), ?_, .inr (by simp)⟩
    rw [fwc_len (m := w) (by simp) (fun r hr' => ?_)]
    · rw [List.append_assoc, List.map_append]
      rw [fwrows_ok (g.take (i + 1)) _ [] 0 (fun r hr' => V.rc.2 r (take_mem hr')) h1 h8 (fun r hr' => V.ok r (take_mem hr')) (by
        have := ahead_nodup (j := 0) V hr
        simpa [ahead] using this) (by rw [List.length_take]; omega)]
      have el : 0 + (g.take (i + 1)).length = i + 1 := by rw [List.length_take]; omega
      rw [el]
      have hb : badRow w (i + 1) (row ++ [46]) = true := by
        unfold badRow
        simp
        omega
      show (if badRow w (i + 1) (row ++ [46]) = true then some (i + 1, 0) else _) = _
      rw [if_pos hb]
    · cases g with
      | nil => exact absurd rfl V.ne
      | cons t g => exact (Option.some.inj hr') ▸ V.rc.2 t List.mem_cons_self
  | zero =>
    match g, hg, hi, hr, V with
    | t :: u :: g, hg, hi, hr, V =>
      cases hr
      have hu : u.length = w := V.rc.2 u (List.mem_cons_of_mem _ List.mem_cons_self)
      show ∃ p, fwrows (row ++ [46]).length [] 0 (some (row ++ [46]) :: some u :: g.map some) = some p ∧ _
      by_cases h7 : w + 1 ≤ 8
      · refine ⟨(1, 0), ?_, .inr rfl⟩
        have hb0 := badRow_ok (m0 := (row ++ [46]).length) (i := 0) (t := row ++ [46]) (by omega) (by simp) (by simp; omega) rfl
        have e := fwcell_ok (row ++ [46]) [] [] 0 (fun c hc => by
          rcases List.mem_append.mp hc with h | h
          · exact V.ok row List.mem_cons_self c h
          · exact .inl (by simpa using h)) (by
          have := ahead_nodup (j := row.length) V (i := 0) (row := row) rfl
          rw [List.nil_append, mb_dot]
          simpa [ahead] using this)
        rw [List.append_nil] at e
        show (if badRow (row ++ [46]).length 0 (row ++ [46]) = true then some (0, 0) else match fwcell [] 0 (row ++ [46]) with | .inl j => some (0, j) | .inr l' => fwrows (row ++ [46]).length l' 1 (some u :: g.map some)) = _
        rw [hb0, e, if_neg (by simp)]
        show fwrows (row ++ [46]).length ([] ++ (row ++ [46])) 1 (some u :: g.map some) = _
        have hb1 : badRow (row ++ [46]).length 1 u = true := by
          unfold badRow
          simp
          omega
        show (if badRow (row ++ [46]).length 1 u = true then some (1, 0) else _) = _
        rw [if_pos hb1]
      · refine ⟨(0, 0), ?_, .inl rfl⟩
        have hb1 : badRow (row ++ [46]).length 0 (row ++ [46]) = true := by
          unfold badRow
          simp
          omega
        show (if badRow (row ++ [46]).length 0 (row ++ [46]) = true then some (0, 0) else _) = _
        rw [if_pos hb1]
    | [t], hg, hi, hr, V =>
      simp at hg
      omega
    | [], hg, hi, hr, V => exact absurd rfl V.ne
theorem fwc_nine : fwc ((List.replicate 9 [46]).map some) = some (8, 0) := by decide
/-- the rows of a tray are all good -/
theorem fwc_good {h w : Nat} {g : Grid} (V : VG h w g) : fwc (g.map some) = none := by
  rw [fwc_len (m := w) V.ne (fun r hr => V.rc.2 r (List.mem_of_mem_head? hr))]
  have := fwrows_ok g [] [] 0 (fun r hr => V.rc.2 r hr) V.m1 V.m8 V.ok (by simpa using V.nd) (by have := V.len; omega)
  rw [List.append_nil] at this
  rw [this]
  rfl
end TP
end
section
set_option Elab.async false
set_option maxRecDepth 100000
set_option linter.all false
namespace TP
open PySem PySem.Spec PyProof.Rows L2 LamX TX TK TA TM TB TH
def rNotInT (K : PySem.W.Frag) : R2 := fun x y H Q => ∃ d ds, Dp K H x d ∧ Dp K H y (.tuple ds) ∧ SeqAt.shaped d = true ∧ SeqAt.shaped (.tuple ds) = true ∧ Q (.bl (!ds.any fun z => PyData.eqv z d)) H
theorem op_notInT {X : Cx} (hu : X.A.units + 65 < cLine) : OpR X (compareOp .NotIn) (rNotInT X.K) := by
  intro pins s σ H x y v u Q I rx ry h
  obtain ⟨d, ds, hd, he, sd, se, q⟩ := h
  obtain ⟨as, r1⟩ := Dp.reads I d x v hd rx
  obtain ⟨bs, r2⟩ := Dp.reads I (.tuple ds) y u he ry
  exact SeqAt.notIn_tuple_reads r2 r1 (SeqAt.canLay_of_shaped se) (SeqAt.canLay_of_shaped sd) (room_in_shaped sd hu) ⟨.bl _, H, I, rfl, q⟩
theorem op_neDK {X : Cx} {K : PySem.W.Frag} (h : X.K = K) (hu : X.A.units + 64 < cLine) : OpR X (compareOp .NotEq) (rNeD K) := by
  subst h
  exact op_neD hu
theorem pe_toldVK {X : Cx} {P : Program} {w : World} {K : PySem.W.Frag} {mg : Str → Option Value} {base : Heap} {ce : Nat → Addr} {cT g : Addr} {fdg : FuncData} {k : Nat} {y : Str} {te : TE} {p py pos : Pos} (h1 : X.prog = P) (h2 : X.w = w) (h3 : X.K = K) (h4 : X.mg = mg) (h5 : X.base = base)
    (FR : Fun K "_law_raised" "_law_raised" sLawRaised g fdg) (bR : L2.Binds K fdg ["_law_work"] [])
    (mR : mg "_law_raised" = some (.ref g)) (TE : TxtE K mg ce cT) (hg : Gl X "_law_raised") (hr : Room (k + 2) X.A) (he : PE X (.Name y py) te) :
    PE X (.Call (.Name "_law_raised" p) [.Name y py] [] pos) (tToldV P w K mg base ce k te) := by
  subst h1 h2 h3 h4 h5
  exact pe_toldV FR bR mR TE hg hr he
theorem pe_makeR0 {X : Cx} {CX : CXT} {k : Nat} {f C : Addr} {sp : Sp} {E : XK} {x : Str} {p pos : Pos} (M : Mk X.K C f) (F : FnR X.prog X.w X.K X.mg X.base CX k f sp) (hr : Room (k + 1) X.A) (hg : Gl X x) (hm : X.mg x = some (.ref C)) (hx : Passes CX X E)
    (hdb : (x == ("__debug__" : Str)) = false := by decide) : PE X (.Call (.Name x p) [] [] pos) (StX.tMakeR C sp E tNil) := by
  refine ⟨fun pins s σ H Q I h => ?_⟩
  refine wpAny_Call_Name_kw (ld_glob I hg hm ?_ hdb)
  exact PySem.W.callWith_K0 I.kIn M.kp (StX.run_makeR (us := []) M F hr hx I .nil h)
/-- the promise of Tray.__init__ at *rows -/
abbrev spTis (K : PySem.W.Frag) (D CE : Addr) : Sp := fun vs H Q E => ∃ ws rest, vs = ws ++ rest ∧ ws.length = 1 ∧ rest.length ≤ sizeLine ∧ ∀ p, H p = Option.none → spTix K D CE (ws ++ [V.ref p]) (upd H p (.tup rest)) Q E
theorem mk_trayN {K : PySem.W.Frag} {D CE : Addr} {vs : List V} {rs : List (Option (List Nat))} {H1 : Hp} {R : Addr → Hp → Prop} {E : XK} {i j : Nat} (hl : vs.length = rs.length) (h1 : vs.length ≤ 1000) (hrw : ∀ (i : Nat) (x : V) (r : Option (List Nat)), vs[i]? = some x → rs[i]? = some r → Rw K x r)
    (hf : fwc rs = some (i, j)) (k : ∀ H2 d, Same H1 H2 → H2 d = some (.xd [("column", .int (j : Nat)), ("row", .int (i : Nat))]) → E (.ref CE) (some d) H2) :
    ∀ x dx, H1 x = none → H1 dx = none → dx ≠ x → spTis K D CE (V.ref x :: vs) (upd (upd H1 dx (.own x)) x (.ins D dx [])) (fun v H2 => v = .non ∧ R x H2) E := by
  intro x dx nx ndx nex
  refine ⟨[.ref x], vs, rfl, rfl, by show _ ≤ 16777216; omega, fun p hp => ?_⟩
  have hpx : x ≠ p := fun z => by rw [← z, upd_same] at hp; cases hp
  have keep : ∀ b o, H1 b = some o → (upd (upd (upd H1 dx (.own x)) x (.ins D dx [])) p (.tup vs)) b = some o := fun b o e => by
    have e2 : (upd (upd H1 dx (.own x)) x (.ins D dx [])) b = some o := by rw [upd_ne (ne_of_none e nx), upd_ne (ne_of_none e ndx)]; exact e
    rw [upd_ne (ne_of_none e2 hp)]
    exact e2
  exact ⟨x, dx, p, vs, rs, rfl, by rw [upd_ne hpx, upd_same], SqT.of upd_same, hl, h1, hrw, (fun z => by rw [hf] at z; cases z), fun a b z H' d kp hd h1 => by
    rw [hf] at z
    cases z
    exact k _ _ (fun b o e => kp b o (keep b o e)) h1⟩
/-- what the suite tells of a wrong tray -/
abbrev trD (i j : Nat) : PyData := .tuple [.str "tray", .int (i : Nat), .int (j : Nat)]
theorem tr_lay (i j : Nat) : PyData.canLay0 (trD i j) = true := by
  show (PyData.strOk "tray" && (true && (true && true))) = true
  decide +kernel
theorem tr_shaped (i j : Nat) : SeqAt.shaped (trD i j) = true := by
  unfold SeqAt.shaped
  rw [tr_lay]
  rfl
theorem tr_eqv (i j : Nat) : PyData.eqv (trD i j) (trD i j) = true := SeqAt.eqv_refl _ (tr_lay i j)
theorem tr_dp {K : PySem.W.Frag} {H : Hp} {q : Addr} {i j : Nat} (h : H q = some (.tup [.str "tray", .int (i : Nat), .int (j : Nat)])) : Dp K H (.ref q) (trD i j) := .tup (SqT.of h) (.cons (.str _) (.cons (.int _) (.cons (.int _) .nil)))
theorem extN_same {H H' : Hp} (s : Same H H') : ExtN H H' := ExtN.of s
theorem tup_extN {H H' : Hp} {q : Addr} {xs : List V} (h : H q = some (.tup xs)) (e : ExtN H H') : H' q = some (.tup xs) := e _ _ h fun ps z => by cases z
theorem lst_extN {H H' : Hp} {q : Addr} {xs : List V} (h : H q = some (.lst xs)) (e : ExtN H H') : H' q = some (.lst xs) := e _ _ h fun ps z => by cases z
theorem tabs_but {T : List (Addr × Str)} {H H' : Hp} {r : Addr} {xs : List V} (h : Tabs T H) (hr : H r = some (.lst xs)) (b : But r H H') : Tabs T H' := fun p hp => by
  obtain ⟨ps, h1, h2, h3⟩ := h p hp
  refine ⟨ps, b _ _ h1 fun e => ?_, h2, fun pos cv hc => ?_⟩
  · rw [e, hr] at h1
    cases h1
  · obtain ⟨c, e, hc2⟩ := h3 pos cv hc
    refine ⟨c, e, b _ _ hc2 fun z => ?_⟩
    rw [z, hr] at hc2
    have hc3 : HO.lst xs = HO.ext _ := Option.some.inj hc2
    cases hc3
theorem row_extN {K : PySem.W.Frag} {a r : Addr} {ns : List Int} {H H' : Hp} (R : RowAt K a ns H r) (e : ExtN H H') : RowAt K a ns H' r := by
  obtain ⟨i, d, u, h, hi, q⟩ := R
  refine ⟨i, d, u, e _ _ h (fun ps z => by cases z), hi, ?_⟩
  rcases q with (q | ⟨o, q⟩) | q
  · exact .inl (.inl (e _ _ q fun ps z => by cases z))
  · exact .inl (.inr ⟨o, e _ _ q fun ps z => by cases z⟩)
  · exact .inr q
end TP
end
section
set_option Elab.async false
set_option maxRecDepth 100000
set_option linter.all false
namespace TP
open PySem PySem.Spec PyProof.Rows L2 LamX TX TK TA TM TB TH
theorem cut_lo {t : List Nat} {d : Nat} (h : d ≤ t.length) : cutS (S t) none (some (d : Int)) = S (t.take d) := by
  unfold cutS
  rw [S_len, S_list]
  have e1 : HT.sIx t.length 0 none = 0 := rfl
  have e2 : HT.sIx t.length t.length (some (d : Int)) = d := by
    unfold HT.sIx
    simp
    split
    · omega
    · omega
  rw [e1, e2]
  simp
theorem cut_hi {t : List Nat} {d : Nat} (h : d ≤ t.length) : cutS (S t) (some (d : Int)) none = S (t.drop d) := by
  unfold cutS
  rw [S_len, S_list]
  have e1 : HT.sIx t.length t.length none = t.length := rfl
  have e2 : HT.sIx t.length 0 (some (d : Int)) = d := by
    unfold HT.sIx
    simp
    split
    · omega
    · omega
  rw [e1, e2]
  have : (t.drop d).take (t.length - d) = t.drop d := List.take_of_length_le (by rw [List.length_drop]; exact Nat.le_refl _)
  rw [this]
theorem cutV_lo {t : List V} {d : Nat} (h : d ≤ t.length) : cutV t none (some (d : Int)) = t.take d := by
  unfold cutV
  have e1 : HT.sIx t.length 0 none = 0 := rfl
  have e2 : HT.sIx t.length t.length (some (d : Int)) = d := by
    unfold HT.sIx
    simp
    split
    · omega
    · omega
  rw [e1, e2, List.drop_zero, Nat.sub_zero]
theorem cutV_hi {t : List V} {d : Nat} (h : d ≤ t.length) : cutV t (some (d : Int)) none = t.drop d := by
  unfold cutV
  have e1 : HT.sIx t.length t.length none = t.length := rfl
  have e2 : HT.sIx t.length 0 (some (d : Int)) = d := by
    unfold HT.sIx
    simp
    split
    · omega
    · omega
  rw [e1, e2, List.take_of_length_le]
  rw [List.length_drop]
  omega
theorem cutV_take (t : List V) (d : Nat) : cutV t none (some (d : Int)) = t.take d := by
  by_cases h : d ≤ t.length
  · exact cutV_lo h
  · unfold cutV
    have e1 : HT.sIx t.length 0 none = 0 := rfl
    have e2 : HT.sIx t.length t.length (some (d : Int)) = t.length := by
      unfold HT.sIx
      simp
      split
      · omega
      · omega
    rw [e1, e2, List.drop_zero, Nat.sub_zero, List.take_length, List.take_of_length_le (by omega)]
theorem ixN_nat {n i : Nat} (h : i < n) : ixN n (i : Int) = some i := by
  unfold ixN
  simp
  omega
theorem pair_lay (i j i' j' : Nat) : PyData.canLay0 (.tuple [trD i j, trD i' j']) = true := by
  show ((PyData.strOk "tray" && (true && (true && true))) && ((PyData.strOk "tray" && (true && (true && true))) && true)) = true
  decide +kernel
theorem pair_shaped (i j i' j' : Nat) : SeqAt.shaped (.tuple [trD i j, trD i' j']) = true := by
  unfold SeqAt.shaped
  rw [pair_lay]
  rfl
theorem put_keep {H : Hp} {b p : Addr} {o o' : HO} {xs : List V} (h : H b = some o) (hp : H p = some (.lst xs)) (n : ∀ ys, o ≠ .lst ys) : upd H p o' b = some o := by
  rw [upd_ne (fun z => by rw [z, hp] at h; exact n xs (Option.some.inj h).symm)]
  exact h
theorem lamO_nl {f c' : Addr} {q : Str} {params : Arguments} {body : Expr} {scope : Scope} (ys : List V) : LamO f c' q params body scope ≠ .lst ys := fun z => by
  unfold LamO at z
  cases z
theorem codeO_nl {c : Addr} {q : Str} (ys : List V) : CodeO c q ≠ .lst ys := fun z => by
  unfold CodeO at z
  cases z
theorem ext_extN {H H' : Hp} {b : Addr} {f c' : Addr} {q : Str} {params : Arguments} {body : Expr} {scope : Scope} (h : H b = some (LamO f c' q params body scope)) (e : ExtN H H') : H' b = some (LamO f c' q params body scope) := e _ _ h lamO_ne
theorem code_extN {H H' : Hp} {b c : Addr} {q : Str} (h : H b = some (CodeO c q)) (e : ExtN H H') : H' b = some (CodeO c q) := e _ _ h codeO_ne
theorem no_int5 {K : PySem.W.Frag} (H : Hp) : NoText K H (.int 5) := ⟨"int", .base (.int 5), by decide +kernel⟩
end TP
end
section
set_option Elab.async false
set_option maxRecDepth 100000
set_option linter.all false
namespace TP
open PySem PySem.Spec PyProof.Rows L2 LamX TX TK TA TM TB TH
abbrev NRj : List Str := ["_law_row", "_law_rows_here", "_law_r", "_law_c", "_law_known", "_law_cell", "_law_bad", "_law_some", "_law_due", "_law_works", "_law_work"]
theorem scRj : FnScope NRj ["_law_row", "_law_rows_here"] (defScope sLawAreRejected) := ⟨rfl, rfl, rfl, by decide +kernel, rfl, by decide +kernel, by decide +kernel⟩
/-- what `_law_raised` and the making of trays ask, in a def whose lambdas' table is PW -/
structure ToldF (P : Program) (w : World) (K : PySem.W.Frag) (mg : Str → Option Value) (base : Heap) (D : Addr) (ce : Nat → Addr) (cT : Addr) (T : List (Addr × Str)) : Prop where
  te : TxtE K mg ce cT
  ct : ClsT K mg D
  mkT : ∃ fI, Mk K D fI ∧ FnR P w K mg base (L2.CX P w) 3 fI (spTis K D (ce 1))
  ot : ∃ mc pO gO, ClX.CRead K D mc ∧ ClX.CMet K D mc "of_text" pO gO ∧ FnR P w K mg base (L2.CX P w) 5 gO (spOtx K D (ce 1))
  fR : ∃ gR fdR, Fun K "_law_raised" "_law_raised" sLawRaised gR fdR ∧ Binds K fdR ["_law_work"] [] ∧ mg "_law_raised" = some (.ref gR)
  lst : mg "list" = none
structure TabF (base : Heap) (mg : Str → Option Value) (T : List (Addr × Str)) (q : Str) (cW Pw : Addr) : Prop where
  tb : LamX.TabB base mg cW Pw
  tm : (Pw, q) ∈ T
  tu : ∀ p ∈ T, p.1 = Pw → p.2 = q
section
variable {P : Program} {w_ : World} {K : PySem.W.Frag} {mg : Str → Option Value} {base : Heap} {D cT cW Pw fT : Addr} {ce : Nat → Addr} {T : List (Addr × Str)} {fdT : FuncData} {a : Addr} {ns : List Int}
def spRj (K : PySem.W.Frag) (a : Addr) (ns : List Int) (T : List (Addr × Str)) : Sp := fun vs H Q _ => ∃ (r l : Addr) (h w : Nat) (g : Grid), vs = [.ref r, .ref l] ∧ RowAt K a ns H r ∧ VG h w g ∧ H l = some (.lst (rowV g)) ∧ l ≠ r ∧ Tabs T H ∧ ∀ H', Q (.bl true) H'
theorem ok_rj {f : Addr} {oc kV doc pm ct : Value} {od an : Option Addr} {osl : Array (Option Value)} (lk : K.lookup f = some ⟨oc, od, .func (PySem.W.fnOf "_law_are_rejected" "_law_are_rejected" (defArgs sLawAreRejected) (defBody sLawAreRejected) (defScope sLawAreRejected) .none kV doc pm an (.ref cW) ct), osl⟩) (hcd : PySem.W.codeIn K (.ref cW) "_law_are_rejected" = true)
    (T_ : TxtW K mg) (O : ToldF P w_ K mg base D ce cT T) (U : TabF base mg T "_law_are_rejected.<locals>.<lambda>" cW Pw)
    (GT : FnOk P w_ K mg base CX0 1 fT fdT ["_law_row", "_law_many"] (spTk K a ns)) (kT : PySem.W.keepIn K (.ref fT) = true) (bT : Binds K fdT ["_law_row", "_law_many"] []) (mT : mg "_law_taken" = some (.ref fT)) :
    FnOk P w_ K mg base CX0 8 f (PySem.W.fnOf "_law_are_rejected" "_law_are_rejected" (defArgs sLawAreRejected) (defBody sLawAreRejected) (defScope sLawAreRejected) .none kV doc pm an (.ref cW) ct) ["_law_row", "_law_rows_here"] (spRj K a ns T) := by
  obtain ⟨fI, MI, GI⟩ := O.mkT
  obtain ⟨mc, pO, gO, CR_, CM, GO⟩ := O.ot
  obtain ⟨gR, fdR, FR, bR, mR⟩ := O.fR
  have CT := O.ct
  have nd := scRj.nd
  refine fn_of lk hcd scRj (fun vs H Q E h => ?_) (fun A outer s H vs Q E hr h => ?_)
  · obtain ⟨r, l, h, w, g, rfl, _⟩ := h
    rfl
  · obtain ⟨r, l, h, w, g, rfl, hR, hV, hL, lr, hT, k⟩ := h
    suffices h : ∃ t', PSs (cxOf CX0 P w_ K mg base NRj "_law_are_rejected" (defScope sLawAreRejected) f (.ref cW) A outer s H E).nox (defBody sLawAreRejected) t' ∧ t' { nx := fun _ H' => Q .non H', rt := Q } (L2.start NRj [.ref r, .ref l]) H by
      obtain ⟨t', h1, h2⟩ := h
      exact ⟨t', h1.nox, h2⟩
    have r2 : Room 1 _ := hr.mono (by decide)
    have hu65 := hr.un
    replace hu65 := Nat.lt_of_le_of_lt (Nat.add_le_add (Nat.le_add_right _ (16 * 7)) (show 65 ≤ 200 by decide)) hu65
    refine ⟨_, C8.pss_cut (ps_par (i := 2) (j := 3) rfl nd rfl rfl (by decide) rfl rfl (pa_cons (pe_call GT r2 rfl mT kT bT .nil pass0 (pa_cons (pv 0) (pa_cons (pe_callB call_len_seq (by rfl) T_.len PySem.boot_len (pa_cons (pv 1) pa_nil)) pa_nil)))
        (pa_cons (pe_call GT r2 rfl mT kT bT .nil pass0 (pa_cons (pv 0) (pa_cons (pe_callB call_len_str (by rfl) T_.len PySem.boot_len (pa_cons (pe_ix ix_list (pv 1) pe_int (fun _ _ => rfl)) pa_nil)) pa_nil))) pa_nil)) (by rfl))
      (C8.pss_cut (ps_setLc (i := 4) (own := [("_law_cell", 5)]) (g := gName 5) rfl nd rfl rfl (sw_true rfl rfl rfl (by decide +kernel)) (pi_str (pe_op op_add_str (pe_join pe_str (pe_slice sl_list (pv 1) po_none (po_some (pv 2)))) (pe_slice sl_str (pe_ix ix_list (pv 1) (pv 2) (fun _ _ => rfl)) po_none (po_some (pv 3)))))
          (blkOk_by (N := NRj) (sc := defScope sLawAreRejected) (by decide +kernel)) (fun _ _ _ _ _ => pg_name (i := 5) nd rfl (.inl rfl)) (fun _ _ _ _ _ => pts_one (pt_cmpR op_ne (pv 5) pe_str (nomark _))) (fun _ _ _ _ _ => pv 5))
      (C8.pss_cut (ps_for PassesOwn.never rfl (pi_list (pe_op op_cat (pe_lst (pa_cons pe_str (pa_cons pe_str (pa_cons pe_str pa_nil)))) (pe_slice sl_list (pv 4) po_none (po_some pe_int)))) (pg_name (i := 6) nd rfl (.inl rfl))
        (pss_cons (ps_set (i := 7) nd rfl (.inr rfl) (pe_callTy call_list_of (by rfl) O.lst (by decide +kernel) (pa_cons (pv 1) pa_nil)))
        (pss_cons (ps_asg (pe_op op_add_str (pe_op op_add_str (pe_slice sl_str (pe_ix ix_list (pv 1) (pv 2) (fun _ _ => rfl)) po_none (po_some (pv 3))) (pv 6)) (pe_slice sl_str (pe_ix ix_list (pv 1) (pv 2) (fun _ _ => rfl)) (po_some (pe_op op_add (pv 3) pe_int)) po_none)) (pg_sub (pv 7) (pv 2) set_list))
        (pss_one (ps_if (pt_cmpR (op_neD hr.units) (pe_told FR bR mR O.te (by rfl) U.tb rfl U.tm U.tu (k := 5) hr (show LamS (defScope sLawAreRejected) _ from lamS_by (by decide +kernel)) rfl (fun _ _ _ _ _ => rfl)
            (fun A outer s H E f c' hr' => ClX.pe_cmeth (pe_glob (v := .ref D) rfl CT.mgC rfl) CR_ CM GO hr' (passX (takes_of rfl rfl rfl rfl)) (pa_cons (pe_joinK (K := K) rfl pe_str (pv 7)) pa_nil))) (pe_tup (pa_cons pe_str (pa_cons (pv 2) (pa_cons (pv 3) pa_nil)))) (nomark _)) pss_never pss_nil)))))
      (C8.pss_cut (ps_set (i := 7) nd rfl (.inr rfl) (pe_op op_cat (pe_op op_cat (pe_slice sl_list (pv 1) po_none (po_some (pv 2))) (pe_lst (pa_cons (pe_op op_add_str (pe_ix ix_list (pv 1) (pv 2) (fun _ _ => rfl)) pe_str) pa_nil))) (pe_slice sl_list (pv 1) (po_some (pe_op op_add (pv 2) pe_int)) po_none)))
      (C8.pss_cut (ps_set (i := 8) nd rfl (.inl rfl) (pe_ifExp (pt_cmpR op_gt (pv 2) pe_int (nomark _)) (pe_tup (pa_cons pe_str (pa_cons (pv 2) (pa_cons pe_int pa_nil)))) (pe_tup (pa_cons pe_str (pa_cons pe_int (pa_cons pe_int pa_nil))))))
      (C8.pss_cut (ps_if (PW.pt (pw_and (pt_cmpR op_gt (pe_callB call_len_seq (by rfl) T_.len PySem.boot_len (pa_cons (pv 1) pa_nil)) pe_int (nomark _)) (pw_and1 (pt_cmpR (op_notInT hu65) (pe_told FR bR mR O.te (by rfl) U.tb rfl U.tm U.tu (k := 5) hr (show LamS (defScope sLawAreRejected) _ from lamS_by (by decide +kernel)) rfl (fun _ _ _ _ _ => rfl)
            (fun A outer s H E f c' hr' => ClX.pe_cmeth (pe_glob (v := .ref D) rfl CT.mgC rfl) CR_ CM GO hr' (passX (takes_of rfl rfl rfl rfl)) (pa_cons (pe_joinK (K := K) rfl pe_str (pv 7)) pa_nil))) (pe_tup (pa_cons (pv 8) (pa_cons (pe_tup (pa_cons pe_str (pa_cons pe_int (pa_cons pe_int pa_nil)))) pa_nil))) (by rfl))))) pss_never pss_nil)
      (C8.pss_cut (ps_if (pt_cmpR (op_neD hr.units) (pe_told FR bR mR O.te (by rfl) U.tb rfl U.tm U.tu (k := 5) hr (show LamS (defScope sLawAreRejected) _ from lamS_by (by decide +kernel)) rfl (fun _ _ _ _ _ => rfl)
            (fun A outer s H E f c' hr' => ClX.pe_cmeth (pe_glob (v := .ref D) rfl CT.mgC rfl) CR_ CM GO hr' (passX (takes_of rfl rfl rfl rfl)) (pa_cons (pe_joinK (K := K) rfl pe_str (pe_op op_rep (pe_lst (pa_cons pe_str pa_nil)) pe_int)) pa_nil))) (pe_tup (pa_cons pe_str (pa_cons pe_int (pa_cons pe_int pa_nil)))) (nomark _)) pss_never pss_nil)
      (pss_cons (ps_set (i := 9) nd rfl (.inl rfl) (pe_lst (pa_cons (pe_lam0 U.tb rfl U.tm U.tu rfl (by decide +kernel) rfl) pa_nil)))
      (pss_cons (ps_expr (pe_bm PySem.F.plainAttrs_list PySem.F.slot_list_append PySem.F.type_list_append mt_append (pv 9) (pa_cons (pe_lam0 U.tb rfl U.tm U.tu rfl (by decide +kernel) rfl) pa_nil)))
      (pss_cons (ps_expr (pe_bm PySem.F.plainAttrs_list PySem.F.slot_list_append PySem.F.type_list_append mt_append (pv 9) (pa_cons (pe_lam0 U.tb rfl U.tm U.tu rfl (by decide +kernel) rfl) pa_nil)))
      (pss_cons (ps_expr (pe_bm PySem.F.plainAttrs_list PySem.F.slot_list_append PySem.F.type_list_append mt_append (pv 9) (pa_cons (pe_lam0 U.tb rfl U.tm U.tu rfl (by decide +kernel) rfl) pa_nil)))
      (pss_one (ps_ret (pe_cmpR (op_eqD hr.units) (pe_lc (own := [("_law_work", 10)]) (g := gName 10) rfl nd (pi_list (pv 9)) (blkOk_by (N := NRj) (sc := defScope sLawAreRejected) (by decide +kernel)) (fun _ _ _ _ _ => pg_name (i := 10) nd rfl (.inl rfl))
          (fun _ _ _ _ _ => pts_one (pt_cmpR (op_neDK (K := K) rfl hr.units) (pe_toldVK (P := P) (w := w_) (K := K) (mg := mg) (base := base) (k := 5) rfl rfl rfl rfl rfl FR bR mR O.te rfl hr (pv 10)) (pe_tup (pa_cons pe_str (pa_cons pe_int (pa_cons pe_int pa_nil)))) (nomark _))) (fun _ _ _ _ _ => pv 10)) (pe_lst pa_nil) (nomark _)))))))))))))), ?_⟩
    --PROOF
    have hlen := hV.len
    have hgh : g.length = h := hV.rc.1
    have hw8 := hV.m8
    have hh8 := hV.n8
    refine ⟨fun σ H1 => ∃ i j : Nat, σ = [some (.ref r), some (.ref l), some (.int (i : Nat)), some (.int (j : Nat)), none, none, none, none, none, none, none] ∧ i < h ∧ j < w ∧ H1 l = some (.lst (rowV g)) ∧ Tabs T H1, ?_, ?_⟩
    · obtain ⟨row0, h0⟩ : ∃ row0, g[0]? = some row0 := ⟨_, List.getElem?_eq_getElem (by have := hV.n1; omega)⟩
      have h00 : (rowV g)[0]? = some (.str (S row0)) := by rw [List.getElem?_map, h0]; rfl
      have hr0 : row0.length = w := hV.rc.2 row0 (List.mem_of_getElem? h0)
      have tabs_row : ∀ {H1 H2 : Hp}, RowAt K a ns H1 r → Tabs T H1 → But r H1 H2 → Tabs T H2 := fun R h b => by
        obtain ⟨_, _, _, h1, _⟩ := R
        exact tabs_but h h1 b
      refine ⟨_, rfl, _, rfl, l, _, rfl, .inl (SqL.of hL), r, _, rfl, hR, ?_, ?_, fun H2 i hi R2 b2 => ?_⟩
      · rw [List.length_map]; have := hV.n1; omega
      · rw [List.length_map]; omega
      refine ⟨_, rfl, _, rfl, l, _, _, _, rfl, rfl, SqL.of (b2 _ _ hL lr), atI_nat h00, S row0, rfl, S_line (by omega), r, _, rfl, R2, ?_, ?_, fun H3 j hj R3 b3 => ?_⟩
      · rw [S_len]; have := hV.m1; omega
      · rw [S_len]; omega
      rw [List.length_map] at hi
      rw [S_len] at hj
      exact ⟨_, _, rfl, i, j, rfl, by omega, by omega, (b2.trans b3) _ _ hL lr, tabs_row hR hT (b2.trans b3)⟩
    rintro σ H1 ⟨i, j, rfl, hi, hj, L1, T1⟩
    obtain ⟨row, hrow⟩ : ∃ row, g[i]? = some row := ⟨_, List.getElem?_eq_getElem (by omega)⟩
    have hrl : row.length = w := hV.rc.2 row (List.mem_of_getElem? hrow)
    have hrv : (rowV g)[i]? = some (.str (S row)) := by rw [List.getElem?_map, hrow]; rfl
    -- the marbles ahead
    refine ⟨fun σ H2 => ∃ D_ v5, σ = [some (.ref r), some (.ref l), some (.int (i : Nat)), some (.int (j : Nat)), some (.ref D_), v5, none, none, none, none, none] ∧ H2 l = some (.lst (rowV g)) ∧ D_ ≠ l ∧ H2 D_ = some (.lst ((mb (ahead g row i j)).map sg)) ∧ Tabs T H2, ?_, ?_⟩
    · have hli : i ≤ (rowV g).length := by rw [List.length_map]; omega
      have etk : (rowV g).take i = (((g.take i).map S).map V.str) := by
        rw [← List.map_take, List.map_map]
        rfl
      refine ⟨⟨_, rfl⟩, _, rfl, _, rfl, _, rfl, l, _, rfl, SqL.of L1, fun p hp => ⟨_, p, (g.take i).map S, rfl, rfl, .inl ?_, ?_, ?_⟩⟩
      · rw [cutV_lo hli, etk]
        exact SqL.of upd_same
      · have h1 := row_sum 8 (g.take i) fun r hr => hV.row (take_mem hr)
        have h2 : (g.take i).length ≤ 8 := by rw [List.length_take]; omega
        show _ + _ * 0 ≤ 16777216
        omega
      have s1 := TA.same_new (o := .lst (cutV (rowV g) none (some (i : Int)))) hp
      have L2_ := s1 _ _ L1
      generalize upd H1 p (.lst (cutV (rowV g) none (some (i : Int)))) = H2 at s1 L2_
      have T2 := T1.ext s1
      refine ⟨_, rfl, _, rfl, l, _, _, _, rfl, rfl, SqL.of L2_, atI_nat hrv, _, rfl, _, rfl, S row, rfl, S_line (by omega), ?_⟩
      rw [cut_lo (by omega), show Str.ofString "" = S [] from rfl, join0]
      have haL : (ahead g row i j).length ≤ 64 + 8 := by
        have h1 := row_sum 8 (g.take i) fun r hr => hV.row (take_mem hr)
        have h2 : (g.take i).length ≤ 8 := by rw [List.length_take]; omega
        have h3 : (g.take i).flatten.length ≤ 64 := by
          have e : ((g.take i).map S).map (·.length) = (g.take i).map List.length := by
            rw [List.map_map]
            exact List.map_congr_left fun r _ => S_len r
          rw [e] at h1
          rw [List.length_flatten]
          omega
        unfold ahead
        rw [List.length_append, List.length_take]
        omega
      have eA : S (g.take i).flatten ++ S (row.take j) = S (ahead g row i j) := by
        show Str.mk ((g.take i).flatten.toArray ++ (row.take j).toArray) = S _
        unfold ahead
        simp
      refine ⟨_, _, rfl, rfl, ?_, ?_⟩
      · rw [S_len, S_len]
        have h1 : (g.take i).flatten.length + (row.take j).length = (ahead g row i j).length := by unfold ahead; rw [List.length_append]
        show _ ≤ 16777216
        omega
      rw [eA]
      generalize ahead g row i j = ah at haL
      refine ⟨_, rfl, fun D_ hD => lc_it (walk_str (z := S ah)) (fun n H3 => Same H2 H3 ∧ H3 D_ = some (.lst ((mb (ah.take n)).map sg))) ⟨TA.same_new hD, upd_same⟩ (fun _ _ _ _ => True.intro) ?_ ?_⟩
      · rintro n x H3 H4 hn ⟨sm, hL3⟩ ⟨rfl, c, hc, rfl⟩
        rw [S_at] at hc
        have et : mb (ah.take (n + 1)) = mb (ah.take n) ++ if c = 46 then [] else [c] := by
          rw [List.take_add_one, hc]
          show mb (ah.take n ++ [c]) = _
          rw [mb_app]
          by_cases q : c = 46
          · subst q; rfl
          · rw [if_neg q]; simp [mb, q]
        refine ⟨rfl, _, rfl, rfl, _, rfl, ?_⟩
        rw [show (!decide (V.str (⟨#[c]⟩ : Str) = V.str (Str.ofString "."))) = !(c == 46) from congrArg _ (dL c 46)]
        by_cases q : c = 46
        · rw [beq_iff_eq.mpr q]
          refine iteF ⟨sm, ?_⟩
          rw [hL3, et, if_pos q, List.append_nil]
        · rw [beq_eq_false_iff_ne.mpr q]
          refine iteT ⟨_, rfl, _, hL3, ?_, same_put sm hD, ?_⟩
          · have h1 := mb_le (ah.take n)
            rw [List.length_take] at h1
            rw [List.length_map]
            show _ < 16777216
            omega
          · rw [upd_same, et, if_neg q, List.map_append]
            rfl
      · rintro H3 ⟨sm, hL3⟩
        rw [S_size, List.take_length] at hL3
        exact ⟨_, _, rfl, sm _ _ L2_, (ne_of_none L2_ hD).symm, hL3, T2.ext sm⟩
    rintro σ H2 ⟨D_, v5, rfl, L2_, hDl, hD2, T2⟩
    clear L1 T1 H1
    have hBad : ∀ x ∈ ([V.str "A", V.str "0", V.str " "] ++ ((mb (ahead g row i j)).map sg).take 1 : List V), ∃ bad : Nat, x = sg bad ∧ bad ≠ 10 ∧ (bad ∈ mb (ahead g row i j) ∨ cellB bad = false) := by
      intro x hx
      rcases List.mem_append.mp hx with hx | hx
      · simp only [List.mem_cons, List.not_mem_nil, or_false] at hx
        rcases hx with rfl | rfl | rfl
        · exact ⟨65, rfl, by decide, .inr (by decide)⟩
        · exact ⟨48, rfl, by decide, .inr (by decide)⟩
        · exact ⟨32, rfl, by decide, .inr (by decide)⟩
      · obtain ⟨c, hc, rfl⟩ := List.mem_map.mp (List.mem_of_mem_take hx)
        refine ⟨c, rfl, ?_, .inl hc⟩
        rintro rfl
        have hmem : (10 : Nat) ∈ g.flatten := by
          obtain ⟨b, hb⟩ : ∃ b, g.flatten = ahead g row i j ++ b := by
            cases hcj : row[j]? with
            | none =>
              have := List.getElem?_eq_none_iff.mp hcj
              omega
            | some c =>
              obtain ⟨b, hb⟩ := ahead_all hrow hcj
              exact ⟨_, hb⟩
          rw [hb]
          exact List.mem_append_left _ (List.mem_filter.mp hc).1
        obtain ⟨r', hr', h10⟩ := List.mem_flatten.mp hmem
        exact lf_not hV r' hr' h10
    refine ⟨fun σ H3 => ∃ v5 v6 v7, σ = [some (.ref r), some (.ref l), some (.int (i : Nat)), some (.int (j : Nat)), some (.ref D_), v5, v6, v7, none, none, none] ∧ H3 l = some (.lst (rowV g)) ∧ Tabs T H3, ?_, ?_⟩
    · refine ⟨by show 3 ≤ sizeLine; decide, fun q hq => ⟨_, rfl, _, rfl, D_, _, rfl, SqL.of ((TA.same_new hq) _ _ hD2), fun p hp => ?_⟩⟩
      have s1 := TA.same_new (o := .lst [V.str "A", V.str "0", V.str " "]) hq
      have hq1 : upd H2 q (.lst [V.str "A", V.str "0", V.str " "]) q = some (.lst [V.str "A", V.str "0", V.str " "]) := upd_same
      have s2 := TA.same_new (o := .lst (cutV ((mb (ahead g row i j)).map sg) none (some (1 : Int)))) hp
      have e1 : cutV ((mb (ahead g row i j)).map sg) none (some (1 : Int)) = ((mb (ahead g row i j)).map sg).take 1 := cutV_take _ 1
      refine ⟨q, p, _, _, rfl, rfl, s2 _ _ hq1, upd_same, ?_, fun Lb hLb => ?_⟩
      · rw [e1, List.length_take]
        show 3 + _ ≤ 16777216
        omega
      rw [e1] at hLb s2 ⊢
      generalize hbs : ([V.str "A", V.str "0", V.str " "] ++ ((mb (ahead g row i j)).map sg).take 1 : List V) = bs at hBad
      have s3 := TA.same_new (o := .lst bs) hLb
      have s4 := (s1.trans s2).trans s3
      have L3 := s4 _ _ L2_
      have T3 := T2.ext s4
      have hLb3 : (upd (upd (upd H2 q (.lst [V.str "A", V.str "0", V.str " "])) p (.lst (((mb (ahead g row i j)).map sg).take 1))) Lb (.lst bs)) Lb = some (.lst bs) := upd_same
      generalize upd (upd (upd H2 q (.lst [V.str "A", V.str "0", V.str " "])) p (.lst (((mb (ahead g row i j)).map sg).take 1))) Lb (.lst bs) = H3 at hLb3 L3 T3
      refine ⟨Lb, rfl, ⟨_, SqL.of hLb3⟩, for_list (K := K) (a := Lb) (xs := bs) (fun n σ H3 => ∃ v5 v6 v7, σ = [some (.ref r), some (.ref l), some (.int (i : Nat)), some (.int (j : Nat)), some (.ref D_), v5, v6, v7, none, none, none] ∧ H3 l = some (.lst (rowV g)) ∧ Tabs T H3 ∧ H3 Lb = some (.lst bs))
        ⟨_, _, _, rfl, L3, T3, hLb3⟩ (fun _ _ _ _ ⟨_, _, _, _, _, _, h3⟩ => SqL.of h3) ?_ ?_⟩
      · rintro n x σ H4 hx ⟨v5, v6, v7, rfl, L4, T4, B4⟩
        obtain ⟨bad, rfl, h10, hb⟩ := hBad x (List.mem_of_getElem? hx)
        refine ⟨_, rfl, l, _, rfl, .inl (SqL.of L4), fun q5 hq5 => ?_⟩
        have s5 := TA.same_new (o := .lst (rowV g)) hq5
        have L5 := s5 _ _ L4
        have B5 := s5 _ _ B4
        have T5 := T4.ext s5
        have hql : q5 ≠ l := (ne_of_none L4 hq5).symm
        have hqb : q5 ≠ Lb := (ne_of_none B4 hq5).symm
        have Q5 : upd H4 q5 (.lst (rowV g)) q5 = some (.lst (rowV g)) := upd_same
        generalize upd H4 q5 (.lst (rowV g)) = H5 at L5 B5 T5 Q5
        refine ⟨_, rfl, _, rfl, l, _, _, _, rfl, rfl, SqL.of L5, atI_nat hrv, _, rfl, _, rfl, S row, rfl, S_line (by omega), ?_⟩
        rw [cut_lo (by omega)]
        refine ⟨_, rfl, _, _, rfl, rfl, ?_, ?_⟩
        · rw [S_len, List.length_take]
          show _ + 1 ≤ 16777216
          omega
        refine ⟨_, rfl, _, rfl, l, _, _, _, rfl, rfl, SqL.of L5, atI_nat hrv, _, rfl, _, _, rfl, rfl, _, rfl, S row, rfl, S_line (by omega), ?_⟩
        rw [show ((j : Int) + 1) = ((j + 1 : Nat) : Int) by omega, cut_hi (by omega)]
        refine ⟨_, _, rfl, rfl, ?_, ?_⟩
        · show (((row.take j).toArray ++ #[bad]).size + (S (row.drop (j + 1))).length) ≤ 16777216
          rw [S_len, List.length_drop]
          simp
          omega
        have ecat : (S (row.take j) ++ (⟨#[bad]⟩ : Str)) ++ S (row.drop (j + 1)) = S (row.take j ++ bad :: row.drop (j + 1)) := by
          show Str.mk (((row.take j).toArray ++ #[bad]) ++ (row.drop (j + 1)).toArray) = _
          simp
        rw [ecat]
        refine ⟨_, rfl, _, rfl, q5, _, _, _, rfl, rfl, Q5, ixN_nat (by rw [List.length_map]; omega), ?_⟩
        rw [show (rowV g).set i (.str (S (row.take j ++ bad :: row.drop (j + 1)))) = rowV (g.set i (row.take j ++ bad :: row.drop (j + 1))) from List.map_set.symm]
        have hfb := fwc_bad hV hrow hj hb
        have hG8 : (g.set i (row.take j ++ bad :: row.drop (j + 1))).length ≤ 8 := by rw [List.length_set]; exact hlen
        have hGr : ∀ z ∈ g.set i (row.take j ++ bad :: row.drop (j + 1)), z.length ≤ 8 ∧ 10 ∉ z := by
          intro z hz
          rcases List.mem_or_eq_of_mem_set hz with hz | rfl
          · exact ⟨hV.row hz, lf_not hV z hz⟩
          · refine ⟨by simp; omega, fun hz => ?_⟩
            have hr10 := lf_not hV row (List.mem_of_getElem? hrow)
            rcases List.mem_append.mp hz with hz | hz
            · exact hr10 (List.mem_of_mem_take hz)
            · rcases List.mem_cons.mp hz with hz | hz
              · exact h10 hz.symm
              · exact hr10 (List.mem_of_mem_drop hz)
        have hGne : g.set i (row.take j ++ bad :: row.drop (j + 1)) ≠ [] := fun z => hV.ne (by simpa using z)
        generalize g.set i (row.take j ++ bad :: row.drop (j + 1)) = G at hfb hG8 hGr hGne
        have L6 : upd H5 q5 (.lst (rowV G)) l = some (.lst (rowV g)) := by rw [upd_ne hql.symm]; exact L5
        have B6 : upd H5 q5 (.lst (rowV G)) Lb = some (.lst bs) := by rw [upd_ne hqb.symm]; exact B5
        have Q6 : upd H5 q5 (.lst (rowV G)) q5 = some (.lst (rowV G)) := upd_same
        have T6 : Tabs T (upd H5 q5 (.lst (rowV G))) := tabs_but T5 Q5 (fun b o e hb => by rw [upd_ne hb]; exact e)
        generalize upd H5 q5 (.lst (rowV G)) = H6 at L6 B6 Q6 T6
        refine ⟨T6, fun H7 e7 T7 => ?_⟩
        have Q7 := lst_extN Q6 e7
        refine ⟨rfl, ⟨_, rfl⟩, _, rfl, _, q5, G.map S, rfl, rfl, .inl ?_, ?_, G, ?_, hGne, by omega, fun z hz => ⟨Nat.le_trans (hGr z hz).1 (by decide), (hGr z hz).2⟩, (fun z => by rw [hfb] at z; cases z), fun a b hf H8 dd s8 hx8 => ?_⟩
        · rw [List.map_map]
          exact SqL.of Q7
        · have h1 := row_sum 8 G fun z hz => (hGr z hz).1
          rw [List.length_map]
          show _ + G.length * 1 ≤ _
          omega
        · show [V.ref D, V.str (Txt.join (S [10]) (G.map S))] = _
          rw [join_S]
        rw [hfb] at hf
        cases hf
        refine ⟨1, _, [.str "tray", .int (i : Nat), .int (j : Nat)], by decide, rfl, (fun d2 z => by cases z; exact hx8), (fun _ z => nomatch z), rfl, fun H9 q1 s9 hq1 => ?_⟩
        refine ⟨_, rfl, _, rfl, by show 3 ≤ sizeLine; decide, fun q2 hq2 => ?_⟩
        have s10 := TA.same_new (o := .tup [V.str "tray", V.int (i : Nat), V.int (j : Nat)]) hq2
        refine ⟨_, _, tr_dp (s10 _ _ hq1), tr_dp upd_same, tr_shaped _ _, tr_shaped _ _, _, rfl, ?_⟩
        rw [tr_eqv]
        have e70 := (e7.trans (extN_same s8)).trans ((extN_same (show Same H8 H9 from s9)).trans (extN_same s10))
        exact iteF ⟨_, _, _, rfl, lst_extN L6 e70, ((T7.ext s8).ext s9).ext s10, lst_extN B6 e70⟩
      · rintro σ H3 ⟨v5, v6, v7, rfl, L4, T4, _⟩
        exact ⟨v5, v6, v7, rfl, L4, T4⟩
    rintro σ H3 ⟨v5, v6, v7, rfl, L3, T3⟩
    clear hBad hD2 L2_ T2 H2
    -- a row that is too long
    have hcut1 : cutV (rowV g) none (some (i : Int)) = rowV (g.take i) := by
      rw [cutV_take, ← List.map_take]
    have hcut2 : cutV (rowV g) (some ((i : Int) + 1)) none = rowV (g.drop (i + 1)) := by
      rw [show ((i : Int) + 1) = ((i + 1 : Nat) : Int) by omega, cutV_hi (by rw [List.length_map]; omega), ← List.map_drop]
    refine ⟨fun σ H4 => ∃ q, σ = [some (.ref r), some (.ref l), some (.int (i : Nat)), some (.int (j : Nat)), some (.ref D_), v5, v6, some (.ref q), none, none, none] ∧ H4 l = some (.lst (rowV g)) ∧ Tabs T H4 ∧ H4 q = some (.lst (rowV (g.take i ++ [row ++ [46]] ++ g.drop (i + 1)))), ?_, ?_⟩
    · refine ⟨_, rfl, _, rfl, _, rfl, l, _, rfl, SqL.of L3, fun p1 hp1 => ?_⟩
      rw [hcut1]
      have s1 := TA.same_new (o := .lst (rowV (g.take i))) hp1
      have P1 : upd H3 p1 (.lst (rowV (g.take i))) p1 = some (.lst (rowV (g.take i))) := upd_same
      refine ⟨_, rfl, _, rfl, l, _, _, _, rfl, rfl, SqL.of (s1 _ _ L3), atI_nat hrv, _, _, rfl, rfl, ?_, by show 1 ≤ sizeLine; decide, fun p2 hp2 => ?_⟩
      · rw [S_len]
        show _ + 1 ≤ 16777216
        omega
      have e46 : S row ++ Str.ofString "." = S (row ++ [46]) := by
        show Str.mk (row.toArray ++ #[46]) = _
        simp
      rw [e46]
      have s2 := TA.same_new (o := .lst [V.str (S (row ++ [46]))]) hp2
      refine ⟨p1, p2, _, _, rfl, rfl, s2 _ _ P1, upd_same, ?_, fun p3 hp3 => ?_⟩
      · rw [List.length_map, List.length_take]
        show _ + 1 ≤ 16777216
        omega
      have s3 := TA.same_new (o := .lst (rowV (g.take i) ++ [V.str (S (row ++ [46]))])) hp3
      refine ⟨_, rfl, _, rfl, _, _, rfl, rfl, _, rfl, l, _, rfl, SqL.of (s3 _ _ (s2 _ _ (s1 _ _ L3))), fun p4 hp4 => ?_⟩
      rw [hcut2]
      have s4 := TA.same_new (o := .lst (rowV (g.drop (i + 1)))) hp4
      refine ⟨p3, p4, _, _, rfl, rfl, s4 _ _ upd_same, upd_same, ?_, fun q hq => ?_⟩
      · rw [List.length_append, List.length_map, List.length_map, List.length_take, List.length_drop]
        show _ + 1 + _ ≤ 16777216
        omega
      have s5 := (((s1.trans s2).trans s3).trans s4).trans (TA.same_new (o := .lst (rowV (g.take i) ++ [V.str (S (row ++ [46]))] ++ rowV (g.drop (i + 1)))) hq)
      refine ⟨q, rfl, s5 _ _ L3, T3.ext s5, ?_⟩
      rw [upd_same]
      simp [rowV]
    rintro σ H4 ⟨q, rfl, L4, T4, Q4⟩
    clear L3 T3 H3
    have hfl : 1 < h → ∃ p : Nat × Nat, fwc ((g.take i ++ [row ++ [46]] ++ g.drop (i + 1)).map some) = some p ∧ (p = (0, 0) ∨ p = if 0 < i then (i, 0) else (1, 0)) := fun h2 => fwc_long hV hrow h2
    -- the due words
    refine ⟨fun σ H5 => ∃ e d, σ = [some (.ref r), some (.ref l), some (.int (i : Nat)), some (.int (j : Nat)), some (.ref D_), v5, v6, some (.ref q), some (.ref e), none, none] ∧ H5 l = some (.lst (rowV g)) ∧ Tabs T H5 ∧ H5 q = some (.lst (rowV (g.take i ++ [row ++ [46]] ++ g.drop (i + 1)))) ∧
      H5 e = some (.tup [.str "tray", .int (d : Nat), .int (0 : Nat)]) ∧ (d, 0) = if 0 < i then (i, 0) else (1, 0), ?_, ?_⟩
    · refine ⟨_, rfl, _, _, rfl, rfl, _, rfl, ?_⟩
      by_cases h0 : 0 < i
      · rw [decide_eq_true (by omega)]
        refine iteT ⟨_, rfl, by show 3 ≤ sizeLine; decide, fun e he => ?_⟩
        have s1 := TA.same_new (o := .tup [V.str "tray", V.int (i : Nat), V.int (0 : Nat)]) he
        exact ⟨e, i, rfl, s1 _ _ L4, T4.ext s1, s1 _ _ Q4, upd_same, by rw [if_pos h0]⟩
      · rw [decide_eq_false (by omega)]
        refine iteF ⟨by show 3 ≤ sizeLine; decide, fun e he => ?_⟩
        have s1 := TA.same_new (o := .tup [V.str "tray", V.int (1 : Nat), V.int (0 : Nat)]) he
        exact ⟨e, 1, rfl, s1 _ _ L4, T4.ext s1, s1 _ _ Q4, upd_same, by rw [if_neg h0]⟩
    rintro σ H5 ⟨e, d, rfl, L5, T5, Q5, E5, hd⟩
    clear L4 T4 Q4 H4
    rw [← hd] at hfl
    refine ⟨fun σ H6 => σ = [some (.ref r), some (.ref l), some (.int (i : Nat)), some (.int (j : Nat)), some (.ref D_), v5, v6, some (.ref q), some (.ref e), none, none] ∧ Tabs T H6, ?_, ?_⟩
    · refine ⟨_, rfl, l, _, rfl, .inl (SqL.of L5), _, _, rfl, rfl, _, rfl, ?_⟩
      rw [List.length_map]
      by_cases h1 : 1 < h
      · rw [decide_eq_true (by omega)]
        refine iteT ⟨T5, fun H7 e7 T7 => ?_⟩
        obtain ⟨⟨a1, b1⟩, hfb, hp⟩ := hfl h1
        have Q7 := lst_extN Q5 e7
        have hG8 : (g.take i ++ [row ++ [46]] ++ g.drop (i + 1)).length ≤ 8 := by
          simp
          omega
        have hGr : ∀ z ∈ g.take i ++ [row ++ [46]] ++ g.drop (i + 1), z.length ≤ 9 ∧ 10 ∉ z := by
          intro z hz
          rcases List.mem_append.mp hz with hz | hz
          · rcases List.mem_append.mp hz with hz | hz
            · have := hV.row (take_mem hz)
              exact ⟨by omega, lf_not hV z (take_mem hz)⟩
            · obtain rfl : z = row ++ [46] := by simpa using hz
              refine ⟨by simp; omega, fun hz => ?_⟩
              rcases List.mem_append.mp hz with hz | hz
              · exact lf_not hV row (List.mem_of_getElem? hrow) hz
              · simp at hz
          · have := hV.row (List.mem_of_mem_drop hz)
            exact ⟨by omega, lf_not hV z (List.mem_of_mem_drop hz)⟩
        have hGne : g.take i ++ [row ++ [46]] ++ g.drop (i + 1) ≠ [] := by simp
        generalize g.take i ++ [row ++ [46]] ++ g.drop (i + 1) = G at hfb hG8 hGr hGne Q7
        refine ⟨rfl, ⟨_, rfl⟩, _, rfl, _, q, G.map S, rfl, rfl, .inl ?_, ?_, G, ?_, hGne, by omega, fun z hz => ⟨Nat.le_trans (hGr z hz).1 (by decide), (hGr z hz).2⟩, (fun z => by rw [hfb] at z; cases z), fun a b hf H8 dd s8 hx8 => ?_⟩
        · rw [List.map_map]
          exact SqL.of Q7
        · have h1 := row_sum 9 G fun z hz => (hGr z hz).1
          rw [List.length_map]
          show _ + G.length * 1 ≤ _
          omega
        · show [V.ref D, V.str (Txt.join (S [10]) (G.map S))] = _
          rw [join_S]
        rw [hfb] at hf
        cases hf
        refine ⟨1, _, [.str "tray", .int (a1 : Nat), .int (b1 : Nat)], by decide, rfl, (fun d2 z => by cases z; exact hx8), (fun _ z => nomatch z), rfl, fun H9 q1 s9 hq1 => ?_⟩
        refine ⟨_, rfl, by show 3 ≤ sizeLine; decide, fun q2 hq2 => ⟨by show 2 ≤ sizeLine; decide, fun q3 hq3 => ?_⟩⟩
        have e79 := (e7.trans (extN_same s8)).trans (extN_same (show Same H8 H9 from s9))
        have E9 := tup_extN E5 e79
        have s10 := TA.same_new (o := .tup [V.str "tray", V.int (0 : Nat), V.int (0 : Nat)]) hq2
        have N10 : upd H9 q2 (.tup [V.str "tray", V.int (0 : Nat), V.int (0 : Nat)]) q2 = some (.tup [V.str "tray", V.int (0 : Nat), V.int (0 : Nat)]) := upd_same
        have s11 := TA.same_new (o := .tup [V.ref e, V.ref q2]) hq3
        refine ⟨_, [trD d 0, trD 0 0], tr_dp (s11 _ _ (s10 _ _ hq1)), .tup (SqT.of upd_same) (.cons (tr_dp (s11 _ _ (s10 _ _ E9))) (.cons (tr_dp (s11 _ _ N10)) .nil)), tr_shaped _ _, pair_shaped _ _ _ _, _, rfl, ?_⟩
        have hany : ([trD d 0, trD 0 0].any fun z => PyData.eqv z (trD a1 b1)) = true := by
          rcases hp with hp | hp
          · cases hp
            simp [tr_eqv]
          · cases hp
            simp [tr_eqv]
        rw [hany]
        exact iteF ⟨rfl, (((T7.ext s8).ext s9).ext s10).ext s11⟩
      · rw [decide_eq_false (by omega)]
        exact iteF ⟨rfl, T5⟩
    rintro σ H6 ⟨rfl, T6⟩
    clear L5 T5 Q5 E5 H5
    -- nine rows
    refine ⟨fun σ H7 => σ = [some (.ref r), some (.ref l), some (.int (i : Nat)), some (.int (j : Nat)), some (.ref D_), v5, v6, some (.ref q), some (.ref e), none, none] ∧ Tabs T H7, ?_, ?_⟩
    · refine ⟨T6, fun H7 e7 T7 => ?_⟩
      refine ⟨rfl, ⟨_, rfl⟩, by show 1 ≤ sizeLine; decide, fun p hp => ⟨p, 9, _, rfl, rfl, upd_same, by decide, by decide, by show 1 * 9 ≤ 16777216; decide, fun p2 hp2 => ?_⟩⟩
      have s1 := TA.same_new (o := .lst [V.str "."]) hp
      have s2 := TA.same_new (o := .lst (List.replicate (9 : Int).toNat [V.str "."]).flatten) hp2
      refine ⟨_, p2, (List.replicate 9 [46]).map S, rfl, rfl, .inl (SqL.of upd_same), by show _ ≤ 16777216; decide, List.replicate 9 [46], ?_, by decide, by decide, fun z hz => ?_, (fun z => by rw [fwc_nine] at z; cases z), fun a b hf H8 dd s8 hx8 => ?_⟩
      · show [V.ref D, V.str (Txt.join (S [10]) ((List.replicate 9 [46]).map S))] = _
        rw [join_S]
      · obtain rfl := (List.mem_replicate.mp hz).2
        exact ⟨by decide, by decide⟩
      rw [fwc_nine] at hf
      cases hf
      refine ⟨1, _, [.str "tray", .int (8 : Nat), .int (0 : Nat)], by decide, rfl, (fun d2 z => by cases z; exact hx8), (fun _ z => nomatch z), rfl, fun H9 q1 s9 hq1 => ?_⟩
      refine ⟨by show 3 ≤ sizeLine; decide, fun q2 hq2 => ?_⟩
      have s10 := TA.same_new (o := .tup [V.str "tray", V.int (8 : Nat), V.int (0 : Nat)]) hq2
      refine ⟨_, trD 8 0, tr_dp (s10 _ _ hq1), tr_dp upd_same, tr_shaped _ _, tr_shaped _ _, _, rfl, ?_⟩
      rw [tr_eqv]
      exact iteF ⟨rfl, ((((T7.ext s1).ext s2).ext s8).ext s9).ext s10⟩
    rintro σ H7 ⟨rfl, T7⟩
    clear T6 H6 hfl hd
    -- four works
    refine ⟨T7, fun Ha f1 c1 ea Ta hf1 hc1 => ⟨by show 1 ≤ sizeLine; decide, fun p hp => ?_⟩⟩
    have s1 := TA.same_new (o := .lst [V.ref f1]) hp
    have P1 : upd Ha p (.lst [V.ref f1]) p = some (.lst [V.ref f1]) := upd_same
    replace hf1 := s1 _ _ hf1
    replace hc1 := s1 _ _ hc1
    replace Ta := Ta.ext s1
    generalize upd Ha p (.lst [V.ref f1]) = H1 at P1 hf1 hc1 Ta
    refine ⟨_, rfl, .inl ⟨rfl, _, SqL.of P1⟩, Ta, fun Hb f2 c2 eb Tb hf2 hc2 => ?_⟩
    replace P1 := lst_extN P1 eb
    replace hf1 := ext_extN hf1 eb
    replace hc1 := code_extN hc1 eb
    refine ⟨p, _, _, rfl, rfl, P1, by show 1 < sizeLine; decide, ?_⟩
    replace hf1 := put_keep (o' := .lst ([V.ref f1] ++ [V.ref f2])) hf1 P1 lamO_nl
    replace hc1 := put_keep (o' := .lst ([V.ref f1] ++ [V.ref f2])) hc1 P1 codeO_nl
    replace hf2 := put_keep (o' := .lst ([V.ref f1] ++ [V.ref f2])) hf2 P1 lamO_nl
    replace hc2 := put_keep (o' := .lst ([V.ref f1] ++ [V.ref f2])) hc2 P1 codeO_nl
    replace Tb : Tabs T (upd Hb p (.lst ([V.ref f1] ++ [V.ref f2]))) := tabs_but Tb P1 (fun b o e hb => by rw [upd_ne hb]; exact e)
    have P2 : upd Hb p (.lst ([V.ref f1] ++ [V.ref f2])) p = some (.lst [V.ref f1, V.ref f2]) := upd_same
    generalize upd Hb p (.lst ([V.ref f1] ++ [V.ref f2])) = H2 at P2 hf1 hc1 hf2 hc2 Tb
    refine ⟨_, rfl, .inl ⟨rfl, _, SqL.of P2⟩, Tb, fun Hc f3 c3 ec Tc hf3 hc3 => ?_⟩
    replace P2 := lst_extN P2 ec
    replace hf1 := ext_extN hf1 ec
    replace hc1 := code_extN hc1 ec
    replace hf2 := ext_extN hf2 ec
    replace hc2 := code_extN hc2 ec
    refine ⟨p, _, _, rfl, rfl, P2, by show 2 < sizeLine; decide, ?_⟩
    replace hf1 := put_keep (o' := .lst ([V.ref f1, V.ref f2] ++ [V.ref f3])) hf1 P2 lamO_nl
    replace hc1 := put_keep (o' := .lst ([V.ref f1, V.ref f2] ++ [V.ref f3])) hc1 P2 codeO_nl
    replace hf2 := put_keep (o' := .lst ([V.ref f1, V.ref f2] ++ [V.ref f3])) hf2 P2 lamO_nl
    replace hc2 := put_keep (o' := .lst ([V.ref f1, V.ref f2] ++ [V.ref f3])) hc2 P2 codeO_nl
    replace hf3 := put_keep (o' := .lst ([V.ref f1, V.ref f2] ++ [V.ref f3])) hf3 P2 lamO_nl
    replace hc3 := put_keep (o' := .lst ([V.ref f1, V.ref f2] ++ [V.ref f3])) hc3 P2 codeO_nl
    replace Tc : Tabs T (upd Hc p (.lst ([V.ref f1, V.ref f2] ++ [V.ref f3]))) := tabs_but Tc P2 (fun b o e hb => by rw [upd_ne hb]; exact e)
    have P3 : upd Hc p (.lst ([V.ref f1, V.ref f2] ++ [V.ref f3])) p = some (.lst [V.ref f1, V.ref f2, V.ref f3]) := upd_same
    generalize upd Hc p (.lst ([V.ref f1, V.ref f2] ++ [V.ref f3])) = H3 at P3 hf1 hc1 hf2 hc2 hf3 hc3 Tc
    refine ⟨_, rfl, .inl ⟨rfl, _, SqL.of P3⟩, Tc, fun Hd f4 c4 ed Td hf4 hc4 => ?_⟩
    replace P3 := lst_extN P3 ed
    replace hf1 := ext_extN hf1 ed
    replace hc1 := code_extN hc1 ed
    replace hf2 := ext_extN hf2 ed
    replace hc2 := code_extN hc2 ed
    replace hf3 := ext_extN hf3 ed
    replace hc3 := code_extN hc3 ed
    refine ⟨p, _, _, rfl, rfl, P3, by show 3 < sizeLine; decide, ?_⟩
    replace hf1 := put_keep (o' := .lst ([V.ref f1, V.ref f2, V.ref f3] ++ [V.ref f4])) hf1 P3 lamO_nl
    replace hc1 := put_keep (o' := .lst ([V.ref f1, V.ref f2, V.ref f3] ++ [V.ref f4])) hc1 P3 codeO_nl
    replace hf2 := put_keep (o' := .lst ([V.ref f1, V.ref f2, V.ref f3] ++ [V.ref f4])) hf2 P3 lamO_nl
    replace hc2 := put_keep (o' := .lst ([V.ref f1, V.ref f2, V.ref f3] ++ [V.ref f4])) hc2 P3 codeO_nl
    replace hf3 := put_keep (o' := .lst ([V.ref f1, V.ref f2, V.ref f3] ++ [V.ref f4])) hf3 P3 lamO_nl
    replace hc3 := put_keep (o' := .lst ([V.ref f1, V.ref f2, V.ref f3] ++ [V.ref f4])) hc3 P3 codeO_nl
    replace hf4 := put_keep (o' := .lst ([V.ref f1, V.ref f2, V.ref f3] ++ [V.ref f4])) hf4 P3 lamO_nl
    replace hc4 := put_keep (o' := .lst ([V.ref f1, V.ref f2, V.ref f3] ++ [V.ref f4])) hc4 P3 codeO_nl
    have P4 : upd Hd p (.lst ([V.ref f1, V.ref f2, V.ref f3] ++ [V.ref f4])) p = some (.lst [V.ref f1, V.ref f2, V.ref f3, V.ref f4]) := upd_same
    generalize upd Hd p (.lst ([V.ref f1, V.ref f2, V.ref f3] ++ [V.ref f4])) = H4 at P4 hf1 hc1 hf2 hc2 hf3 hc3 hf4 hc4
    refine ⟨_, rfl, p, rfl, ⟨_, SqL.of P4⟩, fun E2 hE2 => lc_list (K := K) (a := p) (xs := [V.ref f1, V.ref f2, V.ref f3, V.ref f4]) (fun n H5 => Same H4 H5 ∧ H5 E2 = some (.lst [])) ⟨TA.same_new hE2, upd_same⟩ (fun n H5 _ ⟨sm, _⟩ => SqL.of (sm _ _ P4)) ?_ ?_⟩
    · rintro n x H5 hx ⟨sm, hE⟩
      match n with
      | 0 =>
        cases hx
        refine ⟨rfl, _, rfl, f1, c1, _, _, _, _, fun E => StX.tMakeR D (spTis K D (ce 1)) E tNil, rfl, ?_, sm _ _ hf1, sm _ _ hc1, sm _ _ hf1, ?_⟩
        · exact ⟨lam0S_by (by decide +kernel), fun _ _ _ => rfl, fun A outer s H E f c' hr' => pe_makeR0 MI GI (hr'.mono (by decide)) rfl CT.mgC (passX (takes_of rfl rfl rfl rfl))⟩
        dsimp only [StX.tMakeR, tNil, tCons, tC]
        refine mk_trayN (vs := []) (rs := []) (i := 0) (j := 0) rfl (by decide) (fun i x r h1 _ => by simp at h1) rfl fun H6 dd s6 hx6 => ?_
        refine ⟨1, _, [.str "tray", .int (0 : Nat), .int (0 : Nat)], by decide, rfl, (fun d2 z => by cases z; exact hx6), (fun _ z => nomatch z), rfl, fun H7 q1 s7 hq1 => ?_⟩
        refine ⟨by show 3 ≤ sizeLine; decide, fun q2 hq2 => ?_⟩
        have s8 := TA.same_new (o := .tup [V.str "tray", V.int (0 : Nat), V.int (0 : Nat)]) hq2
        refine ⟨_, trD 0 0, tr_dp (s8 _ _ hq1), tr_dp upd_same, tr_shaped _ _, tr_shaped _ _, _, rfl, ?_⟩
        rw [tr_eqv]
        exact iteF ⟨((sm.trans s6).trans s7).trans s8, s8 _ _ (s7 _ _ (s6 _ _ hE))⟩
      | 1 =>
        cases hx
        refine ⟨rfl, _, rfl, f2, c2, _, _, _, _, fun E => StX.tMakeR D (spTis K D (ce 1)) E (tCons (tC (.str ".........")) tNil), rfl, ?_, sm _ _ hf2, sm _ _ hc2, sm _ _ hf2, ?_⟩
        · exact ⟨lam0S_by (by decide +kernel), fun _ _ _ => rfl, fun A outer s H E f c' hr' => StX.pe_makeR MI GI (hr'.mono (by decide)) rfl CT.mgC (passX (takes_of rfl rfl rfl rfl)) (pa_cons pe_str pa_nil)⟩
        dsimp only [StX.tMakeR, tNil, tCons, tC]
        refine mk_trayN (vs := [V.str "........."]) (rs := [some (List.replicate 9 46)]) (i := 0) (j := 0) rfl (by decide) (fun i x r h1 h2 => by match i with | 0 => cases h1; cases h2; exact .txt (List.replicate 9 46) (by decide) | i + 1 => simp at h1) rfl fun H6 dd s6 hx6 => ?_
        refine ⟨1, _, [.str "tray", .int (0 : Nat), .int (0 : Nat)], by decide, rfl, (fun d2 z => by cases z; exact hx6), (fun _ z => nomatch z), rfl, fun H7 q1 s7 hq1 => ?_⟩
        refine ⟨by show 3 ≤ sizeLine; decide, fun q2 hq2 => ?_⟩
        have s8 := TA.same_new (o := .tup [V.str "tray", V.int (0 : Nat), V.int (0 : Nat)]) hq2
        refine ⟨_, trD 0 0, tr_dp (s8 _ _ hq1), tr_dp upd_same, tr_shaped _ _, tr_shaped _ _, _, rfl, ?_⟩
        rw [tr_eqv]
        exact iteF ⟨((sm.trans s6).trans s7).trans s8, s8 _ _ (s7 _ _ (s6 _ _ hE))⟩
      | 2 =>
        cases hx
        refine ⟨rfl, _, rfl, f3, c3, _, _, _, _, fun E => StX.tMakeR D (spTis K D (ce 1)) E (tCons (tC (.str "")) tNil), rfl, ?_, sm _ _ hf3, sm _ _ hc3, sm _ _ hf3, ?_⟩
        · exact ⟨lam0S_by (by decide +kernel), fun _ _ _ => rfl, fun A outer s H E f c' hr' => StX.pe_makeR MI GI (hr'.mono (by decide)) rfl CT.mgC (passX (takes_of rfl rfl rfl rfl)) (pa_cons pe_str pa_nil)⟩
        dsimp only [StX.tMakeR, tNil, tCons, tC]
        refine mk_trayN (vs := [V.str ""]) (rs := [some []]) (i := 0) (j := 0) rfl (by decide) (fun i x r h1 h2 => by match i with | 0 => cases h1; cases h2; exact .txt [] (by decide) | i + 1 => simp at h1) rfl fun H6 dd s6 hx6 => ?_
        refine ⟨1, _, [.str "tray", .int (0 : Nat), .int (0 : Nat)], by decide, rfl, (fun d2 z => by cases z; exact hx6), (fun _ z => nomatch z), rfl, fun H7 q1 s7 hq1 => ?_⟩
        refine ⟨by show 3 ≤ sizeLine; decide, fun q2 hq2 => ?_⟩
        have s8 := TA.same_new (o := .tup [V.str "tray", V.int (0 : Nat), V.int (0 : Nat)]) hq2
        refine ⟨_, trD 0 0, tr_dp (s8 _ _ hq1), tr_dp upd_same, tr_shaped _ _, tr_shaped _ _, _, rfl, ?_⟩
        rw [tr_eqv]
        exact iteF ⟨((sm.trans s6).trans s7).trans s8, s8 _ _ (s7 _ _ (s6 _ _ hE))⟩
      | 3 =>
        cases hx
        refine ⟨rfl, _, rfl, f4, c4, _, _, _, _, fun E => StX.tMakeR D (spTis K D (ce 1)) E (tCons (tC (.int 5)) tNil), rfl, ?_, sm _ _ hf4, sm _ _ hc4, sm _ _ hf4, ?_⟩
        · exact ⟨lam0S_by (by decide +kernel), fun _ _ _ => rfl, fun A outer s H E f c' hr' => StX.pe_makeR MI GI (hr'.mono (by decide)) rfl CT.mgC (passX (takes_of rfl rfl rfl rfl)) (pa_cons pe_int pa_nil)⟩
        dsimp only [StX.tMakeR, tNil, tCons, tC]
        refine mk_trayN (vs := [V.int 5]) (rs := [none]) (i := 0) (j := 0) rfl (by decide) (fun i x r h1 h2 => by match i with | 0 => cases h1; cases h2; exact .no fun H => no_int5 H | i + 1 => simp at h1) rfl fun H6 dd s6 hx6 => ?_
        refine ⟨1, _, [.str "tray", .int (0 : Nat), .int (0 : Nat)], by decide, rfl, (fun d2 z => by cases z; exact hx6), (fun _ z => nomatch z), rfl, fun H7 q1 s7 hq1 => ?_⟩
        refine ⟨by show 3 ≤ sizeLine; decide, fun q2 hq2 => ?_⟩
        have s8 := TA.same_new (o := .tup [V.str "tray", V.int (0 : Nat), V.int (0 : Nat)]) hq2
        refine ⟨_, trD 0 0, tr_dp (s8 _ _ hq1), tr_dp upd_same, tr_shaped _ _, tr_shaped _ _, _, rfl, ?_⟩
        rw [tr_eqv]
        exact iteF ⟨((sm.trans s6).trans s7).trans s8, s8 _ _ (s7 _ _ (s6 _ _ hE))⟩
      | n + 4 => simp at hx
    · rintro H5 ⟨sm, hE⟩
      refine ⟨by show 0 ≤ sizeLine; decide, fun q9 hq9 => ?_⟩
      exact ⟨.list [], .list [], .lst (SqL.of (TA.same_new hq9 _ _ hE)) .nil, .lst (SqL.of upd_same) .nil, by decide +kernel, by decide +kernel, k _⟩
end
end TP
end
section
set_option Elab.async false
set_option maxRecDepth 100000
set_option linter.all false
namespace TP
open PySem PySem.Spec PyProof.Rows L2 LamX TX TK TA TM TB TH
def tCallOK (C : Addr) (sp : Sp) (E : XK) (tf : TE) (t : TA) : TE := fun σ H Q => tf σ H fun y H1 => ∃ a, y = V.ref a ∧ t σ H1 fun vs H2 => (∃ dx fs, H2 a = some (HO.ins C dx fs)) ∧ sp (V.ref a :: vs) H2 Q E
theorem pe_callOK {X : Cx} {CX : CXT} {k : Nat} {C : Addr} {sp : Sp} {E : XK} {e fe : Expr} {es : List Expr} {tf : TE} {t : TA} {pos : Pos} {g : Addr} (hf : PE X fe tf) (c : StX.CallO X.K C g) (F : FnR X.prog X.w X.K X.mg X.base CX k g sp) (hr : Room k X.A) (hx : Passes CX X E) (ha : PA X (e :: es) t)
    (ht : eval (.Call fe (e :: es) [] pos) X.env = (do callWith pos (← eval fe X.env) [] (backTo pos (starEach (e :: es) X.env)) (backToKw pos (keywordEach [] X.env))) := by rfl)
    (he : starEach (e :: es) X.env = (false, eval e X.env) :: starEach es X.env := by rfl) (hpl : (backTo pos (starEach es X.env)).any (·.1) = false := by rfl) : PE X (.Call fe (e :: es) [] pos) (tCallOK C sp E tf t) := by
  refine ⟨fun pins s σ H Q I h => ?_⟩
  refine Call_ (thn (hf.run pins s σ H _ I h) fun u s1 ⟨y, H1, I1, ry, a, ey, q⟩ => ?_) ht
  subst ey
  obtain rfl : u = Value.ref a := ry
  refine StX.callO_with (thn (ha.run pos pins s1 σ H1 _ I1 q) fun us s2 ⟨vs, H2, I2, r, hi, q2⟩ => ?_) he hpl
  obtain ⟨ox, od, J, hd⟩ := StX.insC_at I2 (.inr hi)
  exact ⟨⟨C, ox, od, J, hd⟩, StX.run_callO c F hr hx I2 (.inr hi) r q2⟩
def rCmpTup (C : Addr) (sp : Sp) (E : XK) : R2 := fun x y H Q => ∃ a dx fs q xs, x = .ref a ∧ H a = some (.ins C dx fs) ∧ y = .ref q ∧ H q = some (.tup xs) ∧ sp [x, y] H Q E
theorem op_cmpTup {X : Cx} {CX : CXT} {n : Nat} {C g : Addr} {sp : Sp} {E : XK} {op : CmpOp} (hop : ∀ a b, compareOp op a b = richCompare op a b) (hs : PySem.W.findIn X.K (.ref C) (cmpInfo op).2.1 = some (some (.ref g))) (hf : PySem.W.isFn X.K (.ref g) = true) (F : FnR X.prog X.w X.K X.mg X.base CX n g sp)
    (hn : PySem.W.notFirst X.K C (.type "tuple") = true) (hr : Room n X.A) (hx : Passes CX X E) : OpR X (compareOp op) (rCmpTup C sp E) := by
  intro pins s σ H x y v u Q I rx ry h
  obtain ⟨a, dx, fs, q, xs, rfl, ha, rfl, hq, qq⟩ := h
  cases (show v = Value.ref a from rx)
  cases (show u = Value.ref q from ry)
  obtain ⟨mA, O, _⟩ := ins_get I.hok ha
  obtain ⟨od, J, _⟩ := O.look
  obtain ⟨m, hF⟩ := I.fr
  obtain ⟨_, its, _, ob, hob, hcl, _⟩ := I.hok q _ hq
  have hl : PySem.W.Looks (model X.prog X.w) s.heap (typeOf (.ref q)) (.type "tuple") := by
    have z : PySem.W.Looks (model X.prog X.w) s.heap (typeOf (.ref q)) ob.cls := (PySem.W.Looks.ld hob).andThen .now
    rw [hcl] at z
    exact z
  rw [hop]
  refine PySem.W.cmp_K (op := op) (tb := .type "tuple") hr.units0 hF I.ok.mod.kin J hl hn hs hf ?_
  refine wpAny_mono (wpAny_call (run_fnR (us := [.ref a, .ref q]) (vs := [.ref a, .ref q]) F hr hx I (.cons rfl (.cons rfl .nil)) qq)) (fun w s' z => ?_) fun _ _ x => x
  obtain ⟨z', H', I', rz, qz⟩ := z
  exact SlX.cmpback rz ⟨z', H', I', rz, qz⟩
end TP
end
section
set_option Elab.async false
set_option maxRecDepth 100000
set_option linter.all false
namespace TP
open PySem PySem.Spec PyProof.Rows L2 LamX TX TK TA TM TB TH
abbrev NLw3 : List Str := ["_law_script", "_law_row", "_law_rows_here", "_law_others", "_law_tray", "_law_names", "_law_cell", "_law_sides", "_law_r", "_law_c", "_law_due", "_law_bad", "_law_sign"]
theorem scLw3 : FnScope NLw3 ["_law_script"] (defScope sLaw) := ⟨rfl, rfl, rfl, by decide +kernel, rfl, by decide +kernel, by decide +kernel⟩
/-- what the law uses -/
structure LawF3 (P : Program) (w : World) (K : PySem.W.Frag) (mg : Str → Option Value) (base : Heap) (D : Addr) (ce : Nat → Addr) (cT : Addr) (T : List (Addr × Str)) (cL PL : Addr) : Prop where
  txt : TxtW K mg
  al : TxtA K mg
  srt : mg "sorted" = none
  told : ToldF P w K mg base D ce cT T
  tab : TabF base mg T "law.<locals>.<lambda>" cL PL
  fRw : ∃ g fd, (∀ a ns, FnOk P w K mg base CX0 2 g fd ["_law_row", "_law_most"] (spRw K a ns)) ∧ PySem.W.keepIn K (.ref g) = true ∧ Binds K fd ["_law_row", "_law_most"] [] ∧ mg "_law_rows" = some (.ref g)
  fRj : ∃ g fd, (∀ a ns, FnOk P w K mg base CX0 8 g fd ["_law_row", "_law_rows_here"] (spRj K a ns T)) ∧ PySem.W.keepIn K (.ref g) = true ∧ Binds K fd ["_law_row", "_law_rows_here"] [] ∧ mg "_law_are_rejected" = some (.ref g)
  fAl : ∃ g fd, FnOk P w K mg base CX0 3 g fd ["_law_one", "_law_due"] (spAl K 2) ∧ PySem.W.keepIn K (.ref g) = true ∧ Binds K fd ["_law_one", "_law_due"] [] ∧ mg "_law_alike" = some (.ref g)
  pRo : ∃ p g fd, PropOf K D "rows" p g ∧ FnOk P w K mg base CX0 1 g fd ["self"] (getSp D "_rows") ∧ Binds K fd ["self"] []
  pMb : ∃ p g fd, PropOf K D "marbles" p g ∧ FnOk P w K mg base CX0 1 g fd ["self"] (spMb K D) ∧ Binds K fd ["self"] []
  pHt : ∃ p g fd, PropOf K D "height" p g ∧ FnOk P w K mg base CX0 1 g fd ["self"] (spHt K D) ∧ Binds K fd ["self"] []
  pWd : ∃ p g fd, PropOf K D "width" p g ∧ FnOk P w K mg base CX0 1 g fd ["self"] (spWd K D) ∧ Binds K fd ["self"] []
  mAt : ∃ g fd, Meth K D "at" g ∧ FnOk P w K mg base (L2.CX P w) 4 g fd ["self", "place"] (spAt K D (ce 3)) ∧ Binds K fd ["self", "place"] []
  cCl : ∃ g, StX.CallO K D g ∧ FnR P w K mg base (L2.CX P w) 4 g (spCl K D (ce 2))
  cCo : ∃ g, PySem.W.findIn K (.ref D) "__contains__" = some (some (.ref g)) ∧ PySem.W.isFn K (.ref g) = true ∧ FnR P w K mg base CX0 3 g (spTc K D)
  cEq : ∃ g, PySem.W.findIn K (.ref D) "__eq__" = some (some (.ref g)) ∧ PySem.W.isFn K (.ref g) = true ∧ FnR P w K mg base CX0 1 g (spTq K D)
  nf : PySem.W.notFirst K D (.type "tuple") = true
def St3 (K : PySem.W.Frag) (D : Addr) (T : List (Addr × Str)) (a : Addr) (ns : List Int) (r l m p : Addr) (g g' : Grid) (H : Hp) : Prop := H l = some (.lst (rowV g)) ∧ H m = some (.lst (rowV g')) ∧ TrayAt K D H p g ∧ RowAt K a ns H r ∧ Tabs T H
theorem sqt_extN {K : PySem.W.Frag} {H H' : Hp} {a : Addr} {xs : List V} (h : SqT K H a xs) (e : ExtN H H') : SqT K H' a xs := by
  rcases h with (h | ⟨o, h⟩) | h
  · exact .inl (.inl (e _ _ h fun ps z => by cases z))
  · exact .inl (.inr ⟨o, e _ _ h fun ps z => by cases z⟩)
  · exact .inr h
theorem tray_extN {K : PySem.W.Frag} {D p : Addr} {H H' : Hp} {g : Grid} (h : TrayAt K D H p g) (e : ExtN H H') : TrayAt K D H' p g := by
  obtain ⟨dx, a, h, t⟩ := h
  exact ⟨dx, a, e _ _ h fun ps z => (by cases z), sqt_extN t e⟩
section
variable {K : PySem.W.Frag} {D a r l m p : Addr} {T : List (Addr × Str)} {ns : List Int} {g g' : Grid} {H H' : Hp}
theorem St3.same (h : St3 K D T a ns r l m p g g' H) (s : Same H H') : St3 K D T a ns r l m p g g' H' := ⟨s _ _ h.1, s _ _ h.2.1, h.2.2.1.same s, h.2.2.2.1.same s, h.2.2.2.2.ext s⟩
theorem St3.extN (h : St3 K D T a ns r l m p g g' H) (e : ExtN H H') (t : Tabs T H') : St3 K D T a ns r l m p g g' H' := ⟨lst_extN h.1 e, lst_extN h.2.1 e, tray_extN h.2.2.1 e, row_extN h.2.2.2.1 e, t⟩
theorem row_apart {h w : Nat} (_hV : VG h w g) (hl : H l = some (.lst (rowV g))) (R : RowAt K a ns H r) : l ≠ r := fun z => by
  obtain ⟨_, _, _, e, _⟩ := R
  rw [z, e] at hl
  have z2 := congrArg (fun o => match o with | some (HO.lst (V.ref _ :: _)) => true | _ => false) hl
  cases g with
  | nil => cases z2
  | cons x G => cases z2
end
section
variable {P : Program} {w_ : World} {K : PySem.W.Frag} {mg : Str → Option Value} {base : Heap} {D cT cL PL : Addr} {ce : Nat → Addr} {T : List (Addr × Str)}
def spLaw3 (K : PySem.W.Frag) (T : List (Addr × Str)) : Sp := fun vs H Q _ => ∃ (a : Addr) (ns : List Int), vs = [.ref a] ∧ SqL K H a (ns.map V.int) ∧ Tabs T H ∧ ∀ H', Q (.bl true) H'
theorem ok_law3 {f : Addr} {oc kV doc pm ct : Value} {od an : Option Addr} {osl : Array (Option Value)} (lk : K.lookup f = some ⟨oc, od, .func (PySem.W.fnOf "law" "law" (defArgs sLaw) (defBody sLaw) (defScope sLaw) .none kV doc pm an (.ref cL) ct), osl⟩) (hcd : PySem.W.codeIn K (.ref cL) "law" = true)
    (L : LawF3 P w_ K mg base D ce cT T cL PL) :
    FnOk P w_ K mg base CX0 9 f (PySem.W.fnOf "law" "law" (defArgs sLaw) (defBody sLaw) (defScope sLaw) .none kV doc pm an (.ref cL) ct) ["_law_script"] (spLaw3 K T) := by
  have O := L.told
  have U := L.tab
  have T_ := L.txt
  obtain ⟨mc, pO, gO, CR_, CM, GO⟩ := O.ot
  obtain ⟨gR, fdR, FR, bR, mR⟩ := O.fR
  have CT := O.ct
  obtain ⟨gRw, fdRw, GRw, kRw, bRw, mRw⟩ := L.fRw
  obtain ⟨gRj, fdRj, GRj, kRj, bRj, mRj⟩ := L.fRj
  obtain ⟨gAl, fdAl, GAl, kAl, bAl, mAl⟩ := L.fAl
  obtain ⟨pRo, gRo, fdRo, PRo, GRo, bRo⟩ := L.pRo
  obtain ⟨pMb, gMb, fdMb, PMb, GMb, bMb⟩ := L.pMb
  obtain ⟨pHt, gHt, fdHt, PHt, GHt, bHt⟩ := L.pHt
  obtain ⟨pWd, gWd, fdWd, PWd, GWd, bWd⟩ := L.pWd
  obtain ⟨gAt, fdAt, MAt, GAt, bAt⟩ := L.mAt
  obtain ⟨gCl, OCl, GCl⟩ := L.cCl
  obtain ⟨gCo, sCo, iCo, GCo⟩ := L.cCo
  obtain ⟨gEq, sEq, iEq, GEq⟩ := L.cEq
  have nd := scLw3.nd
  refine fn_of lk hcd scLw3 (fun vs H Q E h => ?_) (fun A outer s H vs Q E hr h => ?_)
  · obtain ⟨a, ns, rfl, _⟩ := h
    rfl
  · obtain ⟨a, ns, rfl, hS, hT, k⟩ := h
    suffices h : ∃ t', PSs (cxOf CX0 P w_ K mg base NLw3 "law" (defScope sLaw) f (.ref cL) A outer s H E).nox (defBody sLaw) t' ∧ t' { nx := fun _ H' => Q .non H', rt := Q } (L2.start NLw3 [.ref a]) H by
      obtain ⟨t', h1, h2⟩ := h
      exact ⟨t', h1.nox, h2⟩
    have r1 : Room 1 _ := hr.mono (by decide)
    have r2 : Room 2 _ := hr.mono (by decide)
    have r3 : Room 3 _ := hr.mono (by decide)
    have r4 : Room 4 _ := hr.mono (by decide)
    have r5 : Room 5 _ := hr.mono (by decide)
    refine ⟨_, C8.pss_cut (ps_set (i := 1) nd rfl (.inl rfl) (pe_lst (pa_cons (pv 0) (pa_cons pe_int (pa_cons pe_int (pa_cons pe_int pa_nil))))))
      (C8.pss_cut (ps_par (i := 2) (j := 3) rfl nd rfl rfl (by decide) rfl rfl (pa_cons (pe_call (GRw a ns) r2 rfl mRw kRw bRw .nil pass0 (pa_cons (pv 1) (pa_cons pe_int pa_nil))) (pa_cons (pe_call (GRw a ns) r2 rfl mRw kRw bRw .nil pass0 (pa_cons (pv 1) (pa_cons pe_int pa_nil))) pa_nil)) (by rfl))
      (C8.pss_cut (ps_set (i := 4) nd rfl (.inr rfl) (ClX.pe_cmeth (pe_glob (v := .ref D) rfl CT.mgC rfl) CR_ CM GO r5 passL (pa_cons (pe_join pe_str (pv 2)) pa_nil)))
      (C8.pss_cut (ps_set (i := 5) nd rfl (.inl rfl) (pe_join pe_str (pe_callB cr_sortedS (by rfl) L.srt (by decide +kernel) (pa_cons (pe_lc (own := [("_law_cell", 6)]) (g := gName 6) rfl nd (pi_str (pe_join pe_str (pv 2))) (blkOk_by (N := NLw3) (sc := defScope sLaw) (by decide +kernel)) (fun _ _ _ _ _ => pg_name (i := 6) nd rfl (.inl rfl)) (fun _ _ _ _ _ => pts_one (pt_cmpR op_ne (pv 6) pe_str (nomark _))) (fun _ _ _ _ _ => pv 6)) pa_nil))))
      (C8.pss_cut (ps_set (i := 7) nd rfl (.inl rfl) (pe_lst (pa_cons (pe_prop (pv 4) CT.cl PHt GHt r2 bHt .nil pass0 rfl) (pa_cons (pe_prop (pv 4) CT.cl PWd GWd r2 bWd .nil pass0 rfl) pa_nil))))
      (C8.pss_cut (ps_if (pt_not (pt_val (pe_call GAl r3 rfl mAl kAl bAl .nil pass0 (pa_cons (pe_lst (pa_cons (pe_prop (pv 4) CT.cl PRo GRo r2 bRo .nil pass0 rfl) (pa_cons (pe_prop (pv 4) CT.cl PMb GMb r2 bMb .nil pass0 rfl) (pa_cons (pv 7) pa_nil))))
          (pa_cons (pe_lst (pa_cons (pe_callTy call_tuple_of (by rfl) L.al.tup (by decide +kernel) (pa_cons (pv 2) pa_nil)) (pa_cons (pv 5) (pa_cons (pe_lst (pa_cons (pe_callB call_len_seq (by rfl) T_.len PySem.boot_len (pa_cons (pv 2) pa_nil)) (pa_cons (pe_callB call_len_str (by rfl) T_.len PySem.boot_len (pa_cons (pe_ix ix_list (pv 2) pe_int (fun _ _ => rfl)) pa_nil)) pa_nil))) pa_nil)))) pa_nil))))) pss_never pss_nil)
      (C8.pss_cut (ps_for PassesOwn.never rfl (pi_range1 (by rfl) L.al.range (pa_cons (pe_callB call_len_seq (by rfl) T_.len PySem.boot_len (pa_cons (pv 2) pa_nil)) pa_nil)) (pg_name (i := 8) nd rfl (.inl rfl))
        (pss_one (ps_for PassesOwn.never rfl (pi_range1 (by rfl) L.al.range (pa_cons (pe_callB call_len_str (by rfl) T_.len PySem.boot_len (pa_cons (pe_ix ix_list (pv 2) pe_int (fun _ _ => rfl)) pa_nil)) pa_nil)) (pg_name (i := 9) nd rfl (.inl rfl))
          (C8.pss_cut (ps_set (i := 10) nd rfl (.inl rfl) (pe_ifExp (pt_cmpR op_ne (pe_ix ix_str (pe_ix ix_list (pv 2) (pv 8) (fun _ _ => rfl)) (pv 9) (fun _ _ => rfl)) pe_str (nomark _)) (pe_ix ix_str (pe_ix ix_list (pv 2) (pv 8) (fun _ _ => rfl)) (pv 9) (fun _ _ => rfl)) pe_non))
          (pss_one (ps_if (PW.pt (pw_or (pt_cmpR op_ne (pe_meth (pv 4) CT.cl MAt GAt r4 bAt .nil passL (pa_cons (pe_tup (pa_cons (pv 8) (pa_cons (pv 9) pa_nil))) pa_nil)) (pv 10) (nomark _))
            (pw_or1 (PW.pt (pw_and (pt_cmpR op_notN (pv 10) pe_non (nomark _)) (pw_and1 (pt_not (pt_val (pe_call GAl r3 rfl mAl kAl bAl .nil pass0 (pa_cons (pe_callOK (pv 4) OCl GCl r4 passL (pa_cons (pv 10) pa_nil)) (pa_cons (pe_tup (pa_cons (pv 8) (pa_cons (pv 9) pa_nil))) pa_nil))))))))))) pss_never pss_nil))))))
      (C8.pss_cut (ps_for PassesOwn.never rfl (pi_tup (pe_tup (pa_cons (pe_tup (pa_cons (pe_callB call_len_seq (by rfl) T_.len PySem.boot_len (pa_cons (pv 2) pa_nil)) (pa_cons pe_int pa_nil))) (pa_cons (pe_tup (pa_cons pe_int (pa_cons (pe_callB call_len_str (by rfl) T_.len PySem.boot_len (pa_cons (pe_ix ix_list (pv 2) pe_int (fun _ _ => rfl)) pa_nil)) pa_nil)))
          (pa_cons (pe_tup (pa_cons (pe_op op_sub pe_int pe_int) (pa_cons pe_int pa_nil))) (pa_cons (pe_tup (pa_cons pe_int (pa_cons pe_bl pa_nil))) (pa_cons (pe_lst (pa_cons pe_int (pa_cons pe_int pa_nil))) (pa_cons (pe_tup (pa_cons pe_int pa_nil)) (pa_cons pe_non (pa_cons pe_str pa_nil)))))))))) (pg_name (i := 11) nd rfl (.inr rfl))
        (pss_one (ps_if (pt_cmpR (op_neD hr.units) (pe_told FR bR mR O.te (by rfl) U.tb rfl U.tm U.tu (k := 6) hr (show LamS (defScope sLaw) _ from lamS_by (by decide +kernel)) rfl (fun _ _ _ _ _ => rfl)
            (fun A outer s H E f c' hr' => pe_meth (pv 4) CT.cl MAt GAt (hr'.mono (by decide)) bAt .nil (passX (takes_of rfl rfl rfl rfl)) (pa_cons (pv 11) pa_nil))) (pe_tup (pa_cons pe_str pa_nil)) (nomark _)) pss_never pss_nil)))
      (C8.pss_cut (ps_for PassesOwn.never rfl (pi_str pe_str) (pg_name (i := 12) nd rfl (.inl rfl))
        (pss_one (ps_if (pt_cmpR op_ne (pe_cmpR (op_inOwn sCo iCo GCo r3 pass0) (pv 12) (pv 4) (by rfl)) (pe_cmpR op_in_sign (pv 12) (pv 5) (by rfl)) (nomark _)) pss_never pss_nil)))
      (C8.pss_cut (ps_for PassesOwn.never rfl (pi_tup (pe_tup (pa_cons pe_str (pa_cons pe_str (pa_cons pe_str (pa_cons pe_non (pa_cons pe_int (pa_cons pe_str pa_nil)))))))) (pg_name (i := 11) nd rfl (.inr rfl))
        (pss_one (ps_if (PW.pt (pw_or (pt_cmpR (op_inOwn sCo iCo GCo r3 pass0) (pv 11) (pv 4) (by rfl)) (pw_or1 (pt_cmpR (op_neD hr.units) (pe_told FR bR mR O.te (by rfl) U.tb rfl U.tm U.tu (k := 6) hr (show LamS (defScope sLaw) _ from lamS_by (by decide +kernel)) rfl (fun _ _ _ _ _ => rfl)
            (fun A outer s H E f c' hr' => pe_callOK (pv 4) OCl GCl (hr'.mono (by decide)) (passX (takes_of rfl rfl rfl rfl)) (pa_cons (pv 11) pa_nil))) (pe_tup (pa_cons pe_str (pa_cons (pv 11) pa_nil))) (nomark _))))) pss_never pss_nil)))
      (C8.pss_cut (ps_if (PW.pt (pw_or (pt_cmpR op_ne (pe_cmpR (op_cmpOwn (op := .Eq) (fun _ _ => rfl) sEq iEq GEq r1 pass0) (pv 4) (ClX.pe_cmeth (pe_glob (v := .ref D) rfl CT.mgC rfl) CR_ CM GO r5 passL (pa_cons (pe_join pe_str (pv 3)) pa_nil)) (nomark _)) (pe_cmpR (op_eqD hr.units) (pv 2) (pv 3) (nomark _)) (nomark _))
          (pw_or1 (pt_cmpR (op_cmpTup (op := .Eq) (fun _ _ => rfl) sEq iEq GEq L.nf r1 pass0) (pv 4) (pe_callTy call_tuple_of (by rfl) L.al.tup (by decide +kernel) (pa_cons (pv 2) pa_nil)) (nomark _))))) pss_never pss_nil)
      (pss_one (ps_ret (pe_and (pe_cmpR (op_cmpOwn (op := .Eq) (fun _ _ => rfl) sEq iEq GEq r1 pass0) (pv 4) (ClX.pe_cmeth (pe_glob (v := .ref D) rfl CT.mgC rfl) CR_ CM GO r5 passL (pa_cons (pe_join pe_str (pv 2)) pa_nil)) (nomark _))
        (pe_one (pe_call (GRj a ns) hr rfl mRj kRj bRj .nil pass0 (pa_cons (pv 1) (pa_cons (pv 2) pa_nil))))))))))))))))), ?_⟩
    refine ⟨fun σ H1 => ∃ r, σ = [some (.ref a), some (.ref r), none, none, none, none, none, none, none, none, none, none, none] ∧ RowAt K a ns H1 r ∧ Tabs T H1, ?_, ?_⟩
    · refine ⟨_, rfl, by show 4 ≤ sizeLine; decide, fun r hn => ?_⟩
      exact ⟨r, rfl, ⟨0, 0, 0, upd_same, by decide, (TA.same_new hn).seq hS⟩, hT.ext (TA.same_new hn)⟩
    rintro σ H1 ⟨r, rfl, R1, T1⟩
    have tabs_row : ∀ {H1 H2 : Hp}, RowAt K a ns H1 r → Tabs T H1 → But r H1 H2 → Tabs T H2 := fun R h b => by
      obtain ⟨_, _, _, h1, _⟩ := R
      exact tabs_but h h1 b
    refine ⟨fun σ H2 => ∃ l m h w h' w' g g', σ = [some (.ref a), some (.ref r), some (.ref l), some (.ref m), none, none, none, none, none, none, none, none, none] ∧ VG h w g ∧ VG h' w' g' ∧ H2 l = some (.lst (rowV g)) ∧ H2 m = some (.lst (rowV g')) ∧ RowAt K a ns H2 r ∧ Tabs T H2, ?_, ?_⟩
    · refine ⟨_, rfl, r, 26, rfl, R1, by decide, fun H2 l h w g hV hl R2 b2 => ?_⟩
      have lr := row_apart hV hl R2
      refine ⟨_, rfl, r, 3, rfl, R2, by decide, fun H3 m h' w' g' hV' hm R3 b3 => ?_⟩
      exact ⟨_, _, rfl, l, m, h, w, h', w', g, g', rfl, hV, hV', b3 _ _ hl lr, hm, R3, tabs_row R1 T1 (b2.trans b3)⟩
    rintro σ H2 ⟨l, m, h, w, h', w', g, g', rfl, hV, hV', L2_, M2, R2, T2⟩
    clear R1 T1 H1
    have hlen := hV.len
    have hgh : g.length = h := hV.rc.1
    have hh8 := hV.n8
    have hw8 := hV.m8
    have hh1 := hV.n1
    have hw1 := hV.m1
    have ofR : ∀ {h w : Nat} {g : Grid}, VG h w g → ∀ z ∈ g, z.length ≤ 1000 ∧ 10 ∉ z := fun hV z hz => ⟨by have := hV.row hz; omega, lf_not hV z hz⟩
    have ofX : ∀ {h w : Nat} {g : Grid} {i j : Nat} {X : Prop}, VG h w g → fwc (g.map some) = some (i, j) → X := fun hV hf => by rw [fwc_good hV] at hf; cases hf
    have of8 : ∀ {h w : Nat} {g : Grid}, VG h w g → g.length ≤ 1000 := fun hV => by have := hV.len; omega
    have ofE : ∀ {g : Grid}, [V.ref D, V.str (Txt.join (S [10]) (g.map S))] = [V.ref D, V.str (S (TL.joinL [10] g))] := fun {g} => by rw [join_S]
    have jn : ∀ {h w : Nat} {g : Grid}, VG h w g → ((g.map S).map (·.length)).sum + (g.map S).length * 1 ≤ 16777216 := by
      intro h w g hV
      have h1 := row_sum 8 g fun r hr => hV.row hr
      have h2 := hV.len
      rw [List.length_map (as := g)]
      omega
    have seqS : ∀ {g : Grid} {H : Hp} {l : Addr}, H l = some (.lst (rowV g)) → SqL K H l ((g.map S).map V.str) := by
      intro g H l hl
      rw [List.map_map]
      exact SqL.of hl
    -- the tray
    refine ⟨fun σ H3 => ∃ p, σ = [some (.ref a), some (.ref r), some (.ref l), some (.ref m), some (.ref p), none, none, none, none, none, none, none, none] ∧ St3 K D T a ns r l m p g g' H3, ?_, ?_⟩
    · refine ⟨rfl, ⟨_, rfl⟩, _, rfl, _, l, g.map S, rfl, rfl, .inl (seqS L2_), jn hV, g, ofE, hV.ne, of8 hV, ofR hV, fun _ H3 p sm ht => ?_, fun i j hf => ofX hV hf⟩
      exact ⟨p, rfl, sm _ _ L2_, sm _ _ M2, ht, R2.same sm, T2.ext sm⟩
    rintro σ H3 ⟨p, rfl, I3⟩
    clear L2_ M2 R2 T2 H2
    -- the names
    refine ⟨fun σ H4 => ∃ v6, σ = [some (.ref a), some (.ref r), some (.ref l), some (.ref m), some (.ref p), some (.str (S (srt (mb g.flatten)))), v6, none, none, none, none, none, none] ∧ St3 K D T a ns r l m p g g' H4, ?_, ?_⟩
    · refine ⟨⟨_, rfl⟩, ⟨_, rfl⟩, _, rfl, _, l, g.map S, rfl, rfl, .inl (seqS I3.1), ?_, ?_⟩
      · have := jn hV
        show _ + _ * 0 ≤ _
        omega
      rw [show Txt.join (Str.ofString "") (g.map S) = S g.flatten from join0 g]
      have hfl : g.flatten.length ≤ 64 := by
        rw [List.length_flatten]
        have : g.map List.length = List.replicate h w := List.eq_replicate_iff.mpr ⟨by rw [List.length_map]; exact hgh, fun x hx => by
          obtain ⟨l, hl, rfl⟩ := List.mem_map.mp hx
          exact hV.rc.2 l hl⟩
        rw [this]
        simp
        exact Nat.le_trans (Nat.mul_le_mul hh8 hw8) (by decide)
      generalize hah : g.flatten = ah at hfl
      refine ⟨_, rfl, fun E2 hD => lc_it (walk_str (z := S ah)) (fun n H4 => Same H3 H4 ∧ H4 E2 = some (.lst ((mb (ah.take n)).map sg))) ⟨TA.same_new hD, upd_same⟩ (fun _ _ _ _ => True.intro) ?_ ?_⟩
      · rintro n x H4 H5 hn ⟨sm, hL4⟩ ⟨rfl, c, hc, rfl⟩
        rw [S_at] at hc
        have et : mb (ah.take (n + 1)) = mb (ah.take n) ++ if c = 46 then [] else [c] := by
          rw [List.take_add_one, hc]
          show mb (ah.take n ++ [c]) = _
          rw [mb_app]
          by_cases q : c = 46
          · subst q; rfl
          · rw [if_neg q]; simp [mb, q]
        refine ⟨rfl, _, rfl, rfl, _, rfl, ?_⟩
        rw [show (!decide (V.str (⟨#[c]⟩ : Str) = V.str (Str.ofString "."))) = !(c == 46) from congrArg _ (dL c 46)]
        by_cases q : c = 46
        · rw [beq_iff_eq.mpr q]
          refine iteF ⟨sm, ?_⟩
          rw [hL4, et, if_pos q, List.append_nil]
        · rw [beq_eq_false_iff_ne.mpr q]
          refine iteT ⟨_, rfl, _, hL4, ?_, same_put sm hD, ?_⟩
          · have h1 := mb_le (ah.take n)
            rw [List.length_take] at h1
            rw [List.length_map]
            show _ < 16777216
            omega
          · rw [upd_same, et, if_neg q, List.map_append]
            rfl
      · rintro H4 ⟨sm, hL4⟩
        rw [S_size, List.take_length] at hL4
        have h26 := mb_26 hV
        rw [hah] at h26
        refine ⟨E2, (mb ah).map fun c => S [c], rfl, ?_, ?_, fun ys z pm st hz => ?_⟩
        · rw [List.map_map]
          exact SqL.of hL4
        · rw [List.length_map]
          omega
        · have e := sort_uniq pm st
          subst e
          have l26 : (srt (mb ah)).length ≤ 26 := by rw [(srt_perm _).length_eq]; exact h26
          refine ⟨_, z, (srt (mb ah)).map fun c => S [c], rfl, rfl, .inl (SqL.of upd_same), ?_, ?_⟩
          · rw [sum_ones, List.length_map]
            show _ + _ * 0 ≤ _
            omega
          · rw [join_signs]
            exact ⟨_, rfl, I3.same (sm.trans (TA.same_new hz))⟩
    rintro σ H4 ⟨v6, rfl, I4⟩
    clear I3 H3
    obtain ⟨r0, e0, l0, m0⟩ := row0 hV
    have h08 : r0.length ≤ 8 := by omega
    refine ⟨fun σ H5 => ∃ sd, σ = [some (.ref a), some (.ref r), some (.ref l), some (.ref m), some (.ref p), some (.str (S (srt (mb g.flatten)))), v6, some (.ref sd), none, none, none, none, none] ∧ St3 K D T a ns r l m p g g' H5 ∧ H5 sd = some (.lst [.int (h : Nat), .int (w : Nat)]), ?_, ?_⟩
    · obtain ⟨dp, ap, hp, hSp⟩ := I4.2.2.1
      refine ⟨_, rfl, p, dp, _, rfl, hp, p, h, w, g, rfl, I4.2.2.1, hV, _, rfl, p, dp, _, rfl, hp, p, h, w, g, rfl, I4.2.2.1, hV, by show 2 ≤ sizeLine; decide, fun sd hsd => ?_⟩
      exact ⟨sd, rfl, I4.same (TA.same_new hsd), upd_same⟩
    rintro σ H5 ⟨sd, rfl, I5, hsd⟩
    clear I4 H4
    -- rows, marbles, sides
    refine ⟨fun σ H6 => σ = [some (.ref a), some (.ref r), some (.ref l), some (.ref m), some (.ref p), some (.str (S (srt (mb g.flatten)))), v6, some (.ref sd), none, none, none, none, none] ∧ St3 K D T a ns r l m p g g' H6, ?_, ?_⟩
    · obtain ⟨dp, ap, hp, hSp⟩ := I5.2.2.1
      refine ⟨_, rfl, p, dp, _, rfl, hp, p, dp, _, _, rfl, hp, rfl, _, rfl, p, dp, _, rfl, hp, p, h, w, g, rfl, I5.2.2.1, hV, fun H6 s6 => ?_⟩
      refine ⟨_, rfl, by show 3 ≤ sizeLine; decide, fun x1 hx1 => ?_⟩
      have s7 := TA.same_new (o := .lst [V.ref ap, .str (S (srt (mb g.flatten))), .ref sd]) hx1
      have X1 : upd H6 x1 (.lst [V.ref ap, .str (S (srt (mb g.flatten))), .ref sd]) x1 = some (.lst [V.ref ap, .str (S (srt (mb g.flatten))), .ref sd]) := upd_same
      have s57 := s6.trans s7
      have I7 := I5.same s57
      replace hsd := s57 _ _ hsd
      replace hSp := s57.tup hSp
      generalize upd H6 x1 (.lst [V.ref ap, .str (S (srt (mb g.flatten))), .ref sd]) = H7 at X1 s57 I7 hsd hSp
      refine ⟨_, rfl, l, _, rfl, .inl ⟨SqL.of I7.1, fun x2 hx2 => ?_⟩⟩
      have s8 := TA.same_new (o := .tup (rowV g)) hx2
      have X2 : upd H7 x2 (.tup (rowV g)) x2 = some (.tup (rowV g)) := upd_same
      refine ⟨_, rfl, _, rfl, l, _, rfl, .inl (SqL.of (s8 _ _ I7.1)), _, rfl, l, _, _, _, rfl, rfl, SqL.of (s8 _ _ I7.1), e0, _, rfl, S_line (by omega), by show 2 ≤ sizeLine; decide, fun x3 hx3 => ⟨by show 3 ≤ sizeLine; decide, fun x4 hx4 => ?_⟩⟩
      rw [List.length_map, hgh, S_len, l0] at hx4 ⊢
      have s9 := TA.same_new (o := .lst [V.int (h : Nat), .int (w : Nat)]) hx3
      have X3 : upd (upd H7 x2 (.tup (rowV g))) x3 (.lst [V.int (h : Nat), .int (w : Nat)]) x3 = some (.lst [V.int (h : Nat), .int (w : Nat)]) := upd_same
      have s10 := TA.same_new (o := .lst [V.ref x2, .str (S (srt (mb g.flatten))), .ref x3]) hx4
      have s79 := (s8.trans s9).trans s10
      have al0 : ∀ {H : Hp} {xs : List V}, (∀ x ∈ xs, (∃ z, x = .str z) ∨ ∃ i, x = .int i) → ∀ (i : Nat) (x y : V), xs[i]? = some x → xs[i]? = some y → Alk K H 0 x y := by
        intro H xs hx i x y h1 h2
        rw [h1] at h2
        cases h2
        rcases hx x (List.mem_of_getElem? h1) with ⟨z, rfl⟩ | ⟨i, rfl⟩
        · exact .str _
        · exact .int _
      refine ⟨_, _, rfl, .seq (by show 3 ≤ 1000; decide) (.lst (SqL.of (s79 _ _ X1))) (.lst (SqL.of upd_same)) rfl (fun i x y h1 h2 => ?_), fun H10 s11 => ⟨true, rfl, iteF ⟨rfl, (I7.same s79).same s11⟩⟩⟩
      match i with
      | 0 =>
        cases h1
        cases h2
        refine .seq (by rw [List.length_map]; omega) (.tup (s79.tup hSp)) (.tup (SqT.of (s10 _ _ (s9 _ _ X2)))) rfl (al0 fun x hx => .inl ?_)
        obtain ⟨z, _, rfl⟩ := List.mem_map.mp hx
        exact ⟨_, rfl⟩
      | 1 =>
        cases h1
        cases h2
        exact .str _
      | 2 =>
        cases h1
        cases h2
        refine .seq (by show 2 ≤ 1000; decide) (.lst (SqL.of (s79 _ _ hsd))) (.lst (SqL.of (s10 _ _ X3))) rfl (al0 fun x hx => .inr ?_)
        simp only [List.mem_cons, List.not_mem_nil, or_false] at hx
        rcases hx with rfl | rfl <;> exact ⟨_, rfl⟩
      | i + 3 => simp at h1
    rintro σ H6 ⟨rfl, I6⟩
    clear I5 hsd H5
    -- each place
    refine ⟨fun σ H7 => ∃ v8 v9 v10, σ = [some (.ref a), some (.ref r), some (.ref l), some (.ref m), some (.ref p), some (.str (S (srt (mb g.flatten)))), v6, some (.ref sd), v8, v9, v10, none, none] ∧ St3 K D T a ns r l m p g g' H7, ?_, ?_⟩
    · refine ⟨_, rfl, l, _, rfl, .inl (SqL.of I6.1), (((rowV g).length : Nat) : Int), rfl, by omega, by rw [List.length_map]; omega, for_range (lo := 0) (n := (((rowV g).length : Nat) : Int).toNat) (fun i σ H7 => ∃ v8 v9 v10, σ = [some (.ref a), some (.ref r), some (.ref l), some (.ref m), some (.ref p), some (.str (S (srt (mb g.flatten)))), v6, some (.ref sd), v8, v9, v10, none, none] ∧ St3 K D T a ns r l m p g g' H7)
        ⟨_, _, _, rfl, I6⟩ ?_ fun σ H7 h7 => h7⟩
      rintro i σ H7 hi ⟨v8, v9, v10, rfl, I7⟩
      rw [Int.toNat_natCast, List.length_map] at hi
      rw [Int.zero_add]
      refine ⟨_, rfl, l, _, _, _, rfl, rfl, SqL.of I7.1, e0, _, rfl, S_line (by omega), (((S r0).length : Nat) : Int), rfl, by omega, by rw [S_len]; omega, for_range (lo := 0) (n := (((S r0).length : Nat) : Int).toNat) (fun j σ H8 => ∃ v9 v10, σ = [some (.ref a), some (.ref r), some (.ref l), some (.ref m), some (.ref p), some (.str (S (srt (mb g.flatten)))), v6, some (.ref sd), some (.int (i : Nat)), v9, v10, none, none] ∧ St3 K D T a ns r l m p g g' H8)
        ⟨_, _, rfl, I7⟩ ?_ fun σ H8 ⟨v9, v10, e, h8⟩ => ⟨_, _, _, e, h8⟩⟩
      rintro j σ H8 hj ⟨v9', v10', rfl, I8⟩
      rw [Int.toNat_natCast, S_len, l0] at hj
      rw [Int.zero_add]
      obtain ⟨row, hrow⟩ : ∃ row, g[i]? = some row := ⟨_, List.getElem?_eq_getElem hi⟩
      have hrl : row.length = w := hV.rc.2 row (List.mem_of_getElem? hrow)
      have hrv : (rowV g)[i]? = some (.str (S row)) := by rw [List.getElem?_map, hrow]; rfl
      obtain ⟨c, hc⟩ : ∃ c, row[j]? = some c := ⟨_, List.getElem?_eq_getElem (by omega)⟩
      have hcS : (S row).cps.toList[j]? = some c := by rw [S_list]; exact hc
      have hat : atV g i j = if c = 46 then .non else sg c := by
        unfold atV
        rw [List.getD_eq_getElem?_getD (l := g), hrow]
        simp only [Option.getD_some]
        rw [List.getD_eq_getElem?_getD, hc]
        rfl
      refine ⟨fun σ H9 => σ = [some (.ref a), some (.ref r), some (.ref l), some (.ref m), some (.ref p), some (.str (S (srt (mb g.flatten)))), v6, some (.ref sd), some (.int (i : Nat)), some (.int (j : Nat)), some (atV g i j), none, none] ∧ St3 K D T a ns r l m p g g' H9, ?_, ?_⟩
      · refine ⟨_, rfl, _, rfl, l, _, _, _, rfl, rfl, SqL.of I8.1, atI_nat hrv, _, rfl, S row, (j : Nat), c, rfl, rfl, S_line (by omega), atI_nat hcS, rfl, _, rfl, ?_⟩
        rw [show (!decide (V.str (⟨#[c]⟩ : Str) = V.str (Str.ofString "."))) = !(c == 46) from congrArg _ (dL c 46)]
        by_cases q : c = 46
        · rw [beq_iff_eq.mpr q]
          rw [hat, if_pos q]
          exact iteF ⟨rfl, I8⟩
        · rw [beq_eq_false_iff_ne.mpr q]
          rw [hat, if_neg q]
          exact iteT ⟨_, rfl, _, rfl, l, _, _, _, rfl, rfl, SqL.of I8.1, atI_nat hrv, _, rfl, S row, (j : Nat), c, rfl, rfl, S_line (by omega), atI_nat hcS, rfl, I8⟩
      rintro σ H9 ⟨rfl, I9⟩
      obtain ⟨dp, ap, hp, hSp⟩ := id I9.2.2.1
      refine ⟨_, rfl, p, dp, _, rfl, hp, rfl, _, rfl, _, rfl, by show 2 ≤ sizeLine; decide, fun q hq => ?_⟩
      have s1 := TA.same_new (o := .tup [V.int (i : Nat), .int (j : Nat)]) hq
      refine ⟨p, _, h, w, g, rfl, I9.2.2.1.same s1, hV, .inl ⟨q, i, j, rfl, SqT.of upd_same, by omega, hj, ?_⟩⟩
      have I10 := I9.same s1
      have hp10 := s1 _ _ hp
      generalize upd H9 q (.tup [V.int (i : Nat), .int (j : Nat)]) = H10 at I10 hp10
      have hsc : scal (atV g i j) (atV g i j) = true := by
        rw [hat]
        split <;> rfl
      refine ⟨_, rfl, hsc, _, rfl, ?_⟩
      rw [decide_eq_true (p := atV g i j = atV g i j) rfl]
      by_cases q : c = 46
      · rw [if_pos q] at hat
        rw [hat]
        exact iteF ⟨_, rfl, rfl, _, rfl, iteF ⟨_, _, rfl, I10⟩⟩
      · rw [if_neg q] at hat
        rw [hat]
        have hfl : g.flatten[i * w + j]? = some c := by
          obtain ⟨b, hb⟩ := ahead_all hrow hc
          have hal : (ahead g row i j).length = i * w + j := by
            unfold ahead
            rw [List.length_append, List.length_take, List.length_flatten]
            have : (g.take i).map List.length = List.replicate i w := List.eq_replicate_iff.mpr ⟨by rw [List.length_map, List.length_take]; omega, fun x hx => by
              obtain ⟨l, hl, rfl⟩ := List.mem_map.mp hx
              exact hV.rc.2 l (take_mem hl)⟩
            rw [this]
            simp
            omega
          rw [hb, ← hal, List.getElem?_append_right (Nat.le_refl _)]
          simp
        refine iteF ⟨_, rfl, rfl, _, rfl, iteT ⟨_, rfl, p, rfl, _, rfl, ⟨dp, _, hp10⟩, p, sg c, h, w, g, rfl, I10.2.2.1, hV, .inl ⟨c, i * w + j, rfl, q, hfl, fun H11 q1 s11 nq1 hq1 => ?_⟩⟩⟩
        have e1 : (((i * w + j : Nat) : Int) / (w : Int)) = (i : Nat) := by
          rw [← Int.natCast_ediv]
          congr 1
          rw [Nat.mul_comm, Nat.mul_add_div (by omega), Nat.div_eq_of_lt hj, Nat.add_zero]
        have e2 : (((i * w + j : Nat) : Int) % (w : Int)) = (j : Nat) := by
          rw [← Int.natCast_emod]
          congr 1
          rw [Nat.mul_comm, Nat.mul_add_mod, Nat.mod_eq_of_lt hj]
        rw [e1, e2] at hq1
        refine ⟨_, rfl, _, rfl, by show 2 ≤ sizeLine; decide, fun q2 hq2 => ?_⟩
        have s12 := TA.same_new (o := .tup [V.int (i : Nat), .int (j : Nat)]) hq2
        refine ⟨_, _, rfl, .seq (by show 2 ≤ 1000; decide) (.tup (SqT.of (s12 _ _ hq1))) (.tup (SqT.of upd_same)) rfl (fun n x y h1 h2 => ?_), fun H13 s13 => ⟨true, rfl, iteF ⟨_, _, rfl, ((I10.same s11).same s12).same s13⟩⟩⟩
        match n with
        | 0 => cases h1; cases h2; exact .int _
        | 1 => cases h1; cases h2; exact .int _
        | n + 2 => simp at h1
    rintro σ H7 ⟨v8, v9, v10, rfl, I7⟩
    clear I6 H6
    -- no places
    refine ⟨fun σ H8 => ∃ v11, σ = [some (.ref a), some (.ref r), some (.ref l), some (.ref m), some (.ref p), some (.str (S (srt (mb g.flatten)))), v6, some (.ref sd), v8, v9, v10, v11, none] ∧ St3 K D T a ns r l m p g g' H8, ?_, ?_⟩
    · have J := I7
      clear I7
      refine ⟨_, rfl, l, _, rfl, .inl (SqL.of J.1), by show 2 ≤ sizeLine; decide, fun q0 hq0 => ?_⟩
      rw [List.length_map, hgh]
      have s0 := TA.same_new (o := .tup [V.int (h : Nat), .int 0]) hq0
      have X0 : upd H7 q0 (.tup [V.int (h : Nat), .int 0]) q0 = some (.tup [V.int (h : Nat), .int 0]) := upd_same
      replace J := J.same s0
      generalize upd H7 q0 (.tup [V.int (h : Nat), .int 0]) = G0 at J X0 s0
      clear s0 hq0
      refine ⟨_, rfl, l, _, _, _, rfl, rfl, SqL.of J.1, e0, _, rfl, S_line (by omega), by show 2 ≤ sizeLine; decide, fun q1 hq1 => ?_⟩
      rw [S_len, l0]
      have s1 := TA.same_new (o := .tup [V.int 0, .int (w : Nat)]) hq1
      have X1 : upd G0 q1 (.tup [V.int 0, .int (w : Nat)]) q1 = some (.tup [V.int 0, .int (w : Nat)]) := upd_same
      replace J := J.same s1
      replace X0 := s1 _ _ X0
      generalize upd G0 q1 (.tup [V.int 0, .int (w : Nat)]) = G1 at J X0 X1 s1
      clear s1 hq1
      refine ⟨_, _, rfl, rfl, by show 2 ≤ sizeLine; decide, fun q2 hq2 => ?_⟩
      have s2 := TA.same_new (o := .tup [V.int (0 - 1), .int 0]) hq2
      have X2 : upd G1 q2 (.tup [V.int (0 - 1), .int 0]) q2 = some (.tup [V.int (0 - 1), .int 0]) := upd_same
      replace J := J.same s2
      replace X0 := s2 _ _ X0
      replace X1 := s2 _ _ X1
      generalize upd G1 q2 (.tup [V.int (0 - 1), .int 0]) = G2 at J X0 X1 X2 s2
      clear s2 hq2
      refine ⟨by show 2 ≤ sizeLine; decide, fun q3 hq3 => ?_⟩
      have s3 := TA.same_new (o := .tup [V.int 0, .bl true]) hq3
      have X3 : upd G2 q3 (.tup [V.int 0, .bl true]) q3 = some (.tup [V.int 0, .bl true]) := upd_same
      replace J := J.same s3
      replace X0 := s3 _ _ X0
      replace X1 := s3 _ _ X1
      replace X2 := s3 _ _ X2
      generalize upd G2 q3 (.tup [V.int 0, .bl true]) = G3 at J X0 X1 X2 X3 s3
      clear s3 hq3
      refine ⟨by show 2 ≤ sizeLine; decide, fun q4 hq4 => ?_⟩
      have s4 := TA.same_new (o := .lst [V.int 0, .int 0]) hq4
      have X4 : upd G3 q4 (.lst [V.int 0, .int 0]) q4 = some (.lst [V.int 0, .int 0]) := upd_same
      replace J := J.same s4
      replace X0 := s4 _ _ X0
      replace X1 := s4 _ _ X1
      replace X2 := s4 _ _ X2
      replace X3 := s4 _ _ X3
      generalize upd G3 q4 (.lst [V.int 0, .int 0]) = G4 at J X0 X1 X2 X3 X4 s4
      clear s4 hq4
      refine ⟨by show 1 ≤ sizeLine; decide, fun q5 hq5 => ?_⟩
      have s5 := TA.same_new (o := .tup [V.int 0]) hq5
      have X5 : upd G4 q5 (.tup [V.int 0]) q5 = some (.tup [V.int 0]) := upd_same
      replace J := J.same s5
      replace X0 := s5 _ _ X0
      replace X1 := s5 _ _ X1
      replace X2 := s5 _ _ X2
      replace X3 := s5 _ _ X3
      replace X4 := s5 _ _ X4
      generalize upd G4 q5 (.tup [V.int 0]) = G5 at J X0 X1 X2 X3 X4 X5 s5
      clear s5 hq5
      refine ⟨by show 8 ≤ sizeLine; decide, fun q6 hq6 => ?_⟩
      have s6 := TA.same_new (o := .tup [V.ref q0, .ref q1, .ref q2, .ref q3, .ref q4, .ref q5, .non, .str "a"]) hq6
      have X6 : upd G5 q6 (.tup [V.ref q0, .ref q1, .ref q2, .ref q3, .ref q4, .ref q5, .non, .str "a"]) q6 = some (.tup [V.ref q0, .ref q1, .ref q2, .ref q3, .ref q4, .ref q5, .non, .str "a"]) := upd_same
      replace J := J.same s6
      replace X0 := s6 _ _ X0
      replace X1 := s6 _ _ X1
      replace X2 := s6 _ _ X2
      replace X3 := s6 _ _ X3
      replace X4 := s6 _ _ X4
      replace X5 := s6 _ _ X5
      generalize upd G5 q6 (.tup [V.ref q0, .ref q1, .ref q2, .ref q3, .ref q4, .ref q5, .non, .str "a"]) = G6 at J X0 X1 X2 X3 X4 X5 X6 s6
      clear s6 hq6
      refine ⟨q6, rfl, ⟨_, SqT.of X6⟩, for_tup (K := K) (a := q6) (xs := [V.ref q0, .ref q1, .ref q2, .ref q3, .ref q4, .ref q5, .non, .str "a"]) (fun n σ H8 => ∃ v11, σ = [some (.ref a), some (.ref r), some (.ref l), some (.ref m), some (.ref p), some (.str (S (srt (mb g.flatten)))), v6, some (.ref sd), v8, v9, v10, v11, none] ∧ St3 K D T a ns r l m p g g' H8 ∧ H8 q0 = some (.tup [V.int (h : Nat), .int 0]) ∧ H8 q1 = some (.tup [V.int 0, .int (w : Nat)]) ∧ H8 q2 = some (.tup [V.int (0 - 1), .int 0]) ∧ H8 q3 = some (.tup [V.int 0, .bl true]) ∧ H8 q4 = some (.lst [V.int 0, .int 0]) ∧ H8 q5 = some (.tup [V.int 0]) ∧ H8 q6 = some (.tup [V.ref q0, .ref q1, .ref q2, .ref q3, .ref q4, .ref q5, .non, .str "a"]))
        ⟨_, rfl, J, X0, X1, X2, X3, X4, X5, X6⟩ (fun _ _ _ _ ⟨_, _, _, _, _, _, _, _, _, h6⟩ => SqT.of h6) ?_ fun σ H8 ⟨v11, e, h8, _⟩ => ⟨v11, e, h8⟩⟩
      rintro n x σ H8 hx ⟨v11, rfl, I8, X0, X1, X2, X3, X4, X5, X6⟩
      have big : ∀ i : Nat, TA.isN (.int (i : Nat)) ((i : Int) - 1) = false := fun i => by
        show (decide ((0 : Int) ≤ (i : Nat)) && decide ((i : Int) ≤ (i : Int) - 1)) = false
        rw [decide_eq_false (p := (i : Int) ≤ (i : Int) - 1) (by omega), Bool.and_false]
      have hP : ∀ Ha, ExtN H8 Ha → Plc K Ha h w x false := fun Ha ea => by
        match n with
        | 0 =>
          cases hx
          have z := Plc.two (K := K) (h := h) (w := w) (SqT.of (tup_extN X0 ea)) (TA.kn_int _) (TA.kn_int _)
          rwa [big h, Bool.false_and] at z
        | 1 =>
          cases hx
          have z := Plc.two (K := K) (h := h) (w := w) (SqT.of (tup_extN X1 ea)) (TA.kn_int _) (TA.kn_int _)
          rwa [big w, Bool.and_false] at z
        | 2 =>
          cases hx
          have z := Plc.two (K := K) (h := h) (w := w) (SqT.of (tup_extN X2 ea)) (TA.kn_int _) (TA.kn_int _)
          rwa [show TA.isN (.int (0 - 1)) ((h : Int) - 1) = false from rfl, Bool.false_and] at z
        | 3 =>
          cases hx
          have z := Plc.two (K := K) (h := h) (w := w) (SqT.of (tup_extN X3 ea)) (TA.kn_int _) (TA.kn_bl _)
          rwa [show TA.isN (.bl true) ((w : Int) - 1) = false from rfl, Bool.and_false] at z
        | 4 =>
          cases hx
          exact .other (TA.sq_ty (.lst (SqL.of (lst_extN X4 ea)))) (by decide +kernel)
        | 5 =>
          cases hx
          exact .tup (SqT.of (tup_extN X5 ea)) (by simp)
        | 6 =>
          cases hx
          exact .other (.base .non) (by decide +kernel)
        | 7 =>
          cases hx
          exact .other (.base (.str _)) (by decide +kernel)
        | n + 8 => simp at hx
      refine ⟨I8.2.2.2.2, fun Ha ea Ta => ?_⟩
      have Ia := I8.extN ea Ta
      obtain ⟨dp, ap, hp, hSp⟩ := id Ia.2.2.1
      refine ⟨_, rfl, p, dp, _, rfl, hp, rfl, _, rfl, p, x, h, w, g, rfl, Ia.2.2.1, hV, .inr ⟨hP Ha ea, 3, [], [.str "place"], by decide, rfl, (fun d2 z => nomatch z), (fun hlt => absurd hlt (by decide)), rfl, fun H9 q1 s9 hq1 => ?_⟩⟩
      refine ⟨by show 1 ≤ sizeLine; decide, fun q2 hq2 => ?_⟩
      have s10 := TA.same_new (o := .tup [V.str "place"]) hq2
      refine ⟨.tuple [.str "place"], .tuple [.str "place"], .tup (SqT.of (s10 _ _ hq1)) (.cons (.str _) .nil), .tup (SqT.of upd_same) (.cons (.str _) .nil), by decide +kernel, by decide +kernel, _, rfl, ?_⟩
      rw [show PyData.eqv (.tuple [.str "place"]) (.tuple [.str "place"]) = true from SeqAt.eqv_refl _ (by decide +kernel)]
      have e8 := (ea.trans (extN_same (show Same Ha H9 from s9))).trans (extN_same s10)
      exact iteF ⟨_, rfl, (Ia.same s9).same s10, tup_extN X0 e8, tup_extN X1 e8, tup_extN X2 e8, tup_extN X3 e8, lst_extN X4 e8, tup_extN X5 e8, tup_extN X6 e8⟩
    rintro σ H8 ⟨v11, rfl, I8⟩
    clear I7 H7
    -- signs
    refine ⟨fun σ H9 => ∃ v12, σ = [some (.ref a), some (.ref r), some (.ref l), some (.ref m), some (.ref p), some (.str (S (srt (mb g.flatten)))), v6, some (.ref sd), v8, v9, v10, v11, v12] ∧ St3 K D T a ns r l m p g g' H9, ?_, ?_⟩
    · refine ⟨_, rfl, for_it (walk_str (z := Str.ofString "abcxyz")) (fun n σ H9 => ∃ v12, σ = [some (.ref a), some (.ref r), some (.ref l), some (.ref m), some (.ref p), some (.str (S (srt (mb g.flatten)))), v6, some (.ref sd), v8, v9, v10, v11, v12] ∧ St3 K D T a ns r l m p g g' H9) ⟨_, rfl, I8⟩ (fun _ _ _ _ _ => True.intro) ?_ fun σ H9 h9 => h9⟩
      rintro n x σ H9 H10 hn ⟨v12, rfl, I9⟩ ⟨rfl, c, hc, rfl⟩
      obtain ⟨dp, ap, hp, hSp⟩ := id I9.2.2.1
      refine ⟨_, rfl, _, rfl, p, dp, _, rfl, hp, p, _, h, w, g, rfl, I9.2.2.1, hV, .inl ⟨[c], rfl, by show 1 ≤ 1000; decide, fun H11 s11 => ⟨_, rfl, ?_⟩⟩⟩
      refine ⟨_, rfl, _, rfl, c, _, rfl, rfl, rfl, _, rfl, ?_⟩
      rw [S_list, show decide (c ∈ srt (mb g.flatten)) = has g [c] from decide_eq_decide.mpr (srt_perm _).mem_iff]
      rw [show (!decide (V.bl (has g [c]) = V.bl (has g [c]))) = false by simp]
      exact iteF ⟨_, rfl, I9.same s11⟩
    rintro σ H9 ⟨v12, rfl, I9⟩
    clear I8 H8
    -- no marbles
    have hB : ∀ x ∈ ([V.str ".", .str "", .str "ab", .non, .int 5, .str "A"] : List V), ∃ d : PyData, (∀ H, Dp K H x d) ∧ PyData.canLay0 (.tuple [.str "nomarble", d]) = true ∧ SeqAt.shaped (.tuple [.str "nomarble", d]) = true ∧ ((∃ u : List Nat, x = .str (S u) ∧ u.length ≤ 1000 ∧ has g u = false) ∨ ∀ H, NoText K H x) := by
      intro x hx
      simp only [List.mem_cons, List.not_mem_nil, or_false] at hx
      rcases hx with rfl | rfl | rfl | rfl | rfl | rfl
      · refine ⟨.str ".", fun H => .str _, by decide +kernel, by decide +kernel, .inl ⟨[46], rfl, by decide, ?_⟩⟩
        show (decide (1 = 1) && decide (46 ∈ mb g.flatten)) = false
        rw [decide_eq_false (p := 46 ∈ mb g.flatten) (fun z => by have := (List.mem_filter.mp z).2; simp at this), Bool.and_false]
      · exact ⟨.str "", fun H => .str _, by decide +kernel, by decide +kernel, .inl ⟨[], rfl, by decide, rfl⟩⟩
      · exact ⟨.str "ab", fun H => .str _, by decide +kernel, by decide +kernel, .inl ⟨[97, 98], rfl, by decide, rfl⟩⟩
      · exact ⟨.none, fun H => .non, by decide +kernel, by decide +kernel, .inr fun H => ⟨"NoneType", .base .non, by decide +kernel⟩⟩
      · exact ⟨.int 5, fun H => .int _, by decide +kernel, by decide +kernel, .inr fun H => no_int5 H⟩
      · refine ⟨.str "A", fun H => .str _, by decide +kernel, by decide +kernel, .inl ⟨[65], rfl, by decide, ?_⟩⟩
        show (decide (1 = 1) && decide (65 ∈ mb g.flatten)) = false
        rw [decide_eq_false (p := 65 ∈ mb g.flatten) (fun z => by
          obtain ⟨row, hr, hc⟩ := List.mem_flatten.mp (List.mem_filter.mp z).1
          have := hV.ok row hr 65 hc
          unfold Cell at this
          omega), Bool.and_false]
    refine ⟨fun σ H10 => ∃ v11, σ = [some (.ref a), some (.ref r), some (.ref l), some (.ref m), some (.ref p), some (.str (S (srt (mb g.flatten)))), v6, some (.ref sd), v8, v9, v10, v11, v12] ∧ St3 K D T a ns r l m p g g' H10, ?_, ?_⟩
    · refine ⟨by show 6 ≤ sizeLine; decide, fun q0 hq0 => ?_⟩
      generalize hbs : ([V.str ".", .str "", .str "ab", .non, .int 5, .str "A"] : List V) = bs at hB hq0
      have s0 := TA.same_new (o := .tup bs) hq0
      refine ⟨q0, rfl, ⟨_, SqT.of upd_same⟩, for_tup (K := K) (a := q0) (xs := bs) (fun n σ H10 => ∃ v11, σ = [some (.ref a), some (.ref r), some (.ref l), some (.ref m), some (.ref p), some (.str (S (srt (mb g.flatten)))), v6, some (.ref sd), v8, v9, v10, v11, v12] ∧ St3 K D T a ns r l m p g g' H10 ∧ H10 q0 = some (.tup bs))
        ⟨_, rfl, I9.same s0, upd_same⟩ (fun _ _ _ _ ⟨_, _, _, h6⟩ => SqT.of h6) ?_ fun σ H8 ⟨v11, e, h8, _⟩ => ⟨v11, e, h8⟩⟩
      rintro n x σ H10 hx ⟨v11, rfl, I10, X0⟩
      obtain ⟨d, hd, hlay, hsh, hno⟩ := hB x (List.mem_of_getElem? hx)
      obtain ⟨dp, ap, hp, hSp⟩ := id I10.2.2.1
      refine ⟨_, rfl, _, rfl, p, dp, _, rfl, hp, p, _, h, w, g, rfl, I10.2.2.1, hV, ?_⟩
      rcases hno with ⟨u, rfl, hl, hf⟩ | nt
      · refine .inl ⟨u, rfl, hl, fun H11 s11 => ⟨_, rfl, _, rfl, ?_⟩⟩
        rw [hf]
        refine iteF ⟨(I10.same s11).2.2.2.2, fun Ha ea Ta => ?_⟩
        have Ia := (I10.same s11).extN ea Ta
        have Xa := tup_extN (s11 _ _ X0) ea
        obtain ⟨dp2, ap2, hp2, hSp2⟩ := id Ia.2.2.1
        refine ⟨_, rfl, p, rfl, _, rfl, ⟨dp2, _, hp2⟩, p, _, h, w, g, rfl, Ia.2.2.1, hV, .inr ⟨.inl ⟨u, rfl, hl, hf⟩, fun H12 d2 s12 nd2 hd2 => ⟨2, _, [.str "nomarble", .str (S u)], by decide, rfl, (fun d3 z => by cases z; exact hd2), (fun _ z => nomatch z), rfl, fun H13 q1 s13 hq1 => ?_⟩⟩⟩
        refine ⟨_, rfl, by show 2 ≤ sizeLine; decide, fun q2 hq2 => ?_⟩
        have s14 := TA.same_new (o := .tup [V.str "nomarble", .str (S u)]) hq2
        refine ⟨_, .tuple [.str "nomarble", d], .tup (SqT.of (s14 _ _ hq1)) (.cons (.str _) (.cons (hd _) .nil)), .tup (SqT.of upd_same) (.cons (.str _) (.cons (hd _) .nil)), hsh, hsh, _, rfl, ?_⟩
        rw [show PyData.eqv (.tuple [.str "nomarble", d]) (.tuple [.str "nomarble", d]) = true from SeqAt.eqv_refl _ hlay]
        exact iteF ⟨_, rfl, ((Ia.same s12).same s13).same s14, s14 _ _ (s13 _ _ (s12 _ _ Xa))⟩
      · refine .inr ⟨nt _, fun H11 s11 => ⟨_, rfl, _, rfl, ?_⟩⟩
        refine iteF ⟨(I10.same s11).2.2.2.2, fun Ha ea Ta => ?_⟩
        have Ia := (I10.same s11).extN ea Ta
        have Xa := tup_extN (s11 _ _ X0) ea
        obtain ⟨dp2, ap2, hp2, hSp2⟩ := id Ia.2.2.1
        refine ⟨_, rfl, p, rfl, _, rfl, ⟨dp2, _, hp2⟩, p, _, h, w, g, rfl, Ia.2.2.1, hV, .inr ⟨.inr (nt _), fun H12 d2 s12 nd2 hd2 => ⟨2, _, [.str "nomarble", x], by decide, rfl, (fun d3 z => by cases z; exact hd2), (fun _ z => nomatch z), rfl, fun H13 q1 s13 hq1 => ?_⟩⟩⟩
        refine ⟨_, rfl, by show 2 ≤ sizeLine; decide, fun q2 hq2 => ?_⟩
        have s14 := TA.same_new (o := .tup [V.str "nomarble", x]) hq2
        refine ⟨_, .tuple [.str "nomarble", d], .tup (SqT.of (s14 _ _ hq1)) (.cons (.str _) (.cons (hd _) .nil)), .tup (SqT.of upd_same) (.cons (.str _) (.cons (hd _) .nil)), hsh, hsh, _, rfl, ?_⟩
        rw [show PyData.eqv (.tuple [.str "nomarble", d]) (.tuple [.str "nomarble", d]) = true from SeqAt.eqv_refl _ hlay]
        exact iteF ⟨_, rfl, ((Ia.same s12).same s13).same s14, s14 _ _ (s13 _ _ (s12 _ _ Xa))⟩
    rintro σ H10 ⟨v11, rfl, I10⟩
    clear I9 H9
    have lsh : ∀ {h w : Nat} {g : Grid}, VG h w g → SeqAt.shaped (.list (rowD g)) = true := fun hV => row_shaped hV
    refine ⟨fun σ H11 => σ = [some (.ref a), some (.ref r), some (.ref l), some (.ref m), some (.ref p), some (.str (S (srt (mb g.flatten)))), v6, some (.ref sd), v8, v9, v10, v11, v12] ∧ St3 K D T a ns r l m p g g' H11, ?_, ?_⟩
    · refine ⟨_, rfl, rfl, ⟨_, rfl⟩, _, rfl, _, m, g'.map S, rfl, rfl, .inl (seqS I10.2.1), jn hV', g', ofE, hV'.ne, of8 hV', ofR hV', fun _ H11 p2 s11 ht => ?_, fun i j hf => ofX hV' hf⟩
      have I11 := I10.same s11
      obtain ⟨dp, ap, hp, hSp⟩ := id I11.2.2.1
      obtain ⟨dp2, ap2, hp2, hSp2⟩ := id ht
      refine ⟨p, dp, _, rfl, hp, .inl ⟨p2, dp2, _, rfl, hp2⟩, p, p2, h, w, g, rfl, I11.2.2.1, hV, .inl ⟨h', w', g', ht, hV', ?_⟩⟩
      refine ⟨_, rfl, _, rfl, .list (rowD g), .list (rowD g'), .lst (SqL.of I11.1) (row_all g), .lst (SqL.of I11.2.1) (row_all g'), lsh hV, lsh hV', rfl, _, rfl, ?_⟩
      rw [eqv_lst, show (!decide (V.bl (decide (g = g')) = V.bl (decide (g = g')))) = false by simp]
      refine iteF ⟨_, rfl, _, rfl, l, _, rfl, .inl ⟨SqL.of I11.1, fun q2 hq2 => ?_⟩⟩
      have s12 := TA.same_new (o := .tup (rowV g)) hq2
      exact ⟨p, dp, _, q2, _, rfl, s12 _ _ hp, rfl, upd_same, p, q2, h, w, g, rfl, I11.2.2.1.same s12, hV, .inr ⟨_, SqT.of upd_same, _, rfl, iteF ⟨rfl, I11.same s12⟩⟩⟩
    rintro σ H11 ⟨rfl, I11⟩
    clear I10 H10
    refine ⟨_, rfl, rfl, ⟨_, rfl⟩, _, rfl, _, l, g.map S, rfl, rfl, .inl (seqS I11.1), jn hV, g, ofE, hV.ne, of8 hV, ofR hV, fun _ H12 p2 s12 ht => ?_, fun i j hf => ofX hV hf⟩
    have I12 := I11.same s12
    obtain ⟨dp, ap, hp, hSp⟩ := id I12.2.2.1
    obtain ⟨dp2, ap2, hp2, hSp2⟩ := id ht
    refine ⟨p, dp, _, rfl, hp, .inl ⟨p2, dp2, _, rfl, hp2⟩, p, p2, h, w, g, rfl, I12.2.2.1, hV, .inl ⟨h, w, g, ht, hV, ?_⟩⟩
    rw [decide_eq_true (p := g = g) rfl]
    exact ⟨_, rfl, iteT ⟨_, rfl, _, rfl, r, l, h, w, g, rfl, I12.2.2.2.1, hV, I12.1, row_apart hV I12.1 I12.2.2.2.1, I12.2.2.2.2, fun H' => k H'⟩⟩
end
end TP
end
section
set_option Elab.async false
set_option maxRecDepth 100000
set_option linter.all false
namespace TP
open PySem PySem.Spec PyProof.Rows L2 LamX TX TK TA TM TB TH
def ceF (a0 a1 a2 a3 a4 a5 : Addr) : Nat → Addr
  | 0 => a0
  | 1 => a1
  | 2 => a2
  | 3 => a3
  | 4 => a4
  | _ => a5
theorem six_two {p : Nat → Nat → Prop} (h0 : ∀ k, k < 6 → p 0 k) (h1 : ∀ k, k < 6 → p 1 k) (h2 : ∀ k, k < 6 → p 2 k) (h3 : ∀ k, k < 6 → p 3 k) (h4 : ∀ k, k < 6 → p 4 k) (h5 : ∀ k, k < 6 → p 5 k) : ∀ j k, j < 6 → k < 6 → p j k := fun j k hj hk => six_all (p := fun j => ∀ k, k < 6 → p j k) h0 h1 h2 h3 h4 h5 j hj k hk
theorem raw0 {P : Program} {w : World} {K : PySem.W.Frag} {mg : Str → Option Value} {base : Heap} {CX : CXT} {k : Nat} {f : Addr} {fd : FuncData} {ps : List Str} {sp : Sp} (F : FnOk P w K mg base CX k f fd ps sp) (b : Binds K fd ps []) : FnR P w K mg base CX k f sp := (F.raw b .nil).imp fun vs H Q E h => by rw [List.append_nil]; exact h
set_option maxHeartbeats 1000000
theorem all_mk {P : Program} {w : World} {K : PySem.W.Frag} {h : Heap} {mg : Str → Option Value} {fa : Addr} {D e0 e1 e2 e3 e4 e5 eT fIx1 fIx2 cc1 cc2 cdIx1 cdIx2 cdIw cdLw PIw PLw N1 N2 qTo qTr qMb qHt qWd fNu fPl fCv fIr fFc fTi fTo fTr fMb fHt fWd fAt fCl fCo fTe fTk fAl fRa fRw fIw fLw : Addr} {tAR tAC t0 tLE tMS tfX1 tfX2 : Tok} {zAR zAC zEM zLE fileX1 fileX2 nm1 q1 nm2 q2 : Str} {iMS : Int} {rTo rTr rMb rHt rWd bs1 bm1 sub1 bs2 bm2 sub2 : List Value} {sn1 sn2 : List Str} {ab1 ab2 : Bool} {col1 col2 : Option Bool} {dd1 dd2 : Option Addr} {m01 m11 m21 m31 m51 m02 m12 m22 m32 m52 : Option Value}
    {odNu anNu odPl anPl odCv anCv odIr anIr odFc anFc odTi anTi odTo anTo odTr anTr odMb anMb odHt anHt odWd anWd odAt anAt odCl anCl odCo anCo odTe anTe odTk anTk odAl anAl odRa anRa odRw anRw odIw anIw odLw anLw odIx1 anIx1 cdd1 cld01 odIx2 anIx2 cdd2 cld02 od2Iw od2Lw : Option Addr} {slNu slPl slCv slIr slFc slTi slTo slTr slMb slHt slWd slAt slCl slCo slTe slTk slAl slRa slRw slIw slLw slIx1 ccs1 csl01 slIx2 ccs2 csl02 sl2Iw sl2Lw : Array (Option Value)} {vsx1 vsx2 vsIw vsLw : Array Value} {ocNu kVNu dcNu pmNu ctNu ocPl kVPl dcPl pmPl ctPl ocCv kVCv dcCv pmCv ctCv ocIr kVIr dcIr pmIr ctIr ocFc kVFc dcFc pmFc ctFc ocTi kVTi dcTi pmTi ctTi ocTo kVTo dcTo pmTo ctTo ocTr kVTr dcTr pmTr ctTr ocMb kVMb dcMb pmMb ctMb ocHt kVHt dcHt pmHt ctHt ocWd kVWd dcWd pmWd ctWd ocAt kVAt dcAt pmAt ctAt ocCl kVCl dcCl pmCl ctCl ocCo kVCo dcCo pmCo ctCo ocTe kVTe dcTe pmTe ctTe ocTk kVTk dcTk pmTk ctTk ocAl kVAl dcAl pmAl ctAl ocRa kVRa dcRa pmRa ctRa ocRw kVRw dcRw pmRw ctRw ocIw kVIw dcIw pmIw ctIw ocLw kVLw dcLw pmLw ctLw cdNu cdPl cdCv cdIr cdFc cdTi cdTo cdTr cdMb cdHt cdWd cdAt cdCl cdCo cdTe cdTk cdAl cdRa cdRw ocIx1 kVIx1 dcIx1 pmIx1 ctIx1 ccl1 cl01 ocIx2 kVIx2 dcIx2 pmIx2 ctIx2 ccl2 cl02 : Value}
    (X : K.In h) (G : h.Ns mainGlobals mg) (hfa : mg "law" = some (.ref fa))
    (aD : PySem.W.nsIn K mainGlobals "Tray" = some (some (.ref D)))
    (ge0 : PySem.W.nsIn K mainGlobals "InvalidWord" = some (some (.ref e0)))
    (ge1 : PySem.W.nsIn K mainGlobals "InvalidTray" = some (some (.ref e1)))
    (ge2 : PySem.W.nsIn K mainGlobals "UnknownMarble" = some (some (.ref e2)))
    (ge3 : PySem.W.nsIn K mainGlobals "InvalidPlace" = some (some (.ref e3)))
    (ge4 : PySem.W.nsIn K mainGlobals "InvalidNumber" = some (some (.ref e4)))
    (ge5 : PySem.W.nsIn K mainGlobals "SameMarble" = some (some (.ref e5)))
    (geT : PySem.W.nsIn K mainGlobals "TrayError" = some (some (.ref eT)))
    (cAR : PySem.W.nsIn K mainGlobals "ALONG_ROWS" = some (some (.str zAR tAR)))
    (cAC : PySem.W.nsIn K mainGlobals "ALONG_COLUMNS" = some (some (.str zAC tAC)))
    (cEM : PySem.W.nsIn K mainGlobals "EMPTY" = some (some (.str zEM t0)))
    (cLE : PySem.W.nsIn K mainGlobals "LETTERS" = some (some (.str zLE tLE)))
    (cMS : PySem.W.nsIn K mainGlobals "MAX_SIDE" = some (some (.int iMS tMS)))
    (b_len : PySem.W.nsIn K mainGlobals "len" = some (none))
    (b_isinstance : PySem.W.nsIn K mainGlobals "isinstance" = some (none))
    (b_str : PySem.W.nsIn K mainGlobals "str" = some (none))
    (b_enumerate : PySem.W.nsIn K mainGlobals "enumerate" = some (none))
    (b_tuple : PySem.W.nsIn K mainGlobals "tuple" = some (none))
    (b_list : PySem.W.nsIn K mainGlobals "list" = some (none))
    (b_bool : PySem.W.nsIn K mainGlobals "bool" = some (none))
    (b_int : PySem.W.nsIn K mainGlobals "int" = some (none))
    (b_range : PySem.W.nsIn K mainGlobals "range" = some (none))
    (b_min : PySem.W.nsIn K mainGlobals "min" = some (none))
    (b_super : PySem.W.nsIn K mainGlobals "super" = some (none))
    (b_ValueError : PySem.W.nsIn K mainGlobals "ValueError" = some (none))
    (b_set : PySem.W.nsIn K mainGlobals "set" = some (none))
    (b_zip : PySem.W.nsIn K mainGlobals "zip" = some (none))
    (b_sorted : PySem.W.nsIn K mainGlobals "sorted" = some (none))
    (b_divmod : PySem.W.nsIn K mainGlobals "divmod" = some (none))
    (pgC : PySem.W.plainGet K D Str.empty = true)
    (hdC : PySem.W.hasDictIn K D = true)
    (poC : PySem.W.plainOver K D = true)
    (saC : PySem.W.findIn K (.ref D) "__setattr__" = some (some (.builtin "object.__setattr__")))
    (mkC : PySem.W.makesIn K D = true)
    (kcC : PySem.W.keepIn K (.ref D) = true)
    (rdC : PySem.W.readsIn K D (.type "type") = true)
    (gaC : PySem.W.specialIn K (.ref D) "__getattribute__" = some (some (.builtin "type.__getattribute__")))
    (nR : PySem.W.findIn K (.ref D) "_rows" = some none)
    (ih : PySem.W.findIn K (.ref D) "__class__" = some (some (.builtin "object.__class__")))
    (in_ : PySem.W.specialIn K (.builtin "object.__class__") "__get__" = some (some (.builtin "getset_descriptor.__get__")))
    (itk : PySem.W.takesIn K (.builtin "object.__class__") = some true)
    (im : PySem.W.mroIn K D (.type "object") = some true)
    (nfC : PySem.W.notFirst K D (.type "tuple") = true)
    (ktD : PySem.W.kitOne K (.type "tuple") (.ref D) = some false)
    (aNu : PySem.W.nsIn K mainGlobals "is_number" = some (some (.ref fNu)))
    (lNu : K.lookup fNu = some ⟨ocNu, odNu, .func (PySem.W.fnOf "is_number" "is_number" (defArgs sIsNumber) (defBody sIsNumber) (defScope sIsNumber) .none kVNu dcNu pmNu anNu cdNu ctNu), slNu⟩)
    (cNu : PySem.W.codeIn K cdNu "is_number" = true)
    (kNu : PySem.W.keepIn K (.ref fNu) = true)
    (aPl : PySem.W.nsIn K mainGlobals "is_place" = some (some (.ref fPl)))
    (lPl : K.lookup fPl = some ⟨ocPl, odPl, .func (PySem.W.fnOf "is_place" "is_place" (defArgs sIsPlace) (defBody sIsPlace) (defScope sIsPlace) .none kVPl dcPl pmPl anPl cdPl ctPl), slPl⟩)
    (cPl : PySem.W.codeIn K cdPl "is_place" = true)
    (kPl : PySem.W.keepIn K (.ref fPl) = true)
    (aCv : PySem.W.nsIn K mainGlobals "check_place" = some (some (.ref fCv)))
    (lCv : K.lookup fCv = some ⟨ocCv, odCv, .func (PySem.W.fnOf "check_place" "check_place" (defArgs sCheckPlace) (defBody sCheckPlace) (defScope sCheckPlace) .none kVCv dcCv pmCv anCv cdCv ctCv), slCv⟩)
    (cCv : PySem.W.codeIn K cdCv "check_place" = true)
    (kCv : PySem.W.keepIn K (.ref fCv) = true)
    (aIr : PySem.W.nsIn K mainGlobals "_is_row" = some (some (.ref fIr)))
    (lIr : K.lookup fIr = some ⟨ocIr, odIr, .func (PySem.W.fnOf "_is_row" "_is_row" (defArgs sIsRow) (defBody sIsRow) (defScope sIsRow) .none kVIr dcIr pmIr anIr cdIr ctIr), slIr⟩)
    (cIr : PySem.W.codeIn K cdIr "_is_row" = true)
    (kIr : PySem.W.keepIn K (.ref fIr) = true)
    (aFc : PySem.W.nsIn K mainGlobals "_first_wrong_cell" = some (some (.ref fFc)))
    (lFc : K.lookup fFc = some ⟨ocFc, odFc, .func (PySem.W.fnOf "_first_wrong_cell" "_first_wrong_cell" (defArgs sFirstWrongCell) (defBody sFirstWrongCell) (defScope sFirstWrongCell) .none kVFc dcFc pmFc anFc cdFc ctFc), slFc⟩)
    (cFc : PySem.W.codeIn K cdFc "_first_wrong_cell" = true)
    (kFc : PySem.W.keepIn K (.ref fFc) = true)
    (aTi : PySem.W.findIn K (.ref D) "__init__" = some (some (.ref fTi)))
    (iTi : PySem.W.isFn K (.ref fTi) = true)
    (lTi : K.lookup fTi = some ⟨ocTi, odTi, .func (PySem.W.fnOf "__init__" "Tray.__init__" (defArgs sTrayInit) (defBody sTrayInit) (defScope sTrayInit) .none kVTi dcTi pmTi anTi cdTi ctTi), slTi⟩)
    (cTi : PySem.W.codeIn K cdTi "Tray.__init__" = true)
    (kTi : PySem.W.keepIn K (.ref fTi) = true)
    (pTo : PySem.W.findCls K (.ref D) (.type "type") "of_text" = some (.get (.builtin "classmethod.__get__") (.ref qTo) .none (.ref D)))
    (aTo : PySem.W.recIn K qTo "classmethod" = some (.ref fTo :: rTo))
    (fiTo : PySem.W.fnIn K fTo = true)
    (lTo : K.lookup fTo = some ⟨ocTo, odTo, .func (PySem.W.fnOf "of_text" "Tray.of_text" (defArgs sTrayOfText) (defBody sTrayOfText) (defScope sTrayOfText) .none kVTo dcTo pmTo anTo cdTo ctTo), slTo⟩)
    (cTo : PySem.W.codeIn K cdTo "Tray.of_text" = true)
    (kTo : PySem.W.keepIn K (.ref fTo) = true)
    (pTr : PySem.W.findIn K (.ref D) "rows" = some (some (.ref qTr)))
    (pgtTr : PySem.W.specialIn K (.ref qTr) "__get__" = some (some (.builtin "property.__get__")))
    (ptkTr : PySem.W.takesIn K (.ref qTr) = some true)
    (aTr : PySem.W.recIn K qTr "property" = some (.ref fTr :: rTr))
    (lTr : K.lookup fTr = some ⟨ocTr, odTr, .func (PySem.W.fnOf "rows" "Tray.rows" (defArgs sTrayRows) (defBody sTrayRows) (defScope sTrayRows) .none kVTr dcTr pmTr anTr cdTr ctTr), slTr⟩)
    (cTr : PySem.W.codeIn K cdTr "Tray.rows" = true)
    (kTr : PySem.W.keepIn K (.ref fTr) = true)
    (pMb : PySem.W.findIn K (.ref D) "marbles" = some (some (.ref qMb)))
    (pgtMb : PySem.W.specialIn K (.ref qMb) "__get__" = some (some (.builtin "property.__get__")))
    (ptkMb : PySem.W.takesIn K (.ref qMb) = some true)
    (aMb : PySem.W.recIn K qMb "property" = some (.ref fMb :: rMb))
    (lMb : K.lookup fMb = some ⟨ocMb, odMb, .func (PySem.W.fnOf "marbles" "Tray.marbles" (defArgs sTrayMarbles) (defBody sTrayMarbles) (defScope sTrayMarbles) .none kVMb dcMb pmMb anMb cdMb ctMb), slMb⟩)
    (cMb : PySem.W.codeIn K cdMb "Tray.marbles" = true)
    (kMb : PySem.W.keepIn K (.ref fMb) = true)
    (pHt : PySem.W.findIn K (.ref D) "height" = some (some (.ref qHt)))
    (pgtHt : PySem.W.specialIn K (.ref qHt) "__get__" = some (some (.builtin "property.__get__")))
    (ptkHt : PySem.W.takesIn K (.ref qHt) = some true)
    (aHt : PySem.W.recIn K qHt "property" = some (.ref fHt :: rHt))
    (lHt : K.lookup fHt = some ⟨ocHt, odHt, .func (PySem.W.fnOf "height" "Tray.height" (defArgs sTrayHeight) (defBody sTrayHeight) (defScope sTrayHeight) .none kVHt dcHt pmHt anHt cdHt ctHt), slHt⟩)
    (cHt : PySem.W.codeIn K cdHt "Tray.height" = true)
    (kHt : PySem.W.keepIn K (.ref fHt) = true)
    (pWd : PySem.W.findIn K (.ref D) "width" = some (some (.ref qWd)))
    (pgtWd : PySem.W.specialIn K (.ref qWd) "__get__" = some (some (.builtin "property.__get__")))
    (ptkWd : PySem.W.takesIn K (.ref qWd) = some true)
    (aWd : PySem.W.recIn K qWd "property" = some (.ref fWd :: rWd))
    (lWd : K.lookup fWd = some ⟨ocWd, odWd, .func (PySem.W.fnOf "width" "Tray.width" (defArgs sTrayWidth) (defBody sTrayWidth) (defScope sTrayWidth) .none kVWd dcWd pmWd anWd cdWd ctWd), slWd⟩)
    (cWd : PySem.W.codeIn K cdWd "Tray.width" = true)
    (kWd : PySem.W.keepIn K (.ref fWd) = true)
    (aAt : PySem.W.findIn K (.ref D) "at" = some (some (.ref fAt)))
    (iAt : PySem.W.isFn K (.ref fAt) = true)
    (lAt : K.lookup fAt = some ⟨ocAt, odAt, .func (PySem.W.fnOf "at" "Tray.at" (defArgs sTrayAt) (defBody sTrayAt) (defScope sTrayAt) .none kVAt dcAt pmAt anAt cdAt ctAt), slAt⟩)
    (cAt : PySem.W.codeIn K cdAt "Tray.at" = true)
    (kAt : PySem.W.keepIn K (.ref fAt) = true)
    (aCl : PySem.W.findIn K (.ref D) "__call__" = some (some (.ref fCl)))
    (iCl : PySem.W.isFn K (.ref fCl) = true)
    (lCl : K.lookup fCl = some ⟨ocCl, odCl, .func (PySem.W.fnOf "__call__" "Tray.__call__" (defArgs sTrayCall) (defBody sTrayCall) (defScope sTrayCall) .none kVCl dcCl pmCl anCl cdCl ctCl), slCl⟩)
    (cCl : PySem.W.codeIn K cdCl "Tray.__call__" = true)
    (kCl : PySem.W.keepIn K (.ref fCl) = true)
    (aCo : PySem.W.findIn K (.ref D) "__contains__" = some (some (.ref fCo)))
    (iCo : PySem.W.isFn K (.ref fCo) = true)
    (lCo : K.lookup fCo = some ⟨ocCo, odCo, .func (PySem.W.fnOf "__contains__" "Tray.__contains__" (defArgs sTrayContains) (defBody sTrayContains) (defScope sTrayContains) .none kVCo dcCo pmCo anCo cdCo ctCo), slCo⟩)
    (cCo : PySem.W.codeIn K cdCo "Tray.__contains__" = true)
    (kCo : PySem.W.keepIn K (.ref fCo) = true)
    (aTe : PySem.W.findIn K (.ref D) "__eq__" = some (some (.ref fTe)))
    (iTe : PySem.W.isFn K (.ref fTe) = true)
    (lTe : K.lookup fTe = some ⟨ocTe, odTe, .func (PySem.W.fnOf "__eq__" "Tray.__eq__" (defArgs sTrayEq) (defBody sTrayEq) (defScope sTrayEq) .none kVTe dcTe pmTe anTe cdTe ctTe), slTe⟩)
    (cTe : PySem.W.codeIn K cdTe "Tray.__eq__" = true)
    (kTe : PySem.W.keepIn K (.ref fTe) = true)
    (aTk : PySem.W.nsIn K mainGlobals "_law_taken" = some (some (.ref fTk)))
    (lTk : K.lookup fTk = some ⟨ocTk, odTk, .func (PySem.W.fnOf "_law_taken" "_law_taken" (defArgs sLawTaken) (defBody sLawTaken) (defScope sLawTaken) .none kVTk dcTk pmTk anTk cdTk ctTk), slTk⟩)
    (cTk : PySem.W.codeIn K cdTk "_law_taken" = true)
    (kTk : PySem.W.keepIn K (.ref fTk) = true)
    (aAl : PySem.W.nsIn K mainGlobals "_law_alike" = some (some (.ref fAl)))
    (lAl : K.lookup fAl = some ⟨ocAl, odAl, .func (PySem.W.fnOf "_law_alike" "_law_alike" (defArgs sLawAlike) (defBody sLawAlike) (defScope sLawAlike) .none kVAl dcAl pmAl anAl cdAl ctAl), slAl⟩)
    (cAl : PySem.W.codeIn K cdAl "_law_alike" = true)
    (kAl : PySem.W.keepIn K (.ref fAl) = true)
    (aRa : PySem.W.nsIn K mainGlobals "_law_raised" = some (some (.ref fRa)))
    (lRa : K.lookup fRa = some ⟨ocRa, odRa, .func (PySem.W.fnOf "_law_raised" "_law_raised" (defArgs sLawRaised) (defBody sLawRaised) (defScope sLawRaised) .none kVRa dcRa pmRa anRa cdRa ctRa), slRa⟩)
    (cRa : PySem.W.codeIn K cdRa "_law_raised" = true)
    (kRa : PySem.W.keepIn K (.ref fRa) = true)
    (aRw : PySem.W.nsIn K mainGlobals "_law_rows" = some (some (.ref fRw)))
    (lRw : K.lookup fRw = some ⟨ocRw, odRw, .func (PySem.W.fnOf "_law_rows" "_law_rows" (defArgs sLawRows) (defBody sLawRows) (defScope sLawRows) .none kVRw dcRw pmRw anRw cdRw ctRw), slRw⟩)
    (cRw : PySem.W.codeIn K cdRw "_law_rows" = true)
    (kRw : PySem.W.keepIn K (.ref fRw) = true)
    (aIw : PySem.W.nsIn K mainGlobals "_law_are_rejected" = some (some (.ref fIw)))
    (lIw : K.lookup fIw = some ⟨ocIw, odIw, .func (PySem.W.fnOf "_law_are_rejected" "_law_are_rejected" (defArgs sLawAreRejected) (defBody sLawAreRejected) (defScope sLawAreRejected) .none kVIw dcIw pmIw anIw (.ref cdIw) ctIw), slIw⟩)
    (cIw : PySem.W.codeIn K (.ref cdIw) "_law_are_rejected" = true)
    (kIw : PySem.W.keepIn K (.ref fIw) = true)
    (aLw : PySem.W.nsIn K mainGlobals "law" = some (some (.ref fLw)))
    (lLw : K.lookup fLw = some ⟨ocLw, odLw, .func (PySem.W.fnOf "law" "law" (defArgs sLaw) (defBody sLaw) (defScope sLaw) .none kVLw dcLw pmLw anLw (.ref cdLw) ctLw), slLw⟩)
    (cLw : PySem.W.codeIn K (.ref cdLw) "law" = true)
    (kLw : PySem.W.keepIn K (.ref fLw) = true)
    (fnCl : PySem.W.fnIn K fCl = true)
    (xL1 : K.lookup e1 = some (excClassObj nm1 q1 e1 N1 bs1 bm1 true sn1 sub1 ab1 col1 dd1 m01 m11 m21 m31 m51 "ValueError.__new__"))
    (xb1 : PySem.HandSPX.refsVE bm1 = true)
    (xsa1 : PySem.W.findIn K (.ref e1) "__setattr__" = some (some (.builtin "object.__setattr__")))
    (xex1 : PySem.W.subIn K (.ref e1) (.type "BaseException") = some true)
    (xty1 : PySem.W.typeIn K (.ref e1) = some (.type "type"))
    (xk1 : PySem.W.keepIn K (.ref e1) = true)
    (aIx1 : PySem.W.findIn K (.ref e1) "__init__" = some (some (.ref fIx1)))
    (tIx1 : PySem.W.typeIn K (.ref fIx1) = some (.type "function"))
    (lIx1 : K.lookup fIx1 = some ⟨ocIx1, odIx1, .func (PySem.W.fnX "__init__" "InvalidTray.__init__" (defArgs sInvalidTrayInit) (defBody sInvalidTrayInit) (defScope sInvalidTrayInit) [("__class__", cc1)] .none kVIx1 dcIx1 pmIx1 anIx1 (.ref cdIx1) ctIx1), slIx1⟩)
    (cIx1 : PySem.W.codeIn K (.ref cdIx1) "InvalidTray.__init__" = true)
    (kx11 : K.lookup cdIx1 = some ⟨ccl1, cdd1, .fields vsx1, ccs1⟩)
    (kx21 : vsx1[2]? = some (.str fileX1 tfX1))
    (kx31 : ((P.main.file : Str) == fileX1) = true)
    (kx41 : K.lookup cc1 = some ⟨cl01, cld01, .cell (some (.ref e1)), csl01⟩)
    (kx51 : PySem.W.mroIn K e1 (.ref e1) = some true)
    (kx61 : PySem.W.ks_superIn K e1 e1 "__init__" = some (some (.builtin "ValueError.__init__")))
    (kx71 : PySem.W.subIn K (.ref e1) (.type "ValueError") = some true)
    (xL2 : K.lookup e2 = some (excClassObj nm2 q2 e2 N2 bs2 bm2 true sn2 sub2 ab2 col2 dd2 m02 m12 m22 m32 m52 "ValueError.__new__"))
    (xb2 : PySem.HandSPX.refsVE bm2 = true)
    (xsa2 : PySem.W.findIn K (.ref e2) "__setattr__" = some (some (.builtin "object.__setattr__")))
    (xex2 : PySem.W.subIn K (.ref e2) (.type "BaseException") = some true)
    (xty2 : PySem.W.typeIn K (.ref e2) = some (.type "type"))
    (xk2 : PySem.W.keepIn K (.ref e2) = true)
    (aIx2 : PySem.W.findIn K (.ref e2) "__init__" = some (some (.ref fIx2)))
    (tIx2 : PySem.W.typeIn K (.ref fIx2) = some (.type "function"))
    (lIx2 : K.lookup fIx2 = some ⟨ocIx2, odIx2, .func (PySem.W.fnX "__init__" "UnknownMarble.__init__" (defArgs sUnknownMarbleInit) (defBody sUnknownMarbleInit) (defScope sUnknownMarbleInit) [("__class__", cc2)] .none kVIx2 dcIx2 pmIx2 anIx2 (.ref cdIx2) ctIx2), slIx2⟩)
    (cIx2 : PySem.W.codeIn K (.ref cdIx2) "UnknownMarble.__init__" = true)
    (kx12 : K.lookup cdIx2 = some ⟨ccl2, cdd2, .fields vsx2, ccs2⟩)
    (kx22 : vsx2[2]? = some (.str fileX2 tfX2))
    (kx32 : ((P.main.file : Str) == fileX2) = true)
    (kx42 : K.lookup cc2 = some ⟨cl02, cld02, .cell (some (.ref e2)), csl02⟩)
    (kx52 : PySem.W.mroIn K e2 (.ref e2) = some true)
    (kx62 : PySem.W.ks_superIn K e2 e2 "__init__" = some (some (.builtin "ValueError.__init__")))
    (kx72 : PySem.W.subIn K (.ref e2) (.type "ValueError") = some true)
    (kx8 : PySem.W.nsIn K cStatics "thirdparty.any" = some none)
    (kx9 : (P.main.scope.names.lookup ("super" : Str)).isSome = false)
    (nI0 : PySem.W.findIn K (.ref e0) "index" = some none)
    (nI1 : PySem.W.findIn K (.ref e1) "row" = some none)
    (nI2 : PySem.W.findIn K (.ref e1) "column" = some none)
    (nI3 : PySem.W.findIn K (.ref e2) "marble" = some none)
    (hg0 : PySem.W.findIn K (.ref e0) "__getattribute__" = some (some (.builtin "BaseException.__getattribute__")))
    (hk0 : PySem.W.findIn K (.ref e0) "__getattr__" = some none)
    (hs0 : PySem.W.subIn K (.ref e0) (.type "BaseException") = some true)
    (hd0 : PySem.W.hasDictIn K e0 = true)
    (ha0 : PySem.W.findIn K (.ref e0) "__class__" = some (some (.builtin "object.__class__")))
    (hm0 : PySem.W.mroIn K e0 (.type "object") = some true)
    (hv0 : PySem.W.kitOne K (.ref e0) (.type "ValueError") = some true)
    (ht0 : PySem.W.exmOne K (.ref e0) (.ref eT) = some true)
    (o00 : PySem.W.kitOne K (.ref e0) (.ref e0) = some true)
    (o01 : PySem.W.kitOne K (.ref e0) (.ref e1) = some false)
    (o02 : PySem.W.kitOne K (.ref e0) (.ref e2) = some false)
    (o03 : PySem.W.kitOne K (.ref e0) (.ref e3) = some false)
    (o04 : PySem.W.kitOne K (.ref e0) (.ref e4) = some false)
    (o05 : PySem.W.kitOne K (.ref e0) (.ref e5) = some false)
    (hg1 : PySem.W.findIn K (.ref e1) "__getattribute__" = some (some (.builtin "BaseException.__getattribute__")))
    (hk1 : PySem.W.findIn K (.ref e1) "__getattr__" = some none)
    (hs1 : PySem.W.subIn K (.ref e1) (.type "BaseException") = some true)
    (hd1 : PySem.W.hasDictIn K e1 = true)
    (ha1 : PySem.W.findIn K (.ref e1) "__class__" = some (some (.builtin "object.__class__")))
    (hm1 : PySem.W.mroIn K e1 (.type "object") = some true)
    (hv1 : PySem.W.kitOne K (.ref e1) (.type "ValueError") = some true)
    (ht1 : PySem.W.exmOne K (.ref e1) (.ref eT) = some true)
    (o10 : PySem.W.kitOne K (.ref e1) (.ref e0) = some false)
    (o11 : PySem.W.kitOne K (.ref e1) (.ref e1) = some true)
    (o12 : PySem.W.kitOne K (.ref e1) (.ref e2) = some false)
    (o13 : PySem.W.kitOne K (.ref e1) (.ref e3) = some false)
    (o14 : PySem.W.kitOne K (.ref e1) (.ref e4) = some false)
    (o15 : PySem.W.kitOne K (.ref e1) (.ref e5) = some false)
    (hg2 : PySem.W.findIn K (.ref e2) "__getattribute__" = some (some (.builtin "BaseException.__getattribute__")))
    (hk2 : PySem.W.findIn K (.ref e2) "__getattr__" = some none)
    (hs2 : PySem.W.subIn K (.ref e2) (.type "BaseException") = some true)
    (hd2 : PySem.W.hasDictIn K e2 = true)
    (ha2 : PySem.W.findIn K (.ref e2) "__class__" = some (some (.builtin "object.__class__")))
    (hm2 : PySem.W.mroIn K e2 (.type "object") = some true)
    (hv2 : PySem.W.kitOne K (.ref e2) (.type "ValueError") = some true)
    (ht2 : PySem.W.exmOne K (.ref e2) (.ref eT) = some true)
    (o20 : PySem.W.kitOne K (.ref e2) (.ref e0) = some false)
    (o21 : PySem.W.kitOne K (.ref e2) (.ref e1) = some false)
    (o22 : PySem.W.kitOne K (.ref e2) (.ref e2) = some true)
    (o23 : PySem.W.kitOne K (.ref e2) (.ref e3) = some false)
    (o24 : PySem.W.kitOne K (.ref e2) (.ref e4) = some false)
    (o25 : PySem.W.kitOne K (.ref e2) (.ref e5) = some false)
    (hg3 : PySem.W.findIn K (.ref e3) "__getattribute__" = some (some (.builtin "BaseException.__getattribute__")))
    (hk3 : PySem.W.findIn K (.ref e3) "__getattr__" = some none)
    (hs3 : PySem.W.subIn K (.ref e3) (.type "BaseException") = some true)
    (hd3 : PySem.W.hasDictIn K e3 = true)
    (ha3 : PySem.W.findIn K (.ref e3) "__class__" = some (some (.builtin "object.__class__")))
    (hm3 : PySem.W.mroIn K e3 (.type "object") = some true)
    (hv3 : PySem.W.kitOne K (.ref e3) (.type "ValueError") = some true)
    (ht3 : PySem.W.exmOne K (.ref e3) (.ref eT) = some true)
    (o30 : PySem.W.kitOne K (.ref e3) (.ref e0) = some false)
    (o31 : PySem.W.kitOne K (.ref e3) (.ref e1) = some false)
    (o32 : PySem.W.kitOne K (.ref e3) (.ref e2) = some false)
    (o33 : PySem.W.kitOne K (.ref e3) (.ref e3) = some true)
    (o34 : PySem.W.kitOne K (.ref e3) (.ref e4) = some false)
    (o35 : PySem.W.kitOne K (.ref e3) (.ref e5) = some false)
    (hg4 : PySem.W.findIn K (.ref e4) "__getattribute__" = some (some (.builtin "BaseException.__getattribute__")))
    (hk4 : PySem.W.findIn K (.ref e4) "__getattr__" = some none)
    (hs4 : PySem.W.subIn K (.ref e4) (.type "BaseException") = some true)
    (hd4 : PySem.W.hasDictIn K e4 = true)
    (ha4 : PySem.W.findIn K (.ref e4) "__class__" = some (some (.builtin "object.__class__")))
    (hm4 : PySem.W.mroIn K e4 (.type "object") = some true)
    (hv4 : PySem.W.kitOne K (.ref e4) (.type "ValueError") = some true)
    (ht4 : PySem.W.exmOne K (.ref e4) (.ref eT) = some true)
    (o40 : PySem.W.kitOne K (.ref e4) (.ref e0) = some false)
    (o41 : PySem.W.kitOne K (.ref e4) (.ref e1) = some false)
    (o42 : PySem.W.kitOne K (.ref e4) (.ref e2) = some false)
    (o43 : PySem.W.kitOne K (.ref e4) (.ref e3) = some false)
    (o44 : PySem.W.kitOne K (.ref e4) (.ref e4) = some true)
    (o45 : PySem.W.kitOne K (.ref e4) (.ref e5) = some false)
    (hg5 : PySem.W.findIn K (.ref e5) "__getattribute__" = some (some (.builtin "BaseException.__getattribute__")))
    (hk5 : PySem.W.findIn K (.ref e5) "__getattr__" = some none)
    (hs5 : PySem.W.subIn K (.ref e5) (.type "BaseException") = some true)
    (hd5 : PySem.W.hasDictIn K e5 = true)
    (ha5 : PySem.W.findIn K (.ref e5) "__class__" = some (some (.builtin "object.__class__")))
    (hm5 : PySem.W.mroIn K e5 (.type "object") = some true)
    (hv5 : PySem.W.kitOne K (.ref e5) (.type "ValueError") = some true)
    (ht5 : PySem.W.exmOne K (.ref e5) (.ref eT) = some true)
    (o50 : PySem.W.kitOne K (.ref e5) (.ref e0) = some false)
    (o51 : PySem.W.kitOne K (.ref e5) (.ref e1) = some false)
    (o52 : PySem.W.kitOne K (.ref e5) (.ref e2) = some false)
    (o53 : PySem.W.kitOne K (.ref e5) (.ref e3) = some false)
    (o54 : PySem.W.kitOne K (.ref e5) (.ref e4) = some false)
    (o55 : PySem.W.kitOne K (.ref e5) (.ref e5) = some true)
    (q3 : PySem.W.excIn K e3 [.type "ValueError", .type "Exception", .type "BaseException", .type "object"] "ValueError.__new__" = true)
    (k3 : PySem.W.keepIn K (.ref e3) = true)
    (t3 : PySem.W.typeIn K (.ref e3) = some (.type "type"))
    (vIw : K.lookup cdIw = some ⟨.type "code", od2Iw, .fields vsIw, sl2Iw⟩)
    (ppIw : vsIw[11]? = some (.ref PIw))
    (HIw : PySem.W.codeHdIn K cdIw PIw = true)
    (NIw : K.lookup PIw = none)
    (ZIw : h.get? PIw = some { cls := .none, data := .fields #[] })
    (vLw : K.lookup cdLw = some ⟨.type "code", od2Lw, .fields vsLw, sl2Lw⟩)
    (ppLw : vsLw[11]? = some (.ref PLw))
    (HLw : PySem.W.codeHdIn K cdLw PLw = true)
    (NLw : K.lookup PLw = none)
    (ZLw : h.get? PLw = some { cls := .none, data := .fields #[] })
    (eAR : zAR = S [108, 114])
    (eAC : zAC = S [117, 100])
    (eEM : zEM = S [46])
    (eLE : zLE = S letters)
    (eMS : iMS = 8)
    (nPP : PIw ≠ PLw)
    : ∃ (fd : FuncData) (cs : List (Addr × Addr)) (sp : Sp), (∀ p ∈ cs, h.get? p.2 = some { cls := .none, data := .fields #[] }) ∧ (∀ p ∈ cs, K.lookup p.2 = none) ∧ (∀ p ∈ cs, PySem.W.CodeHd h p.1 p.2) ∧ (∀ (s : Shared) (u : Value), BindsTo s fd ⟨[u], []⟩ [("_law_script", u)]) ∧
      (∀ (H : Hp) (a : Addr) (ns : List Int), ns.length ≤ 63 → (∀ z ∈ ns, Builtin.Int.intBits z ≤ 1048576) → (∀ p ∈ cs, H p.2 = some (.tbl #[])) → SqL K H a (ns.map V.int) → sp [.ref a] H (fun v _ => v = .bl true) fun _ _ _ => False) ∧
      ∀ base : Heap, K.In base → base.Ns mainGlobals mg → (∀ p ∈ cs, TabB base mg p.1 p.2) → FnOk P w K mg base CX0 9 fa fd ["_law_script"] sp := by
  subst eAR eAC eEM eLE eMS
  have g : ∀ {n : Str} {v : Value}, PySem.W.nsIn K mainGlobals n = some (some v) → mg n = some v := fun e => PySem.W.mg_of X G e
  have g0 : ∀ {n : Str}, PySem.W.nsIn K mainGlobals n = some none → mg n = none := fun e => PySem.W.mg_none_of X G e
  obtain rfl : fLw = fa := by
    have e := hfa.symm.trans (g aLw)
    cases e
    rfl
  have two : ∀ {p : Addr × Addr → Prop}, p (cdIw, PIw) → p (cdLw, PLw) → ∀ q ∈ [(cdIw, PIw), (cdLw, PLw)], p q := fun {p} h1 h2 q hq => by
    rcases List.mem_cons.mp hq with rfl | hq
    · exact h1
    · rcases List.mem_cons.mp hq with rfl | hq
      · exact h2
      · cases hq
  have twoT : ∀ {p : Addr × Str → Prop}, p (PIw, "_law_are_rejected.<locals>.<lambda>") → p (PLw, "law.<locals>.<lambda>") → ∀ q ∈ [(PIw, ("_law_are_rejected.<locals>.<lambda>" : Str)), (PLw, ("law.<locals>.<lambda>" : Str))], p q := fun {p} h1 h2 q hq => by
    rcases List.mem_cons.mp hq with rfl | hq
    · exact h1
    · rcases List.mem_cons.mp hq with rfl | hq
      · exact h2
      · cases hq
  refine ⟨PySem.W.fnOf "law" "law" (defArgs sLaw) (defBody sLaw) (defScope sLaw) .none kVLw dcLw pmLw anLw (.ref cdLw) ctLw, [(cdIw, PIw), (cdLw, PLw)], spLaw3 K [(PIw, "_law_are_rejected.<locals>.<lambda>"), (PLw, "law.<locals>.<lambda>")], two ZIw ZLw, two NIw NLw, two (PySem.W.codeHd_of_K X HIw) (PySem.W.codeHd_of_K X HLw), fun s u => .of_eq rfl, fun H a ns _ _ hT hS => ⟨a, ns, rfl, hS, twoT (TabS.nil (hT _ (.head _))) (TabS.nil (hT _ (.tail _ (.head _)))), fun _ => rfl⟩, fun base _ _ TB => ?_⟩
  have T : TxtW K mg := ⟨g0 b_len, g0 b_isinstance, g0 b_str, g0 b_enumerate, ⟨_, g cAR, _, rfl⟩, ⟨_, g cAC, _, rfl⟩⟩
  have U : TxtT K mg t0 := ⟨g cEM, ⟨_, g cLE, _, rfl⟩, ⟨_, g cMS, _, rfl⟩, g0 b_set, g0 b_zip, g0 b_tuple⟩
  have L : TxtL K mg := ⟨g0 b_int, g0 b_range, g0 b_min⟩
  have A : TxtA K mg := by constructor <;> first | exact g0 b_isinstance | exact g0 b_tuple | exact g0 b_list | exact g0 b_bool | exact g0 b_len | exact g0 b_range
  have N : TxtN K mg := ⟨g0 b_isinstance, g0 b_bool, g0 b_int⟩
  have TM_ : TxtM K mg := ⟨⟨_, g cEM, _, rfl⟩, g0 b_sorted, g0 b_len⟩
  have TP_ : TxtP K mg := ⟨g0 b_isinstance, g0 b_tuple, g0 b_len⟩
  have clD : Cls K D := ⟨pgC, hdC, poC, saC⟩
  have CT : ClsT K mg D := ⟨clD, nR, g aD⟩
  have IT : IsT K D := ⟨ih, in_, itk, im, if_pos (by simp), ktD⟩
  have MD : Mk K D fTi := ⟨mkC, aTi, iTi, kcC⟩
  have E : TxtE K mg (ceF e0 e1 e2 e3 e4 e5) eT := { g0 := g ge0, g1 := g ge1, g2 := g ge2, g3 := g ge3, g4 := g ge4, g5 := g ge5, gT := g geT, isi := g0 b_isinstance, ve := g0 b_ValueError, x0 := ⟨hg0, hk0, hs0, hd0⟩, x1 := ⟨hg1, hk1, hs1, hd1⟩, x2 := ⟨hg2, hk2, hs2, hd2⟩, n0 := nI0, n1 := nI1, n2 := nI2, n3 := nI3, xc := six_all ⟨hg0, hk0, hs0, hd0, ha0, in_, itk, hm0⟩ ⟨hg1, hk1, hs1, hd1, ha1, in_, itk, hm1⟩ ⟨hg2, hk2, hs2, hd2, ha2, in_, itk, hm2⟩ ⟨hg3, hk3, hs3, hd3, ha3, in_, itk, hm3⟩ ⟨hg4, hk4, hs4, hd4, ha4, in_, itk, hm4⟩ ⟨hg5, hk5, hs5, hd5, ha5, in_, itk, hm5⟩, one := six_two (six_all o00 o01 o02 o03 o04 o05) (six_all o10 o11 o12 o13 o14 o15) (six_all o20 o21 o22 o23 o24 o25) (six_all o30 o31 o32 o33 o34 o35) (six_all o40 o41 o42 o43 o44 o45) (six_all o50 o51 o52 o53 o54 o55), isv := six_all hv0 hv1 hv2 hv3 hv4 hv5, ism := six_all ht0 ht1 ht2 ht3 ht4 ht5 }
  have FNu := fun_mk (st := sIsNumber) lNu cNu kNu
  have BNu := FNu.binds (ps := ["value", "limit"]) fun _ _ _ _ _ _ us hl => match us, hl with | [_, _], _ => rfl
  have FPl := fun_mk (st := sIsPlace) lPl cPl kPl
  have BPl := FPl.binds (ps := ["value", "height", "width"]) fun _ _ _ _ _ _ us hl => match us, hl with | [_, _, _], _ => rfl
  have FCv := fun_mk (st := sCheckPlace) lCv cCv kCv
  have BCv := FCv.binds (ps := ["tray", "place"]) fun _ _ _ _ _ _ us hl => match us, hl with | [_, _], _ => rfl
  have FIr := fun_mk (st := sIsRow) lIr cIr kIr
  have BIr := FIr.binds (ps := ["row"]) fun _ _ _ _ _ _ us hl => match us, hl with | [_], _ => rfl
  have FFc := fun_mk (st := sFirstWrongCell) lFc cFc kFc
  have BFc := FFc.binds (ps := ["rows"]) fun _ _ _ _ _ _ us hl => match us, hl with | [_], _ => rfl
  have FTi := fun_mk (st := sTrayInit) lTi cTi kTi
  have FTo := fun_mk (st := sTrayOfText) lTo cTo kTo
  have BTo := FTo.binds (ps := ["cls", "text"]) fun _ _ _ _ _ _ us hl => match us, hl with | [_, _], _ => rfl
  have FTr := fun_mk (st := sTrayRows) lTr cTr kTr
  have BTr := FTr.binds (ps := ["self"]) fun _ _ _ _ _ _ us hl => match us, hl with | [_], _ => rfl
  have FMb := fun_mk (st := sTrayMarbles) lMb cMb kMb
  have BMb := FMb.binds (ps := ["self"]) fun _ _ _ _ _ _ us hl => match us, hl with | [_], _ => rfl
  have FHt := fun_mk (st := sTrayHeight) lHt cHt kHt
  have BHt := FHt.binds (ps := ["self"]) fun _ _ _ _ _ _ us hl => match us, hl with | [_], _ => rfl
  have FWd := fun_mk (st := sTrayWidth) lWd cWd kWd
  have BWd := FWd.binds (ps := ["self"]) fun _ _ _ _ _ _ us hl => match us, hl with | [_], _ => rfl
  have FAt := fun_mk (st := sTrayAt) lAt cAt kAt
  have BAt := FAt.binds (ps := ["self", "place"]) fun _ _ _ _ _ _ us hl => match us, hl with | [_, _], _ => rfl
  have FCl := fun_mk (st := sTrayCall) lCl cCl kCl
  have BCl := FCl.binds (ps := ["self", "marble"]) fun _ _ _ _ _ _ us hl => match us, hl with | [_, _], _ => rfl
  have FCo := fun_mk (st := sTrayContains) lCo cCo kCo
  have BCo := FCo.binds (ps := ["self", "x"]) fun _ _ _ _ _ _ us hl => match us, hl with | [_, _], _ => rfl
  have FTe := fun_mk (st := sTrayEq) lTe cTe kTe
  have BTe := FTe.binds (ps := ["self", "other"]) fun _ _ _ _ _ _ us hl => match us, hl with | [_, _], _ => rfl
  have FTk := fun_mk (st := sLawTaken) lTk cTk kTk
  have BTk := FTk.binds (ps := ["_law_row", "_law_many"]) fun _ _ _ _ _ _ us hl => match us, hl with | [_, _], _ => rfl
  have FAl := fun_mk (st := sLawAlike) lAl cAl kAl
  have BAl := FAl.binds (ps := ["_law_one", "_law_due"]) fun _ _ _ _ _ _ us hl => match us, hl with | [_, _], _ => rfl
  have FRa := fun_mk (st := sLawRaised) lRa cRa kRa
  have BRa := FRa.binds (ps := ["_law_work"]) fun _ _ _ _ _ _ us hl => match us, hl with | [_], _ => rfl
  have FRw := fun_mk (st := sLawRows) lRw cRw kRw
  have BRw := FRw.binds (ps := ["_law_row", "_law_most"]) fun _ _ _ _ _ _ us hl => match us, hl with | [_, _], _ => rfl
  have FIw := fun_mk (st := sLawAreRejected) lIw cIw kIw
  have BIw := FIw.binds (ps := ["_law_row", "_law_rows_here"]) fun _ _ _ _ _ _ us hl => match us, hl with | [_, _], _ => rfl
  have FLw := fun_mk (st := sLaw) lLw cLw kLw
  have BLw := FLw.binds (ps := ["_law_script"]) fun _ _ _ _ _ _ us hl => match us, hl with | [_], _ => rfl
  have ox1 : OexC K e1 := ⟨⟨nm1, q1, N1, bs1, bm1, sn1, sub1, ab1, col1, dd1, m01, m11, m21, m31, m51, xL1, xb1⟩, xsa1, xex1, xty1, xk1⟩
  have XT1 : ExcT K mg "InvalidTray" e1 fIx1 := ⟨ox1, g ge1, aIx1, tIx1⟩
  have GIx1 := ok_itr (P := P) (w := w) (base := base) (mg := mg) (CX := CX0) lIx1 cIx1 ⟨⟨_, _, _, lIx1⟩, rfl, ⟨_, _, _, _, _, _, kx11, kx21, kx31⟩, ⟨_, _, _, kx41⟩, kx51, kx61, kx71, kx8, kx9⟩ rfl ox1 (g0 b_super) nI1 nI2
  have BIx1 : Binds K (PySem.W.fnX "__init__" "InvalidTray.__init__" (defArgs sInvalidTrayInit) (defBody sInvalidTrayInit) (defScope sInvalidTrayInit) [("__class__", cc1)] .none kVIx1 dcIx1 pmIx1 anIx1 (.ref cdIx1) ctIx1) ["self", "row", "column"] [] := Binds.all fun us hl => match us, hl with | [_, _, _], _ => rfl
  have ox2 : OexC K e2 := ⟨⟨nm2, q2, N2, bs2, bm2, sn2, sub2, ab2, col2, dd2, m02, m12, m22, m32, m52, xL2, xb2⟩, xsa2, xex2, xty2, xk2⟩
  have XT2 : ExcT K mg "UnknownMarble" e2 fIx2 := ⟨ox2, g ge2, aIx2, tIx2⟩
  have GIx2 := ok_um (P := P) (w := w) (base := base) (mg := mg) (CX := CX0) lIx2 cIx2 ⟨⟨_, _, _, lIx2⟩, rfl, ⟨_, _, _, _, _, _, kx12, kx22, kx32⟩, ⟨_, _, _, kx42⟩, kx52, kx62, kx72, kx8, kx9⟩ rfl ox2 (g0 b_super) nI3
  have BIx2 : Binds K (PySem.W.fnX "__init__" "UnknownMarble.__init__" (defArgs sUnknownMarbleInit) (defBody sUnknownMarbleInit) (defScope sUnknownMarbleInit) [("__class__", cc2)] .none kVIx2 dcIx2 pmIx2 anIx2 (.ref cdIx2) ctIx2) ["self", "marble"] [] := Binds.all fun us hl => match us, hl with | [_, _], _ => rfl
  have XN : ExN K mg "InvalidPlace" e3 := ⟨q3, g ge3, k3, hs3, t3⟩
  have GNu : FnOk P w K mg base CX0 1 fNu _ ["value", "limit"] (spNum K) := ok_num FNu N
  have GPl : FnOk P w K mg base CX0 2 fPl _ ["value", "height", "width"] (spPl K) := ok_pl FPl TP_ GNu kNu BNu (g aNu)
  have GFc : FnOk P w K mg base CX0 2 fFc _ ["rows"] (spFcx K) := ok_fcx FFc T U FIr BIr (g aIr)
  have GTi := ok_tix (P := P) (w := w) (base := base) FTi CT GFc kFc BFc (g aFc) XT1 GIx1 BIx1
  have GTo : FnOk P w K mg base (L2.CX P w) 5 fTo _ ["cls", "text"] (spOtx K D e1) := ok_otx FTo T MD GTi
  have scTr : FnScope ["self"] ["self"] (defScope sTrayRows) := ⟨rfl, rfl, rfl, by decide +kernel, rfl, by decide +kernel, by decide +kernel⟩
  have GTr : FnOk P w K mg base CX0 1 fTr _ ["self"] (getSp D "_rows") := fn_getter (k := 0) lTr cTr scTr rfl rfl clD nR
  have GMb : FnOk P w K mg base CX0 1 fMb _ ["self"] (spMb K D) := ok_mb FMb TM_ CT
  have GHt : FnOk P w K mg base CX0 1 fHt _ ["self"] (spHt K D) := ok_ht FHt TM_ CT
  have GWd : FnOk P w K mg base CX0 1 fWd _ ["self"] (spWd K D) := ok_wd FWd TM_ CT
  have PTr : PropOf K D "rows" qTr fTr := ⟨pTr, pgtTr, ptkTr, _, aTr⟩
  have PMb : PropOf K D "marbles" qMb fMb := ⟨pMb, pgtMb, ptkMb, _, aMb⟩
  have PHt : PropOf K D "height" qHt fHt := ⟨pHt, pgtHt, ptkHt, _, aHt⟩
  have PWd : PropOf K D "width" qWd fWd := ⟨pWd, pgtWd, ptkWd, _, aWd⟩
  have GCv : FnOk P w K mg base (L2.CX P w) 3 fCv _ ["tray", "place"] (spCp K D e3) := ok_cp FCv CT GPl kPl BPl (g aPl) PHt GHt BHt PWd GWd BWd XN
  have GAt : FnOk P w K mg base (L2.CX P w) 4 fAt _ ["self", "place"] (spAt K D e3) := ok_at FAt TM_ CT GCv kCv BCv (g aCv)
  have GCo : FnOk P w K mg base CX0 3 fCo _ ["self", "x"] (spTc K D) := ok_tc FCo T CT PMb GMb BMb
  have GCl : FnOk P w K mg base (L2.CX P w) 4 fCl _ ["self", "marble"] (spCl K D e2) := ok_cl FCl CT (g0 b_divmod) aCo iCo (raw0 GCo BCo) PWd GWd BWd XT2 GIx2 BIx2
  have GTe : FnOk P w K mg base CX0 1 fTe _ ["self", "other"] (spTq K D) := ok_tq FTe T CT IT
  have GAl : FnOk P w K mg base CX0 3 fAl _ ["_law_one", "_law_due"] (spAl K 2) := ok_al FAl A BAl (g aAl) 2
  have GTk : ∀ a ns, FnOk P w K mg base CX0 1 fTk _ ["_law_row", "_law_many"] (spTk K a ns) := fun a ns => ok_tk FTk T L
  have GRw : ∀ a ns, FnOk P w K mg base CX0 2 fRw _ ["_law_row", "_law_most"] (spRw K a ns) := fun a ns => ok_rw FRw T L (GTk a ns) kTk BTk (g aTk)
  have O : ToldF P w K mg base D (ceF e0 e1 e2 e3 e4 e5) eT [(PIw, "_law_are_rejected.<locals>.<lambda>"), (PLw, "law.<locals>.<lambda>")] := { te := E, ct := CT, mkT := ⟨_, MD, GTi⟩, ot := ⟨_, _, _, ⟨rdC, gaC⟩, ⟨pTo, ⟨_, aTo⟩, fiTo⟩, raw0 GTo BTo⟩, fR := ⟨_, _, FRa, BRa, g aRa⟩, lst := g0 b_list }
  have U1 : TabF base mg [(PIw, "_law_are_rejected.<locals>.<lambda>"), (PLw, "law.<locals>.<lambda>")] "_law_are_rejected.<locals>.<lambda>" cdIw PIw := ⟨TB _ (.head _), .head _, twoT (p := fun p => p.1 = PIw → p.2 = ("_law_are_rejected.<locals>.<lambda>" : Str)) (fun _ => rfl) fun z => absurd z.symm nPP⟩
  have U2 : TabF base mg [(PIw, "_law_are_rejected.<locals>.<lambda>"), (PLw, "law.<locals>.<lambda>")] "law.<locals>.<lambda>" cdLw PLw := ⟨TB _ (.tail _ (.head _)), .tail _ (.head _), twoT (p := fun p => p.1 = PLw → p.2 = ("law.<locals>.<lambda>" : Str)) (fun z => absurd z nPP) fun _ => rfl⟩
  have GIw := fun a ns => ok_rj (a := a) (ns := ns) lIw cIw T O U1 (GTk a ns) kTk BTk (g aTk)
  have LL : LawF3 P w K mg base D (ceF e0 e1 e2 e3 e4 e5) eT [(PIw, "_law_are_rejected.<locals>.<lambda>"), (PLw, "law.<locals>.<lambda>")] cdLw PLw := { txt := T, al := A, srt := g0 b_sorted, told := O, tab := U2, fRw := ⟨_, _, GRw, kRw, BRw, g aRw⟩, fRj := ⟨_, _, GIw, kIw, BIw, g aIw⟩, fAl := ⟨_, _, GAl, kAl, BAl, g aAl⟩, pRo := ⟨_, _, _, PTr, GTr, BTr⟩, pMb := ⟨_, _, _, PMb, GMb, BMb⟩, pHt := ⟨_, _, _, PHt, GHt, BHt⟩, pWd := ⟨_, _, _, PWd, GWd, BWd⟩, mAt := ⟨_, _, ⟨aAt, iAt, kAt⟩, GAt, BAt⟩, cCl := ⟨_, ⟨aCl, iCl, fnCl⟩, raw0 GCl BCl⟩, cCo := ⟨_, aCo, iCo, raw0 GCo BCo⟩, cEq := ⟨_, aTe, iTe, raw0 GTe BTe⟩, nf := nfC }
  exact ok_law3 lLw cLw LL
end TP
end
set_option Elab.async false
open PySem PySem.W PySem.W.X PyProof.Rows
set_option maxRecDepth 100000 in
set_option maxHeartbeats 0 in
theorem PySem.Challenge.cw_tiltheap_k03_trays_holds : PySem.Challenge.rw_tiltheap_k03_trays.Holds := by
  w_on; o_law; k_head; (case hw => w_witness2)
  k_fill
  refine LamX.walk_ofTs (l := PySem.Challenge.rw_tiltheap_k03_trays) (n := 63) (k := 9) (x := "_law_script") (CX := fun _ => L2.CX0) rfl (by decide) rfl ⟨rfl, by decide, by decide⟩ (fun w h Y => km_in_of Y) ?F (fun _ _ _ _ _ z => z)
  case F =>
    intro w mg fa h Y KX G hmg
    refine' TP.all_mk KX G hmg ?aD ?ge0 ?ge1 ?ge2 ?ge3 ?ge4 ?ge5 ?geT ?cAR ?cAC ?cEM ?cLE ?cMS ?b_len ?b_isinstance ?b_str ?b_enumerate ?b_tuple ?b_list ?b_bool ?b_int ?b_range ?b_min ?b_super ?b_ValueError ?b_set ?b_zip ?b_sorted ?b_divmod ?pgC ?hdC ?poC ?saC ?mkC ?kcC ?rdC ?gaC ?nR ?ih ?in_ ?itk ?im ?nfC ?ktD ?aNu ?lNu ?cNu ?kNu ?aPl ?lPl ?cPl ?kPl ?aCv ?lCv ?cCv ?kCv ?aIr ?lIr ?cIr ?kIr ?aFc ?lFc ?cFc ?kFc ?aTi ?iTi ?lTi ?cTi ?kTi ?pTo ?aTo ?fiTo ?lTo ?cTo ?kTo ?pTr ?pgtTr ?ptkTr ?aTr ?lTr ?cTr ?kTr ?pMb ?pgtMb ?ptkMb ?aMb ?lMb ?cMb ?kMb ?pHt ?pgtHt ?ptkHt ?aHt ?lHt ?cHt ?kHt ?pWd ?pgtWd ?ptkWd ?aWd ?lWd ?cWd ?kWd ?aAt ?iAt ?lAt ?cAt ?kAt ?aCl ?iCl ?lCl ?cCl ?kCl ?aCo ?iCo ?lCo ?cCo ?kCo ?aTe ?iTe ?lTe ?cTe ?kTe ?aTk ?lTk ?cTk ?kTk ?aAl ?lAl ?cAl ?kAl ?aRa ?lRa ?cRa ?kRa ?aRw ?lRw ?cRw ?kRw ?aIw ?lIw ?cIw ?kIw ?aLw ?lLw ?cLw ?kLw ?fnCl ?xL1 ?xb1 ?xsa1 ?xex1 ?xty1 ?xk1 ?aIx1 ?tIx1 ?lIx1 ?cIx1 ?kx11 ?kx21 ?kx31 ?kx41 ?kx51 ?kx61 ?kx71 ?xL2 ?xb2 ?xsa2 ?xex2 ?xty2 ?xk2 ?aIx2 ?tIx2 ?lIx2 ?cIx2 ?kx12 ?kx22 ?kx32 ?kx42 ?kx52 ?kx62 ?kx72 ?kx8 ?kx9 ?nI0 ?nI1 ?nI2 ?nI3 ?hg0 ?hk0 ?hs0 ?hd0 ?ha0 ?hm0 ?hv0 ?ht0 ?o00 ?o01 ?o02 ?o03 ?o04 ?o05 ?hg1 ?hk1 ?hs1 ?hd1 ?ha1 ?hm1 ?hv1 ?ht1 ?o10 ?o11 ?o12 ?o13 ?o14 ?o15 ?hg2 ?hk2 ?hs2 ?hd2 ?ha2 ?hm2 ?hv2 ?ht2 ?o20 ?o21 ?o22 ?o23 ?o24 ?o25 ?hg3 ?hk3 ?hs3 ?hd3 ?ha3 ?hm3 ?hv3 ?ht3 ?o30 ?o31 ?o32 ?o33 ?o34 ?o35 ?hg4 ?hk4 ?hs4 ?hd4 ?ha4 ?hm4 ?hv4 ?ht4 ?o40 ?o41 ?o42 ?o43 ?o44 ?o45 ?hg5 ?hk5 ?hs5 ?hd5 ?ha5 ?hm5 ?hv5 ?ht5 ?o50 ?o51 ?o52 ?o53 ?o54 ?o55 ?q3 ?k3 ?t3 ?vIw ?ppIw ?HIw ?NIw ?ZIw ?vLw ?ppLw ?HLw ?NLw ?ZLw ?eAR ?eAC ?eEM ?eLE ?eMS ?nPP
    (case aD => k_is)
    (case ge0 => k_is)
    (case ge1 => k_is)
    (case ge2 => k_is)
    (case ge3 => k_is)
    (case ge4 => k_is)
    (case ge5 => k_is)
    (case geT => k_is)
    (case cAR => k_is)
    (case cAC => k_is)
    (case cEM => k_is)
    (case cLE => k_is)
    (case cMS => k_is)
    (case b_len => k_is)
    (case b_isinstance => k_is)
    (case b_str => k_is)
    (case b_enumerate => k_is)
    (case b_tuple => k_is)
    (case b_list => k_is)
    (case b_bool => k_is)
    (case b_int => k_is)
    (case b_range => k_is)
    (case b_min => k_is)
    (case b_super => k_is)
    (case b_ValueError => k_is)
    (case b_set => k_is)
    (case b_zip => k_is)
    (case b_sorted => k_is)
    (case b_divmod => k_is)
    (case pgC => k_is)
    (case hdC => k_is)
    (case poC => k_is)
    (case saC => k_is)
    (case mkC => k_is)
    (case kcC => k_is)
    (case rdC => k_is)
    (case gaC => k_is)
    (case nR => k_is)
    (case ih => k_is)
    (case in_ => k_is)
    (case itk => k_is)
    (case im => k_is)
    (case nfC => k_is)
    (case ktD => kernel_rfl)
    (case aNu => k_is)
    (case lNu => k_is)
    (case cNu => k_is)
    (case kNu => k_is)
    (case aPl => k_is)
    (case lPl => k_is)
    (case cPl => k_is)
    (case kPl => k_is)
    (case aCv => k_is)
    (case lCv => k_is)
    (case cCv => k_is)
    (case kCv => k_is)
    (case aIr => k_is)
    (case lIr => k_is)
    (case cIr => k_is)
    (case kIr => k_is)
    (case aFc => k_is)
    (case lFc => k_is)
    (case cFc => k_is)
    (case kFc => k_is)
    (case aTi => k_is)
    (case iTi => k_is)
    (case lTi => k_is)
    (case cTi => k_is)
    (case kTi => k_is)
    (case pTo => k_is)
    (case aTo => k_is)
    (case fiTo => k_is)
    (case lTo => k_is)
    (case cTo => k_is)
    (case kTo => k_is)
    (case pTr => k_is)
    (case pgtTr => k_is)
    (case ptkTr => k_is)
    (case aTr => k_is)
    (case lTr => k_is)
    (case cTr => k_is)
    (case kTr => k_is)
    (case pMb => k_is)
    (case pgtMb => k_is)
    (case ptkMb => k_is)
    (case aMb => k_is)
    (case lMb => k_is)
    (case cMb => k_is)
    (case kMb => k_is)
    (case pHt => k_is)
    (case pgtHt => k_is)
    (case ptkHt => k_is)
    (case aHt => k_is)
    (case lHt => k_is)
    (case cHt => k_is)
    (case kHt => k_is)
    (case pWd => k_is)
    (case pgtWd => k_is)
    (case ptkWd => k_is)
    (case aWd => k_is)
    (case lWd => k_is)
    (case cWd => k_is)
    (case kWd => k_is)
    (case aAt => k_is)
    (case iAt => k_is)
    (case lAt => k_is)
    (case cAt => k_is)
    (case kAt => k_is)
    (case aCl => k_is)
    (case iCl => k_is)
    (case lCl => k_is)
    (case cCl => k_is)
    (case kCl => k_is)
    (case aCo => k_is)
    (case iCo => k_is)
    (case lCo => k_is)
    (case cCo => k_is)
    (case kCo => k_is)
    (case aTe => k_is)
    (case iTe => k_is)
    (case lTe => k_is)
    (case cTe => k_is)
    (case kTe => k_is)
    (case aTk => k_is)
    (case lTk => k_is)
    (case cTk => k_is)
    (case kTk => k_is)
    (case aAl => k_is)
    (case lAl => k_is)
    (case cAl => k_is)
    (case kAl => k_is)
    (case aRa => k_is)
    (case lRa => k_is)
    (case cRa => k_is)
    (case kRa => k_is)
    (case aRw => k_is)
    (case lRw => k_is)
    (case cRw => k_is)
    (case kRw => k_is)
    (case aIw => k_is)
    (case lIw => k_is)
    (case cIw => k_is)
    (case kIw => k_is)
    (case aLw => k_is)
    (case lLw => k_is)
    (case cLw => k_is)
    (case kLw => k_is)
    (case fnCl => k_is)
    (case xL1 => k_is)
    (case xb1 => first | rfl | decide +kernel)
    (case xsa1 => k_is)
    (case xex1 => k_is)
    (case xty1 => k_is)
    (case xk1 => k_is)
    (case aIx1 => k_is)
    (case tIx1 => k_is)
    (case lIx1 => k_is)
    (case cIx1 => k_is)
    (case kx11 => k_is)
    (case kx21 => rfl)
    (case kx31 => first | rfl | decide +kernel)
    (case kx41 => k_is)
    (case kx51 => k_is)
    (case kx61 => kernel_rfl)
    (case kx71 => k_is)
    (case xL2 => k_is)
    (case xb2 => first | rfl | decide +kernel)
    (case xsa2 => k_is)
    (case xex2 => k_is)
    (case xty2 => k_is)
    (case xk2 => k_is)
    (case aIx2 => k_is)
    (case tIx2 => k_is)
    (case lIx2 => k_is)
    (case cIx2 => k_is)
    (case kx12 => k_is)
    (case kx22 => rfl)
    (case kx32 => first | rfl | decide +kernel)
    (case kx42 => k_is)
    (case kx52 => k_is)
    (case kx62 => kernel_rfl)
    (case kx72 => k_is)
    (case kx8 => k_is)
    (case kx9 => first | rfl | decide +kernel)
    (case nI0 => k_is)
    (case nI1 => k_is)
    (case nI2 => k_is)
    (case nI3 => k_is)
    (case hg0 => k_is)
    (case hk0 => k_is)
    (case hs0 => k_is)
    (case hd0 => k_is)
    (case ha0 => k_is)
    (case hm0 => k_is)
    (case hv0 => kernel_rfl)
    (case ht0 => kernel_rfl)
    (case o00 => kernel_rfl)
    (case o01 => kernel_rfl)
    (case o02 => kernel_rfl)
    (case o03 => kernel_rfl)
    (case o04 => kernel_rfl)
    (case o05 => kernel_rfl)
    (case hg1 => k_is)
    (case hk1 => k_is)
    (case hs1 => k_is)
    (case hd1 => k_is)
    (case ha1 => k_is)
    (case hm1 => k_is)
    (case hv1 => kernel_rfl)
    (case ht1 => kernel_rfl)
    (case o10 => kernel_rfl)
    (case o11 => kernel_rfl)
    (case o12 => kernel_rfl)
    (case o13 => kernel_rfl)
    (case o14 => kernel_rfl)
    (case o15 => kernel_rfl)
    (case hg2 => k_is)
    (case hk2 => k_is)
    (case hs2 => k_is)
    (case hd2 => k_is)
    (case ha2 => k_is)
    (case hm2 => k_is)
    (case hv2 => kernel_rfl)
    (case ht2 => kernel_rfl)
    (case o20 => kernel_rfl)
    (case o21 => kernel_rfl)
    (case o22 => kernel_rfl)
    (case o23 => kernel_rfl)
    (case o24 => kernel_rfl)
    (case o25 => kernel_rfl)
    (case hg3 => k_is)
    (case hk3 => k_is)
    (case hs3 => k_is)
    (case hd3 => k_is)
    (case ha3 => k_is)
    (case hm3 => k_is)
    (case hv3 => kernel_rfl)
    (case ht3 => kernel_rfl)
    (case o30 => kernel_rfl)
    (case o31 => kernel_rfl)
    (case o32 => kernel_rfl)
    (case o33 => kernel_rfl)
    (case o34 => kernel_rfl)
    (case o35 => kernel_rfl)
    (case hg4 => k_is)
    (case hk4 => k_is)
    (case hs4 => k_is)
    (case hd4 => k_is)
    (case ha4 => k_is)
    (case hm4 => k_is)
    (case hv4 => kernel_rfl)
    (case ht4 => kernel_rfl)
    (case o40 => kernel_rfl)
    (case o41 => kernel_rfl)
    (case o42 => kernel_rfl)
    (case o43 => kernel_rfl)
    (case o44 => kernel_rfl)
    (case o45 => kernel_rfl)
    (case hg5 => k_is)
    (case hk5 => k_is)
    (case hs5 => k_is)
    (case hd5 => k_is)
    (case ha5 => k_is)
    (case hm5 => k_is)
    (case hv5 => kernel_rfl)
    (case ht5 => kernel_rfl)
    (case o50 => kernel_rfl)
    (case o51 => kernel_rfl)
    (case o52 => kernel_rfl)
    (case o53 => kernel_rfl)
    (case o54 => kernel_rfl)
    (case o55 => kernel_rfl)
    (case q3 => kernel_rfl)
    (case k3 => k_is)
    (case t3 => k_is)
    (case vIw => k_is)
    (case ppIw => rfl)
    (case HIw => kernel_rfl)
    (case NIw => first | rfl | kernel_rfl)
    (case ZIw => exact km_tabs_of Y _ (by simp))
    (case vLw => k_is)
    (case ppLw => rfl)
    (case HLw => kernel_rfl)
    (case NLw => first | rfl | kernel_rfl)
    (case ZLw => exact km_tabs_of Y _ (by simp))
    (case eAR => first | rfl | decide +kernel)
    (case eAC => first | rfl | decide +kernel)
    (case eEM => first | rfl | decide +kernel)
    (case eLE => first | rfl | decide +kernel)
    (case eMS => first | rfl | decide +kernel)
    (case nPP => decide)
