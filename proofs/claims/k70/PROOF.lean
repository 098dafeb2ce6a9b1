import PyProof.Rows.All
import Wide.All
import OpenK.AllK
import Wide.FinOn
import HandS.Base
import HandS.Call
import HandS.Set
import PyProof.StrWalks
import HandS.List
import HandS.TupAny
import HandS.Text
import HandS.Conv
import KE.KDictPairs
import HandS.Dict
import PySem.Syntax
import PyProof.EqLayable
import PyProof.StrBlock2
import HandS.StrMore
import HandS.Comp
import HandS.Ends
import HandS.Iter
import HandS.Words
import HandS.Exc
import HandS.TryOnly
import HandS.ExcOwn
import HandS.Flow
import HandS.Wide
import HandS.WideBits
import HandS.Style
import HandS.IsInst
import HandS.Small
import HandS.Zip
import HandS.Rev
import KE.GoesEnum
import HandS.WordsExc
import HandS.ExcIs
import HandS.Gcd
import HandS.FStr
import HandS.SetKeys
import HandS.More
import KE.DataMinMax
import PyProof.Rows.StrAscii
import PyProof.Rows.StrDigitsNeg
import PyProof.Rows.StrJoinRep
import PySem.Challenge.RW_tensorworks_k70_lines_of_the_journal
section PtIpSet
set_option Elab.async false
set_option linter.all false
set_option maxRecDepth 100000
namespace IpS
open PySem PySem.Spec PyProof.Rows
/-! ### the signs met so far, each once -/
def addC (acc : List Str) (c : Str) : List Str := if acc.any (· == c) then acc else acc ++ [c]
def metC (val : Nat → Str) : Nat → List Str
  | 0 => []
  | i + 1 => addC (metC val i) (val i)
theorem metC_le (val : Nat → Str) : ∀ i, (metC val i).length ≤ i
  | 0 => Nat.le_refl _
  | i + 1 => by
    have h0 := metC_le val i
    rw [metC, addC]
    split
    · omega
    · rw [List.length_append, List.length_singleton]
      omega
theorem addC_any (σ : List Str) (v k : Str) : (addC σ v).any (· == k) = (σ.any (· == k) || decide (k = v)) := by
  have flip : (v == k) = decide (k = v) := by
    by_cases q : k = v
    · rw [q, decide_eq_true rfl, beq_self_eq_true]
    · rw [decide_eq_false q]
      exact beq_eq_false_iff_ne.mpr fun z => q z.symm
  rw [addC]
  split
  · rename_i hv
    by_cases q : k = v
    · rw [q, hv]; rfl
    · rw [decide_eq_false q, Bool.or_false]
  · rw [List.any_append, List.any_cons, List.any_nil, Bool.or_false, flip]
theorem addC_length (σ : List Str) (v : Str) : (addC σ v).length = if σ.any (· == v) then σ.length else σ.length + 1 := by
  rw [addC]
  split
  · rfl
  · rw [List.length_append]; rfl
def sgn (x : Str) (i : Nat) : Str := ⟨#[x.cps.getD i 0]⟩
/-! ### the update of a set by what is walked -/
section
variable {prog : Program} {w : World} {A : Around} {R : Result → Shared → Prop} {s : Shared} {S I : Addr}
/-- one turn -/
theorem upd_turn (h : wpAny (model prog w) A.in1 (pyNext (.ref I)) (fun o t => match o with
      | none => R (.ok (.ret .none)) t
      | some v => wpAny (model prog w) A.in1 (setAdd S v) (fun _ u => codeAny (model prog w) A (.builtin "set.update.loop" ⟨[.ref S, .ref I], []⟩) R u) (fun e u => R (.error e) u) t) (fun e t => R (.error e) t) s) :
    codeAny (model prog w) A (.builtin "set.update.loop" ⟨[.ref S, .ref I], []⟩) R s := by
  apply codeAny_builtin PyProof.Rows.F.entry_set_update_loop
  rw [A.under_plainId PyProof.Rows.F.plain_set_update_loop]
  apply wpAny_bind
  apply wpAny_mono h _ fun _ _ e => e
  intro o t
  cases o with
  | none => exact fun q => wpAny_pure q
  | some v =>
    intro q
    apply wpAny_bind
    apply wpAny_holding
    exact wpAny_mono q (fun _ _ z => wpAny_pure ⟨plainId_quiet PyProof.Rows.F.plain_set_update_loop _, z⟩) fun _ _ e => e
variable {fp wr : List Addr} {G : Array GenState → Array GenState → Prop} {n : Nat} {P : Nat → Value → Prop} {St : Nat → Shared → Prop}
/-- the set holds what was met in i turns -/
abbrev Met (prog : Program) (w : World) (h : Heap) (S : Addr) (val : Nat → Str) (i : Nat) : Prop := h.SetOf (PySem.strKind prog w) S (fun c => (metC val i).any (· == c)) (metC val i).length
theorem Met.keep {h h' : Heap} {val : Nat → Str} {i : Nat} (m : Met prog w h S val i) (k : ∀ o, h.get? S = some o → h'.get? S = some o) : Met prog w h' S val i := by
  obtain ⟨o, a, b, c, q, r⟩ := m
  exact ⟨o, a, b, c, k o q, r⟩
theorem upd_all (W : WalksS prog w A.in1 I fp wr G n P St) (out : S ∉ fp) (val : Nat → Str) (told : ∀ i v, P i v → ∃ t, v = .str (val i) t) (few : n + 1 < scanBound) (left : Nat) :
    ∀ (i : Nat) (s : Shared), i + left = n → St i s → Met prog w s.heap S val i →
      (∀ t, Moved (S :: wr) G s t → Met prog w t.heap S val n → R (.ok (.ret .none)) t) → codeAny (model prog w) A (.builtin "set.update.loop" ⟨[.ref S, .ref I], []⟩) R s := by
  have out2 : S ∉ wr := fun q => out (W.sub S q)
  have more : ∀ b ∈ wr, b ∈ S :: wr := fun b q => .tail _ q
  induction left with
  | zero =>
    rintro i s rfl st met fin
    apply upd_turn
    exact W.done s _ _ st fun t mv => fin t (mv.mono more) (met.keep fun o q => mv.heap S o out2 q)
  | succ left ih =>
    intro i s sum st met fin
    apply upd_turn
    refine W.item i s _ _ (by omega) st fun v t hv st2 mv => ?_
    obtain ⟨tk, rfl⟩ := told i v hv
    have met2 := met.keep (h' := t.heap) fun o q => mv.heap S o out2 q
    unfold setAdd
    apply wpAny_holding
    apply wpAny_bind
    apply (PySem.strKind prog w).pyHash (k := val i) (strKind_is _ _ _ _)
    have room := metC_le val i
    refine wpAny_setAddHashed_of (knd := PySem.strKind prog w) (s := { t with toks := t.toks + 1 }) (strKind_is _ _ _ _) rfl met2 (by omega) fun h3 only met3 => ?_
    have ne : ∀ b, b ∈ fp → b ≠ S := fun b q z => out (z ▸ q)
    refine ih (i + 1) _ (by omega) (W.frame (i + 1) t h3 _ st2 (Nat.le_succ _) fun b q o e => ?_) (SetOf_congr met3 (fun c => (addC_any _ _ c).symm) (addC_length _ _).symm) fun u mv2 met4 => fin u (Moved.trans W.gtrans ((mv.mono more).then_heap (Nat.le_succ _) fun b o q e => ?_) mv2) met4
    · rw [only.2 b (ne b q)]
      exact e
    · rw [only.2 b fun z => q (z ▸ .head _)]
      exact e
end
section
variable {prog : Program} {w : World} {A : Around} {E : Value → Shared → Prop} {s : Shared}
theorem text_no_set : isSubtype (.type "str") (.type "set") = pure false := by rw [isSubtype_type]; kernel_rfl
theorem text_no_frz : isSubtype (.type "str") (.type "frozenset") = pure false := by rw [isSubtype_type]; kernel_rfl
/-- the object of a new set -/
def setObj (led : Bool) : Obj := { cls := .type "set", dict := none, data := .set #[] 0 (.fresh 0 0 led) }
/-- what a text is to a set -/
theorem upd_text {A : Around} {E : Value → Shared → Prop} {s : Shared} {x : Str} {t : Tok} {S : Addr} {led : Bool} {Q : Unit → Shared → Prop} (hh : A.handled = none) (few : x.cps.size + 1 < scanBound) (hS : s.heap.get? S = some (setObj led))
    (h : ∀ h' tk, Met prog w h' S (sgn x) x.cps.size → (∀ b o, b ≠ S → s.heap.get? b = some o → h'.get? b = some o) → Q () { s with heap := h', toks := tk }) :
    wpAny (model prog w) A (Builtin.Frozenset.updateFrom "set.__init__" S (.str x t)) Q E s := by
  have g1 := text_no_set
  have g2 := text_no_frz
  have g3 : (Value.type "str" == Value.type "dict") = false := by decide
  unfold Builtin.Frozenset.updateFrom
  generalize hw : pyIter = step
  wp_walk
  subst hw
  apply wpAny_pyIter_str
  intro o St W st
  apply wpAny_bind
  apply wpAny_runValue
  have lt : S < s.heap.objs.size := Heap.lt_size hS
  refine upd_all (W A.in1 hh).toS (by simpa using Nat.ne_of_lt lt) (sgn x) (fun i v q => ?_) few x.cps.size 0 _ (Nat.zero_add _) st ?_ fun u mv met => ?_
  · obtain ⟨c, k, e, rfl⟩ := q
    refine ⟨k, ?_⟩
    rw [sgn, Array.getD_eq_getD_getElem?, e]
    rfl
  · have fresh := (PyProof.Rows.setObjOf_fresh (knd := PySem.strKind prog w) led).setOf (Heap.get?_push_of_some o hS) (by unfold scanBound; omega)
    exact SetOf_congr fresh (fun _ => rfl) rfl
  · have e : u = { s with heap := u.heap, toks := u.toks } := by
      obtain ⟨_, _, _, _, _⟩ := u
      have q1 := mv.gens
      have q2 := mv.drawn
      have q3 := mv.os
      cases q1
      cases q2
      cases q3
      rfl
    rw [e]
    apply wpAny_pure
    refine h _ _ met fun b ob q eb => mv.heap b ob ?_ (Heap.get?_push_of_some o eb)
    have := Heap.lt_size eb
    simp only [List.mem_cons, List.not_mem_nil, or_false, not_or]
    exact ⟨q, Nat.ne_of_lt this⟩
set_option maxHeartbeats 3200000 in
/-- set(text): a new object at the end of the heap -/
theorem call_set_text {x : Str} {t : Tok} {Q : Value → Shared → Prop} (calm : A.handled = none) (few : x.cps.size + 1 < scanBound)
    (h : ∀ (h' : Heap) (tk : Nat), Met prog w h' s.heap.objs.size (sgn x) x.cps.size → (∀ b o, b < s.heap.objs.size → s.heap.get? b = some o → h'.get? b = some o) → Q (.ref s.heap.objs.size) { s with heap := h', toks := tk }) :
    wpAny (model prog w) A (call (.type "set") [.str x t]) Q E s := by
  have F := PySem.F.called_set
  have f1 := F.notType
  have f2 := F.canCreate
  obtain ⟨_, _, f3⟩ := F.mro
  have f4 := F.made
  have f5 := F.sub
  have f6 := PySem.F.typeCall_set_1 (.str x t)
  apply wpAny_call
  apply codeAny_of_tree
  show wpAny _ _ (callAny (.type "set") _) _ _ _
  apply wpAny_pure
  constructor
  · exact Code.quiet_builtin _ (by decide +kernel)
  apply codeAny_builtin PySem.F.entry_type_call
  rw [A.under_plain (weight_type_call_type "set" [.str x t] []) rfl]
  repeat (any_goals (first | assumption | wp_step))
  -- the new object
  apply codeAny_mono (code_set_new_1 (.str x t) (E := E) (Q₁ := fun v u => ∃ led, v = .ref s.heap.objs.size ∧ u = { s with heap := s.heap.push (setObj led) }) fun led => ⟨led, rfl, rfl⟩)
  rintro (e | fl) s1 hv
  · exact hv
  cases fl with
  | ret v =>
    obtain ⟨led, rfl, rfl⟩ := hv
    have at_ : (s.heap.push (setObj led)).get? s.heap.objs.size = some (setObj led) := Heap.get?_push_size _ rfl
    have ty : Shared.TypeIs { s with heap := s.heap.push (setObj led) } (.ref s.heap.objs.size) "set" := ⟨_, at_, rfl⟩
    have g1 := F.init.lookup
    have g2 := F.init.bind (.ref s.heap.objs.size)
    repeat (any_goals (first | assumption | wp_step))
    -- its __init__
    apply codeAny_mono (codeAny_call_builtin (R := wants (fun r u => r = .none ∧ ∃ h' tk, u = { s with heap := h', toks := tk } ∧ Met prog w h' s.heap.objs.size (sgn x) x.cps.size ∧ ∀ b o, b < s.heap.objs.size → s.heap.get? b = some o → h'.get? b = some o) E) F.init.plain PySem.F.entry_set_init (check_set_init_1 ty ?_))
    · rintro (e | fl) s2 hu
      · exact hu
      cases fl with
      | ret r =>
        obtain ⟨rfl, h', tk, rfl, m, k⟩ := hu
        repeat (any_goals (first | assumption | wp_step))
        exact h _ _ m k
      | _ => exact hu.elim
    · unfold Builtin.«set.__init__» noKeywords
      generalize hu : Builtin.Frozenset.updateFrom = U
      wp_walk
      subst hu
      apply upd_text (led := led) (by simp [calm]) few at_
      intro h' tk m k
      repeat (any_goals (first | assumption | wp_step))
      exact ⟨rfl, h', tk, rfl, m, fun b o lt q => k b o (Nat.ne_of_lt lt) (Heap.get?_push_of_some _ q)⟩
  | _ => exact hv.elim
end
end IpS
end PtIpSet
section PtIpTup
set_option Elab.async false
set_option linter.all false
set_option maxRecDepth 100000
/-! tuples that are known to have no dict of their own -/
namespace Ip
open PySem PySem.Spec PyProof.Rows L2
/-- a tuple without a dict -/
def TupP (K : PySem.W.Frag) (H : Hp) (a : Addr) (xs : List V) : Prop :=
  (∃ o, H a = some (.frz o (.tup xs)) ∧ o.dict = none) ∨
    ∃ (o : Obj) (its : Array Value) (n : Nat), K.lookup a = some o ∧ o.cls = .type "tuple" ∧ o.dict = none ∧ o.data = .seq its n ∧ its.size ≤ sizeLine ∧ Vals xs its.toList
theorem TupP.sq {K : PySem.W.Frag} {H : Hp} {a : Addr} {xs : List V} (h : TupP K H a xs) : SqT K H a xs := by
  rcases h with ⟨o, h, _⟩ | ⟨o, its, n, h1, h2, _, h4⟩
  · exact .inl (.inr ⟨o, h⟩)
  · exact .inr ⟨o, its, n, h1, h2, h4⟩
theorem TupP.of {K : PySem.W.Frag} {H : Hp} {a : Addr} {o : Obj} {xs : List V} (h : H a = some (.frz o (.tup xs))) (hd : o.dict = none) : TupP K H a xs := .inl ⟨o, h, hd⟩
theorem TupP.upd {K : PySem.W.Frag} {H : Hp} {a p : Addr} {o : HO} {xs : List V} (hp : H p = none) (h : TupP K H a xs) : TupP K (L2.upd H p o) a xs := by
  rcases h with ⟨u, h, hd⟩ | h
  · exact .inl ⟨u, by rw [upd_ne (ne_of_none h hp)]; exact h, hd⟩
  · exact .inr h
theorem TupP.setL {K : PySem.W.Frag} {H : Hp} {a p : Addr} {vs ws xs : List V} (hp : H p = some (.lst vs)) (h : TupP K H a xs) : TupP K (L2.upd H p (.lst ws)) a xs := by
  rcases h with ⟨u, h, hd⟩ | h
  · exact .inl ⟨u, by rw [upd_ne (ne_of h hp (fun z => by cases z))]; exact h, hd⟩
  · exact .inr h
/-- things that change and are no tuples -/
def hotO : HO → Prop
  | .lst _ => True
  | .dK _ => True
  | .frz _ (.dK _) => True
  | _ => False
theorem TupP.setU {K : PySem.W.Frag} {H : Hp} {a p : Addr} {u w : HO} {xs : List V} (hp : H p = some u) (hu : hotO u) (h : TupP K H a xs) : TupP K (L2.upd H p w) a xs := by
  rcases h with ⟨o, h, hd⟩ | h
  · exact .inl ⟨o, by rw [upd_ne (ne_of h hp (fun z => by rw [← z] at hu; exact hu))]; exact h, hd⟩
  · exact .inr h
theorem TupP.const {K : PySem.W.Frag} {H : Hp} {a : Addr} {xs : List V} (h : ∃ (o : Obj) (its : Array Value) (n : Nat), K.lookup a = some o ∧ o.cls = .type "tuple" ∧ o.dict = none ∧ o.data = .seq its n ∧ its.size ≤ sizeLine ∧ Vals xs its.toList) : TupP K H a xs := .inr h
/-- a new tuple -/
def NewT (H : Hp) (xs : List V) (Q : VK) : Prop := ∀ p o, H p = none → o.dict = none → Q (.ref p) (upd H p (.frz o (.tup xs)))
def tupO (us : List Value) : Obj := { cls := .type "tuple", data := .seq us.toArray }
section
variable {X : Cx} {pins : List (Addr × Obj)} {σ : L2.St} {H : Hp} {s : Shared} {Q : VK} {xs : List V} {us : List Value}
theorem new_tup {t : Nat} (I : Inv X pins σ H s) (r : Vals xs us) (z : xs.length ≤ sizeLine) (q : NewT H xs Q) : EP X pins σ Q (.ref s.heap.objs.size) { s with heap := s.heap.push (tupO us), toks := t } :=
  have at_ : (s.heap.push (tupO us)).get? s.heap.objs.size = some (tupO us) := Heap.get?_push_size _ rfl
  ⟨.ref s.heap.objs.size, upd H s.heap.objs.size (.frz (tupO us) (.tup xs)), I.laid (fun _ _ e => Heap.get?_push_of_some _ e) (Nat.le_refl _) ⟨at_, z, us, r, _, at_, rfl, _, rfl⟩, rfl, q _ _ (I.hok.fresh (Nat.le_refl _)) rfl⟩
end
section
variable {X : Cx}
theorem pe_tupZ {es : List Expr} {k : Nat} {pos : Pos} {t : TA} (h : PA X es t) : PE X (.Tuple es k pos) (fun σ H Q => t σ H fun xs H1 => xs.length ≤ sizeLine ∧ NewT H1 xs Q) :=
  ⟨fun pins s σ H Q I q => wpAny_Tuple_spliced (thn (h.run pos pins s σ H _ I q) fun us s1 ⟨xs, H1, I1, r, z, q1⟩ => ⟨by rw [← r.length]; exact z, new_tup (t := s1.toks) I1 r z q1⟩)⟩
/-- tuple(xs) -/
theorem cr_tupleZ : CallR X (.type "tuple") (fun vs H Q => ∃ p ys, vs = [.ref p] ∧ ((SqL X.K H p ys ∧ NewT H ys Q) ∨ (TupP X.K H p ys ∧ Q (.ref p) H))) := by
  rintro pins s σ H vs us Q I r ⟨p, ys, rfl, hq⟩
  obtain ⟨u, rfl, rx⟩ := vals1 r
  cases rx
  rcases hq with ⟨hl, q⟩ | ⟨ht, q⟩
  · obtain ⟨its, rv, pl, z⟩ := I.list hl
    have le := rv.length
    exact call_tuple_list pl.isList (fun h' kp => new_tup (s := { s with heap := h' }) (t := s.toks) (I.kept (t' := s.toks) kp) rv z q) (by rw [List.size_toArray]; omega)
  · obtain ⟨its, rv, pl, z⟩ := I.tuple ht.sq
    refine call_tuple_same pl ?_
    exact ⟨V.ref p, H, I, rfl, q⟩
/-- t + u -/
theorem or_catZ : OpR X (binaryOp .Add) (fun x y H Q => ∃ a b xs ys, x = .ref a ∧ y = .ref b ∧ TupP X.K H a xs ∧ TupP X.K H b ys ∧ xs.length + ys.length ≤ sizeLine ∧
    (xs = [] → Q (.ref b) H) ∧ (xs ≠ [] → ys = [] → Q (.ref a) H) ∧ NewT H (xs ++ ys) Q) := by
  rintro pins s σ H x y v u Q I rx ry ⟨a, b, xs, ys, rfl, rfl, ha, hb, hz, q0, q1, q2⟩
  cases rx
  cases ry
  obtain ⟨its, r1, p1, _⟩ := I.tuple ha.sq
  obtain ⟨its2, r2, p2, _⟩ := I.tuple hb.sq
  by_cases hx : xs = []
  · subst hx
    cases r1
    refine cat_tup0 p1 p2 ?_
    exact ⟨V.ref b, H, I, rfl, q0 rfl⟩
  · exact HT.cat_tup p1 p2 (fun e => hx (r1.nil_iff.mp e)) (fun e => ⟨.ref a, H, I, rfl, q1 hx (r2.nil_iff.mp e)⟩) (fun _ => new_tup (t := s.toks) I (r1.append r2) (by rw [List.length_append]; exact hz) q2) (by rw [← r1.length, ← r2.length]; exact hz)
/-- t[lo:hi] -/
theorem sl_cutZ : SlR X (fun x lo hi H Q => ∃ a xs, x = .ref a ∧ TupP X.K H a xs ∧ (HT.sIx xs.length 0 lo = 0 ∧ HT.sIx xs.length xs.length hi = xs.length → Q (.ref a) H) ∧ NewT H (cutV xs lo hi) Q) := by
  rintro pins s σ H x v vl vu lo hi sl Q I rx hs pl pu ⟨a, xs, rfl, hx, q1, q2⟩
  cases rx
  obtain ⟨its, r, ht, hz⟩ := I.tuple hx.sq
  have n : its.toArray.size = xs.length := by rw [List.size_toArray, r.length]
  refine ⟨_, _, slot_tuple_getitem.lookup, ht.typeIs, ?_⟩
  by_cases whole : HT.sIx xs.length 0 lo = 0 ∧ HT.sIx xs.length xs.length hi = xs.length
  · exact getItem_tuple_whole ht hs pl pu (n ▸ whole) ⟨.ref a, H, I, rfl, q1 whole⟩
  · refine HT.getItem_tuple_cut ht hs pl pu (n ▸ whole) ?_ (n ▸ hz)
    rw [n]
    exact new_tup (t := s.toks) I ((r.drop _).take _) (Nat.le_trans (cutV_length xs lo hi) hz) q2
/-- divmod(i, j) -/
theorem cr_divmodZ : CallR X (.builtin "divmod") (fun vs H Q => ∃ i j, vs = [.int i, .int j] ∧ CDiv i j ∧ NewT H [.int (i / j), .int (i % j)] Q) := by
  rintro pins s σ H vs us Q I r ⟨i, j, rfl, ⟨h1, h2⟩, q⟩
  obtain ⟨u, w, rfl, ⟨t, rfl⟩, ⟨t', rfl⟩⟩ := vals2 r
  apply divmod_int (by omega) _ (.inl (PyProof.noPylong_small (by omega)))
  have j0 : 0 ≤ j := by omega
  rw [Int.fdiv_eq_ediv_of_nonneg i j0, Int.fmod_eq_emod_of_nonneg i j0]
  exact new_tup (xs := [.int (i / j), .int (i % j)]) (us := [.int (i / j) s.toks, .int (i % j) (s.toks + 1)]) I (.cons ⟨_, rfl⟩ (.cons ⟨_, rfl⟩ .nil)) (show 2 ≤ sizeLine by decide) q
/-- x.partition(sep) -/
theorem mt_partZ : MtR X "str.partition" (fun x vs H Q => ∃ a b, x = .str a ∧ vs = [.str b] ∧ (b.length == 0) = false ∧ a.length ≤ sizeLine ∧ NewT H [.str (Txt.partition a b).1, .str (Txt.partition a b).2.1, .str (Txt.partition a b).2.2] Q) := by
  intro pins s σ H x vs v us Q I rx rs h
  obtain ⟨a, b, rfl, rfl, hb, hz, q⟩ := h
  obtain ⟨t, rfl⟩ := rx
  obtain ⟨_, rfl, ⟨u, rfl⟩⟩ := vals1 rs
  refine call_meets F.slot_str_partition (typeIs_str _ _ _) F.entry_str_partition (F.args_str_partition_2 (.str a t) (.str b u)) (meets_str_partition a b t u hb hz) ?_
  unfold Txt.partition at q
  revert q
  cases Builtin.Str.occurrences a b 0 a.length 1 with
  | nil => exact fun q => new_tup (xs := [.str a, .str "", .str ""]) I (.cons ⟨_, rfl⟩ (.cons ⟨_, rfl⟩ (.cons ⟨_, rfl⟩ .nil))) (show 3 ≤ sizeLine by decide) q
  | cons i is => exact fun q => new_tup (xs := [.str (Builtin.Str.strSub a 0 i), .str b, .str (Builtin.Str.strSub a (i + b.length) a.length)]) I (.cons ⟨_, rfl⟩ (.cons ⟨_, rfl⟩ (.cons ⟨_, rfl⟩ .nil))) (show 3 ≤ sizeLine by decide) q
/-! ### dict(t), t a tuple of pairs -/
theorem tup_plain {pins : List (Addr × Obj)} {σ : L2.St} {H : Hp} {s : Shared} {a : Addr} {xs : List V} (I : Inv X pins σ H s) (h : TupP X.K H a xs) : ∃ its : List Value, Vals xs its ∧ PlainSeq "tuple" s.heap a its.toArray ∧ xs.length ≤ sizeLine := by
  rcases h with ⟨o, h, hd⟩ | ⟨o, its, n, h1, h2, h3, h4, h5, h6⟩
  · obtain ⟨e, z, us, r, o2, e2, c, n, d⟩ := I.hok a _ h
    rw [e] at e2
    cases e2
    exact ⟨us, r, ⟨o, n, e, c, hd, d⟩, z⟩
  · refine ⟨its.toList, h6, ⟨o, n, I.kIn a o h1, h2, h3, by simpa using h4⟩, ?_⟩
    have := h6.length
    have e : its.toList.length = its.size := Array.length_toList
    omega
end
end Ip
end PtIpTup
section PtIpCore
set_option Elab.async false
set_option linter.all false
/-! The small machine: values without addresses, a store of lists, a core language, what it does. -/
namespace Ip
open PySem

inductive DV where
  | non | bl (b : Bool) | int (i : Int) | str (x : Str) | tup (xs : List DV) | ref (n : Nat) | exc (c : Nat)
  deriving Inhabited

inductive Cell where
  | lst (xs : List DV) | frz (xs : List DV) | dct (kvs : List (L2.Key × DV)) | fdct (kvs : List (L2.Key × DV))
  deriving Inhabited
abbrev Store := List Cell
abbrev Loc := List (Option DV)

inductive Res (α : Type) where
  | ok (a : α) (s : Store) | exc (c : Nat) (s : Store) | stuck
@[inline] def Res.bind {α β : Type} (m : Res α) (f : α → Store → Res β) : Res β := match m with
  | .ok a s => f a s
  | .exc c s => .exc c s
  | .stuck => .stuck
/-- without exceptions -/
def Res.quiet {α : Type} : Res α → Res α
  | .ok a s => .ok a s
  | _ => .stuck
def optR {α β : Type} (o : Option α) (f : α → Res β) : Res β := match o with
  | some a => f a
  | none => .stuck
inductive Out where
  | nx (r : Loc) (s : Store) | rt (v : DV) (s : Store) | bk (r : Loc) (s : Store) | ct (r : Loc) (s : Store) | exc (c : Nat) (r : Loc) (s : Store) | stuck

inductive BOp where
  | add | sub | mul | fdiv | mod | pow | shl | shr
  deriving DecidableEq
inductive COp where
  | eq | ne | lt | le | gt | ge | is | isNot | «in» | notIn
  deriving DecidableEq
inductive Cl where
  | ty (n : String) | own (c : Nat)
  deriving DecidableEq
inductive Bi where
  | len | abs | int | divmod | list | tuple | str | max2 | min2 | gcd | lenset | any | all | dict | sorted | max1 | min1 | fmt | cat | sum | ord
  deriving DecidableEq
/-- methods of texts -/
inductive SM where
  | join | split | partition | startswith | isascii | isdigit | index
  deriving DecidableEq
inductive Mt where
  | append | extend
  deriving DecidableEq
/-- a constant -/
inductive Kc where
  | non | bl (b : Bool) | int (i : Int) | str (x : Str)
  deriving DecidableEq
def Kc.dv : Kc → DV
  | .non => .non | .bl b => .bl b | .int i => .int i | .str x => .str x

mutual
inductive CE where
  | slot (i : Nat) | k (c : Kc) | glob (g : Nat) | isx (i : Nat) (c : Cl)
  | bin (op : BOp) (a b : CE) | neg (a : CE) | not (a : CE) | and (a b : CE) | or (a b : CE)
  | cmp (op : COp) (a b : CE) | chain (op op2 : COp) (a b c : CE) | ife (t a b : CE)
  | ix (a b : CE) | slc (a : CE) (lo hi : CO) | rev (a : CE)
  | tup (es : CEs) | lst (es : CEs)
  | call (f : Nat) (es : CEs) | bi (b : Bi) (es : CEs) | isi (a : CE) (cs : List Cl) | meth (m : Mt) (o : CE) (es : CEs)
  | lc (t : CT) (it : CI) (ifs : CEs) (e : CE) (own : List Nat)
  | smeth (m : SM) (o : CE) (es : CEs) | get2 (d k x : CE) | setd (d k x : CE) | dnew
inductive CEs where
  | nil | cons (e : CE) (es : CEs)
inductive CO where
  | no | some (e : CE)
inductive CI where
  | seq (e : CE) | range1 (a : CE) | range2 (a b : CE) | range3 (a b c : CE) | zip (a b : CE) | enum (a : CE) | enumK (a k : CE) | rev (a : CE)
inductive CT where
  | name (i : Nat) | tup (ts : CTs) | sub (a b : CE)
inductive CTs where
  | nil | cons (t : CT) (ts : CTs)
end
mutual
inductive CS where
  | asg (t : CT) (e : CE) | par (i j : Nat) (a b : CE) | aug (i : Nat) (op : BOp) (e : CE)
  | ife (c : CE) (a b : CSs) | for_ (t : CT) (it : CI) (b : CSs) | forD (t : CT) (i : Nat) (b : CSs) | while_ (c : CE) (b : CSs)
  | ret (e : CE) | retN | drop (e : CE) | pass | brk | cont
  | raise (c : Nat) | try_ (b : CSs) (c : Nat) (i : Option Nat) (h : CSs)
  | pick (i : Nat) (e : CE) (kvs : List (Str × Nat)) (es : CEs)
inductive CSs where
  | nil | cons (s : CS) (ss : CSs)
end

/-! ### operations by values -/
/-! the data of a value without references -/
mutual
def pd : DV → PyData
  | .non => .none | .bl b => .bool b | .int i => .int i | .str x => .str x
  | .tup xs => .tuple (pds xs)
  | .ref _ => .none | .exc _ => .none
def pds : List DV → List PyData
  | [] => []
  | x :: xs => pd x :: pds xs
end
mutual
def pure? : DV → Bool
  | .non => true | .bl _ => true | .int _ => true | .str _ => true
  | .tup xs => pures? xs
  | .ref _ => false | .exc _ => false
def pures? : List DV → Bool
  | [] => true
  | x :: xs => pure? x && pures? xs
end
def cmpable (a : DV) : Bool := pure? a && SeqAt.shaped (pd a)
def deq (a b : DV) : Bool := PyData.eqv (pd a) (pd b)

def mulOk (i j : Int) : Bool := decide (i.natAbs < 2 ^ 64) || decide (j.natAbs < 2 ^ 64) || decide (i.natAbs.log2 + j.natAbs.log2 < 1000000)
def binI (op : BOp) (i j : Int) (s : Store) : Res DV := match op with
  | .add => .ok (.int (i + j)) s
  | .sub => .ok (.int (i - j)) s
  | .mul => if mulOk i j then .ok (.int (i * j)) s else .stuck
  | .fdiv => if 0 < j ∧ j.natAbs.log2 < 9000 then .ok (.int (i / j)) s else if j < 0 ∧ j.natAbs.log2 < 9000 then .ok (.int (i.fdiv j)) s else .stuck
  | .mod => if 0 < j then .ok (.int (i % j)) s else if j < 0 then .ok (.int (i.fmod j)) s else .stuck
  | .pow => if 0 ≤ j ∧ j ≤ 1000000 ∧ i.natAbs < 2 ^ 64 then .ok (.int (i ^ j.toNat)) s else .stuck
  | .shl => if 0 ≤ j ∧ j ≤ 1000000 ∧ i.natAbs < 2 ^ 1000 then .ok (.int (i * 2 ^ j.toNat)) s else .stuck
  | .shr => if 0 ≤ j then .ok (.int (i / 2 ^ j.toNat)) s else .stuck
def binV (op : BOp) (x y : DV) (s : Store) : Res DV := match x, y with
  | .int i, .int j => binI op i j s
  | .str a, .str b => match op with
    | .add => if a.length + b.length ≤ sizeLine then .ok (.str (a ++ b)) s else .stuck
    | _ => .stuck
  | .tup a, .tup b => match op with
    | .add => if a.length + b.length ≤ sizeLine then .ok (.tup (a ++ b)) s else .stuck
    | _ => .stuck
  | .str a, .int n => match op with
    | .mul => if 1 ≤ n ∧ n ≤ 1000 ∧ a.length ≤ 1000 then .ok (.str (PySem.Txt.mul a n)) s else .stuck
    | _ => .stuck
  | .ref a, .ref b => match op with
    | .add => match s[a]?, s[b]? with
      | some (.lst xs), some (.lst ys) => if xs.length + ys.length ≤ sizeLine then .ok (.ref s.length) (s ++ [.lst (xs ++ ys)]) else .stuck
      | _, _ => .stuck
    | _ => .stuck
  | _, _ => .stuck
/-- x op= y -/
def augV (op : BOp) (x y : DV) (s : Store) : Res DV := match x, y, op with
  | .int i, .int j, .add => .ok (.int (i + j)) s
  | .int i, .int j, .sub => .ok (.int (i - j)) s
  | .str a, .str b, .add => if a.length + b.length ≤ sizeLine then .ok (.str (a ++ b)) s else .stuck
  | _, _, _ => .stuck
def ints? : List DV → Option (List Int)
  | [] => some []
  | .int i :: xs => match ints? xs with
    | some is => some (i :: is)
    | none => none
  | _ :: _ => none
def strs? : List DV → Option (List Str)
  | [] => some []
  | .str i :: xs => match strs? xs with
    | some is => some (i :: is)
    | none => none
  | _ :: _ => none
/-- what stands in a list -/
def cellL (s : Store) (r : Nat) : Option (List DV) := match s[r]? with
  | some (.lst xs) => some xs
  | some (.frz xs) => some xs
  | _ => none
/-- lists of data compared -/
def lsEq (x y : DV) (s : Store) : Option Bool := match x, y with
  | .ref a, .ref b => match cellL s a, cellL s b with
    | some xs, some ys => if (pures? xs && pures? ys) && (SeqAt.shaped (.list (pds xs)) && SeqAt.shaped (.list (pds ys))) then some (PyData.eqv (.list (pds xs)) (.list (pds ys))) else none
    | _, _ => none
  | _, _ => none
def cmpV (op : COp) (x y : DV) (s : Store) : Res Bool := match op with
  | .eq => if cmpable x && cmpable y then .ok (deq x y) s else optR (lsEq x y s) fun b => .ok b s
  | .ne => if cmpable x && cmpable y then .ok (!deq x y) s else optR (lsEq x y s) fun b => .ok (!b) s
  | .lt => match x, y with
    | .int i, .int j => .ok (decide (i < j)) s
    | .str a, .str b => .ok (decide (a.cps.toList < b.cps.toList)) s
    | .tup a, .tup b => match ints? a, ints? b with
      | some i, some j => .ok (HT.lexLt i j) s
      | _, _ => .stuck
    | _, _ => .stuck
  | .le => match x, y with
    | .int i, .int j => .ok (decide (i ≤ j)) s
    | _, _ => .stuck
  | .gt => match x, y with
    | .int i, .int j => .ok (decide (j < i)) s
    | _, _ => .stuck
  | .ge => match x, y with
    | .int i, .int j => .ok (decide (j ≤ i)) s
    | _, _ => .stuck
  | .is => match x, y with
    | .non, .non => .ok true s
    | .exc _, _ => .stuck
    | _, .non => .ok false s
    | _, _ => .stuck
  | .isNot => match x, y with
    | .non, .non => .ok false s
    | .exc _, _ => .stuck
    | _, .non => .ok true s
    | _, _ => .stuck
  | .in => match x, y with
    | .str a, .str b => if a.length = 1 then .ok (decide (a.cps.getD 0 0 ∈ b.cps.toList)) s else .stuck
    | .str a, .tup ys => optR (strs? ys) fun zs => .ok (zs.any fun z => decide (z = a)) s
    | .int a, .tup ys => optR (ints? ys) fun zs => .ok (zs.any fun z => decide (z = a)) s
    | _, _ => .stuck
  | .notIn => match x, y with
    | .str a, .str b => if a.length = 1 then .ok (!decide (a.cps.getD 0 0 ∈ b.cps.toList)) s else .stuck
    | _, _ => .stuck
def truth (x : DV) (s : Store) : Res Bool := match x with
  | .non => .ok false s
  | .bl b => .ok b s
  | .int i => .ok (i != 0) s
  | .str y => if y.length ≤ sizeLine then .ok ((y.length : Int) != 0) s else .stuck
  | .tup xs => .ok (!xs.isEmpty) s
  | .ref r => match cellL s r with
    | some xs => .ok (!xs.isEmpty) s
    | none => .stuck
  | .exc _ => .stuck
def itemV (x y : DV) (s : Store) : Res DV := match x, y with
  | .tup xs, .int i => optR (L2.atI xs i) fun v => .ok v s
  | .ref r, .int i => optR (cellL s r) fun xs => optR (L2.atI xs i) fun v => .ok v s
  | .str z, .int i => if z.length ≤ sizeLine then match L2.atI z.cps.toList i with
      | some c => .ok (.str ⟨#[c]⟩) s
      | none => .stuck
    else .stuck
  | _, _ => .stuck
def cut {α : Type} (xs : List α) (lo hi : Option Int) : List α := (xs.drop (HT.sIx xs.length 0 lo)).take (HT.sIx xs.length xs.length hi - HT.sIx xs.length 0 lo)
def sliceV (x : DV) (lo hi : Option Int) (s : Store) : Res DV := match x with
  | .tup xs => .ok (.tup (cut xs lo hi)) s
  | .ref r => match cellL s r with
    | some xs => .ok (.ref s.length) (s ++ [.lst (cut xs lo hi)])
    | none => .stuck
  | .str z => if z.length ≤ sizeLine then .ok (.str ⟨(cut z.cps.toList lo hi).toArray⟩) s else .stuck
  | _ => .stuck
def clIs (x : DV) (s : Store) : Cl → Option Bool
  | .ty n => match x with
    | .non => some (n == "NoneType")
    | .bl _ => some (n == "bool" || n == "int")
    | .int _ => some (n == "int")
    | .str _ => some (n == "str")
    | .tup _ => some (n == "tuple")
    | .ref r => match cellL s r with
      | some _ => some (n == "list")
      | none => none
    | .exc _ => none
  | .own _ => none
def bools? : List DV → Option (List Bool)
  | [] => some []
  | .bl i :: xs => match bools? xs with
    | some is => some (i :: is)
    | none => none
  | _ :: _ => none
def keyD : L2.Key → DV
  | .inl i => .int i
  | .inr x => .str x
def key? : DV → Option L2.Key
  | .int i => some (.inl i)
  | .str x => some (.inr x)
  | _ => none
/-- pairs (key, value) -/
def pairs? : List DV → Option (List (L2.Key × DV))
  | [] => some []
  | .tup [k, v] :: xs => match key? k, pairs? xs with
    | some k, some kvs => some ((k, v) :: kvs)
    | _, _ => none
  | _ :: _ => none
def putD (kvs : List (L2.Key × DV)) (k : L2.Key) (v : DV) : List (L2.Key × DV) :=
  if kvs.any (fun kv => decide (kv.1 = k)) then kvs.map fun kv => if kv.1 = k then (kv.1, v) else kv else kvs ++ [(k, v)]
def mergeD (kvs more : List (L2.Key × DV)) : List (L2.Key × DV) := more.foldl (fun acc kv => putD acc kv.1 kv.2) kvs
def getD (kvs : List (L2.Key × DV)) (k : L2.Key) : Option DV := (kvs.find? fun kv => decide (kv.1 = k)).map (·.2)
/-- an int among those that are in order -/
def ins (x : Int) : List Int → List Int
  | [] => [x]
  | y :: ys => if x ≤ y then x :: y :: ys else y :: ins x ys
def isort : List Int → List Int
  | [] => []
  | x :: xs => ins x (isort xs)
def maxL : List Int → Option Int
  | [] => none
  | x :: xs => some (xs.foldl max x)
def minL : List Int → Option Int
  | [] => none
  | x :: xs => some (xs.foldl min x)
def biV (b : Bi) (xs : List DV) (s : Store) : Res DV := match b, xs with
  | .len, [.str z] => if z.length ≤ sizeLine then .ok (.int z.length) s else .stuck
  | .len, [.tup ys] => .ok (.int ys.length) s
  | .len, [.ref r] => match cellL s r with
    | some ys => .ok (.int ys.length) s
    | none => .stuck
  | .abs, [.int i] => .ok (.int (if i < 0 then -i else i)) s
  | .int, [.int i] => .ok (.int i) s
  | .int, [.bl b] => .ok (.int (if b then 1 else 0)) s
  | .divmod, [.int i, .int j] => if 0 < j ∧ j < 1073741824 then .ok (.tup [.int (i / j), .int (i % j)]) s else .stuck
  | .list, [.ref r] => match cellL s r with
    | some ys => .ok (.ref s.length) (s ++ [.lst ys])
    | none => .stuck
  | .list, [.tup ys] => .ok (.ref s.length) (s ++ [.lst ys])
  | .tuple, [.ref r] => match cellL s r with
    | some ys => .ok (.tup ys) s
    | none => .stuck
  | .tuple, [.tup ys] => .ok (.tup ys) s
  | .str, [.int i] => if i.natAbs.log2 < 1920 then .ok (.str (toString i)) s else .stuck
  | .gcd, [.int i, .int j] => .ok (.int ((Nat.gcd i.natAbs j.natAbs : Nat) : Int)) s
  | .max2, [.int i, .int j] => .ok (.int (if j > i then j else i)) s
  | .min2, [.int i, .int j] => .ok (.int (if j < i then j else i)) s
  | .lenset, [.str z] => if z.cps.size + 1 < scanBound then .ok (.int (IpS.metC (IpS.sgn z) z.cps.size).length) s else .stuck
  | .any, [.ref r] => optR (cellL s r) fun xs => optR (bools? xs) fun bs => .ok (.bl (bs.any id)) s
  | .all, [.ref r] => optR (cellL s r) fun xs => optR (bools? xs) fun bs => .ok (.bl (bs.all id)) s
  | .dict, [.tup xs] => optR (pairs? xs) fun kvs => .ok (.ref s.length) (s ++ [.dct (mergeD [] kvs)])
  | .sorted, [.ref r] => optR (cellL s r) fun xs => optR (ints? xs) fun is => if is.length < 64 then .ok (.ref s.length) (s ++ [.lst ((isort is).map DV.int)]) else .stuck
  | .ord, [.str z] => if z.length = 1 then .ok (.int (z.cps.getD 0 0 : Nat)) s else .stuck
  | .sum, [.ref r] => optR (cellL s r) fun xs => optR (ints? xs) fun is => .ok (.int is.sum) s
  | .max1, [.ref r] => optR (cellL s r) fun xs => optR (ints? xs) fun is => optR (maxL is) fun m => .ok (.int m) s
  | .min1, [.ref r] => optR (cellL s r) fun xs => optR (ints? xs) fun is => optR (minL is) fun m => .ok (.int m) s
  | .max1, [.tup xs] => optR (ints? xs) fun is => optR (maxL is) fun m => .ok (.int m) s
  | .min1, [.tup xs] => optR (ints? xs) fun is => optR (minL is) fun m => .ok (.int m) s
  | .fmt, [.str x] => if x.length ≤ 100000 then .ok (.str x) s else .stuck
  | .fmt, [.int i] => if i.natAbs.log2 < 1920 ∧ (Str.ofString (toString i)).length ≤ 100000 then .ok (.str (toString i)) s else .stuck
  | .cat, xs => if xs.length ≤ 16 then optR (strs? xs) fun ts => .ok (.str (ts.foldl (· ++ ·) Str.empty)) s else .stuck
  | .int, [.str z] => optR (PySem.intText? z) fun n => if z.length ≤ 640 then .ok (.int n) s else .stuck
  | _, _ => .stuck
def smV (m : SM) (z : Str) (xs : List DV) (s : Store) : Res DV := match m, xs with
  | .join, [.ref r] => optR (cellL s r) fun ys => optR (strs? ys) fun ts => if (ts.map (·.length)).sum + ts.length * z.length ≤ 16777216 then .ok (.str (PySem.Txt.join z ts)) s else .stuck
  | .split, [.str y] => if (y.length == 0) = false ∧ z.length + 2 ≤ sizeLine ∧ (PySem.Txt.split z y).length ≤ sizeLine then .ok (.ref s.length) (s ++ [.lst ((PySem.Txt.split z y).map DV.str)]) else .stuck
  | .partition, [.str y] => if (y.length == 0) = false ∧ z.length ≤ sizeLine then .ok (.tup [.str (PySem.Txt.partition z y).1, .str (PySem.Txt.partition z y).2.1, .str (PySem.Txt.partition z y).2.2]) s else .stuck
  | .startswith, [.str y] => .ok (.bl (PySem.Txt.startswith z y)) s
  | .index, [.str y, .int i] => match PySem.Txt.indexFrom z y i with
    | some k => .ok (.int (k : Nat)) s
    | none => .stuck
  | .isascii, [] => .ok (.bl (PySem.Txt.isascii z)) s
  | .isdigit, [] => .ok (.bl (PySem.Txt.isdigit z)) s
  | _, _ => .stuck
def mtV (m : Mt) (x : DV) (xs : List DV) (s : Store) : Res DV := match m, x, xs with
  | .extend, .ref r, [.ref b] => match s[r]?, s[b]? with
    | some (.lst ys), some (.lst zs) => if ys.length + zs.length ≤ sizeLine then .ok .non (s.set r (.lst (ys ++ zs))) else .stuck
    | _, _ => .stuck
  | .append, .ref r, [y] => match s[r]? with
    | some (.lst ys) => if ys.length < sizeLine then .ok .non (s.set r (.lst (ys ++ [y]))) else .stuck
    | _ => .stuck
  | _, _, _ => .stuck
/-- what stands in a dict -/
def dctAt (s : Store) (r : Nat) : Option (List (L2.Key × DV)) := match s[r]? with
  | some (.dct kvs) => some kvs
  | some (.fdct kvs) => some kvs
  | _ => none
def setV (x y v : DV) (s : Store) : Option Store := match x with
  | .ref r => match s[r]? with
    | some (.lst ys) => match y with
      | .int i => match L2.ixN ys.length i with
        | some j => some (s.set r (.lst (ys.set j v)))
        | none => none
      | _ => none
    | some (.dct kvs) => match key? y with
      | some k => if kvs.length < sizeLine then some (s.set r (.dct (putD kvs k v))) else none
      | none => none
    | _ => none
  | _ => none

/-! ### what is walked: a source, the items -/
inductive Src where
  | free | cell (r : Nat) (xs : List DV)
  deriving Inhabited
/-- the source still stands as it stood -/
def Src.ok (f : Src) (s : Store) : Prop := match f with
  | .free => True
  | .cell r xs => cellL s r = some xs

/-! ### expressions -/
section
variable (call : Nat → List DV → Store → Res DV) (G : Nat → Option DV) (sub : Nat → Nat → Bool)
open Classical in
/-- the turns of a comprehension: what is made so far stands at p -/
noncomputable def lcL (p : Nat) (f : Src) (body : DV → Store → Res (Option DV)) : List DV → Store → Res DV
  | [], s => if f.ok s then .ok (.ref p) s else .stuck
  | x :: xs, s => if f.ok s then (body x s).quiet.bind fun o s1 => match o with
      | none => lcL p f body xs s1
      | some v => match s1[p]? with
        | some (.lst acc) => if acc.length < sizeLine then lcL p f body xs (s1.set p (.lst (acc ++ [v]))) else .stuck
        | _ => .stuck
    else .stuck
def wipe (r : Loc) : List Nat → Loc
  | [] => r
  | v :: vs => (wipe r vs).set v none
mutual
noncomputable def evE : CE → Loc → Store → Res DV
  | .slot i, r, s => match r[i]? with
    | some (some (.exc _)) => .stuck
    | some (some v) => .ok v s
    | _ => .stuck
  | .isx i c, r, s => match r[i]? with
    | some (some (.exc d)) => match c with
      | .own c => .ok (.bl (sub d c)) s
      | .ty n => if n = "ValueError" then .ok (.bl true) s else .stuck
    | _ => .stuck
  | .k c, _, s => .ok c.dv s
  | .glob g, _, s => match G g with
    | some v => .ok v s
    | none => .stuck
  | .bin op a b, r, s => (evE a r s).bind fun x s => (evE b r s).bind fun y s => binV op x y s
  | .neg a, r, s => (evE a r s).bind fun x s => match x with
    | .int i => .ok (.int (-i)) s
    | _ => .stuck
  | .not a, r, s => (evE a r s).bind fun x s => (truth x s).bind fun b s => .ok (.bl (!b)) s
  | .and a b, r, s => (evE a r s).bind fun x s => (truth x s).bind fun c s => cond c (evE b r s) (.ok x s)
  | .or a b, r, s => (evE a r s).bind fun x s => (truth x s).bind fun c s => cond c (.ok x s) (evE b r s)
  | .cmp op a b, r, s => (evE a r s).bind fun x s => (evE b r s).bind fun y s => (cmpV op x y s).bind fun c s => .ok (.bl c) s
  | .chain op op2 a b c, r, s => (evE a r s).bind fun x s => (evE b r s).bind fun y s => (cmpV op x y s).bind fun k s =>
      cond k ((evE c r s).bind fun z s => (cmpV op2 y z s).bind fun k s => .ok (.bl k) s) (.ok (.bl false) s)
  | .ife t a b, r, s => (evE t r s).bind fun x s => (truth x s).bind fun c s => cond c (evE a r s) (evE b r s)
  | .ix a b, r, s => (evE a r s).bind fun x s => (evE b r s).bind fun y s => itemV x y s
  | .slc a lo hi, r, s => (evE a r s).bind fun x s => (evO lo r s).bind fun l s => (evO hi r s).bind fun h s => sliceV x l h s
  | .rev a, r, s => (evE a r s).bind fun x s => match x with
    | .ref l => match cellL s l with
      | some xs => .ok (.ref s.length) (s ++ [.lst xs.reverse])
      | none => .stuck
    | _ => .stuck
  | .tup es, r, s => (evEs es r s).bind fun xs s => if xs.length ≤ sizeLine then .ok (.tup xs) s else .stuck
  | .lst es, r, s => (evEs es r s).bind fun xs s => if xs.length ≤ sizeLine then .ok (.ref s.length) (s ++ [.lst xs]) else .stuck
  | .call f es, r, s => (evEs es r s).bind fun xs s => call f xs s
  | .bi b es, r, s => (evEs es r s).bind fun xs s => biV b xs s
  | .isi a cs, r, s => (evE a r s).bind fun x s => match cs with
    | [c] => match clIs x s c with
      | some b => .ok (.bl b) s
      | none => .stuck
    | _ => .stuck
  | .meth m o es, r, s => (evE o r s).bind fun x s => match x with
    | .ref l => match cellL s l with
      | some _ => (evEs es r s).bind fun xs s => mtV m (.ref l) xs s
      | none => .stuck
    | _ => .stuck
  | .lc t it ifs e own, r, s => (evI it r s).bind fun q s => lcL s.length q.1
      (fun x s => (evT t x (wipe r own) s).bind fun r s => (evAll ifs r s).bind fun b s => cond b ((evE e r s).bind fun v s => .ok (some v) s) (.ok none s)) q.2 (s ++ [.lst []])
  | .smeth m o es, r, s => (evE o r s).bind fun x s => match x with
    | .str z => (evEs es r s).bind fun xs s => smV m z xs s
    | _ => .stuck
  | .get2 d k x, r, s => (evE d r s).bind fun y s => match y with
    | .ref l => optR (dctAt s l) fun _ => (evE k r s).bind fun z s => (evE x r s).bind fun w s => optR (dctAt s l) fun kvs => optR (key? z) fun k => .ok ((getD kvs k).getD w) s
    | _ => .stuck
  | .setd d k x, r, s => (evE d r s).bind fun y s => match y with
    | .ref l => optR (dctAt s l) fun _ => (evE k r s).bind fun z s => (evE x r s).bind fun w s => match s[l]? with
      | some (.dct kvs) => optR (key? z) fun k => if kvs.length < sizeLine then match getD kvs k with
          | some v => .ok v s
          | none => .ok w (s.set l (.dct (putD kvs k w)))
        else .stuck
      | _ => .stuck
    | _ => .stuck
  | .dnew, _, s => .ok (.ref s.length) (s ++ [.dct []])
noncomputable def evEs : CEs → Loc → Store → Res (List DV)
  | .nil, _, s => .ok [] s
  | .cons e es, r, s => (evE e r s).bind fun x s => (evEs es r s).bind fun xs s => .ok (x :: xs) s
/-- all of some tests -/
noncomputable def evAll : CEs → Loc → Store → Res Bool
  | .nil, _, s => .ok true s
  | .cons e es, r, s => (evE e r s).bind fun x s => (truth x s).bind fun c s => cond c (evAll es r s) (.ok false s)
noncomputable def evO : CO → Loc → Store → Res (Option Int)
  | .no, _, s => .ok none s
  | .some e, r, s => (evE e r s).bind fun x s => match x with
    | .int i => .ok (some i) s
    | _ => .stuck
/-- what is walked -/
noncomputable def evI : CI → Loc → Store → Res (Src × List DV)
  | .seq e, r, s => (evE e r s).bind fun x s => match x with
    | .tup xs => .ok (.free, xs) s
    | .ref l => match cellL s l with
      | some xs => .ok (.cell l xs, xs) s
      | none => .stuck
    | .str z => .ok (.free, z.cps.toList.map fun c => .str ⟨#[c]⟩) s
    | _ => .stuck
  | .range1 a, r, s => (evE a r s).bind fun x s => match x with
    | .int n => if -(2 ^ 62) ≤ n ∧ n < 2 ^ 62 then .ok (.free, (List.range n.toNat).map fun (i : Nat) => .int (0 + (i : Int))) s else .stuck
    | _ => .stuck
  | .range2 a b, r, s => (evE a r s).bind fun x s => (evE b r s).bind fun y s => match x, y with
    | .int m, .int n => if (-(2 ^ 62) ≤ m ∧ m < 2 ^ 62) ∧ -(2 ^ 62) ≤ n ∧ n < 2 ^ 62 then .ok (.free, (List.range (n - m).toNat).map fun (i : Nat) => .int (m + (i : Int))) s else .stuck
    | _, _ => .stuck
  | .range3 a b c, r, s => (evE a r s).bind fun x s => (evE b r s).bind fun y s => (evE c r s).bind fun z s => match x, y, z with
    | .int m, .int n, .int d => if ((-(2 ^ 62) ≤ m ∧ m < 2 ^ 62) ∧ -(2 ^ 62) ≤ n ∧ n < 2 ^ 62) ∧ d = -1 then .ok (.free, (List.range (m - n).toNat).map fun (i : Nat) => .int (m + (i : Int) * -1)) s else .stuck
    | _, _, _ => .stuck
  | .zip a b, r, s => (evE a r s).bind fun x s => (evE b r s).bind fun y s => match x, y with
    | .tup xs, .tup ys => .ok (.free, (xs.zip ys).map fun p => .tup [p.1, p.2]) s
    | _, _ => .stuck
  | .enumK a k, r, s => (evE a r s).bind fun x s => (evE k r s).bind fun y s => match x, y with
    | .tup xs, .int k => if -(2 ^ 62) ≤ k ∧ k < 2 ^ 62 then .ok (.free, xs.mapIdx fun i x => .tup [.int (k + (i : Nat)), x]) s else .stuck
    | .str z, .int k => if -(2 ^ 62) ≤ k ∧ k < 2 ^ 62 then .ok (.free, (z.cps.toList.map fun c => DV.str ⟨#[c]⟩).mapIdx fun i x => .tup [.int (k + (i : Nat)), x]) s else .stuck
    | _, _ => .stuck
  | .enum a, r, s => (evE a r s).bind fun x s => match x with
    | .tup xs => .ok (.free, xs.mapIdx fun i x => .tup [.int (0 + (i : Nat)), x]) s
    | .str z => .ok (.free, (z.cps.toList.map fun c => DV.str ⟨#[c]⟩).mapIdx fun i x => .tup [.int (0 + (i : Nat)), x]) s
    | _ => .stuck
  | .rev a, r, s => (evE a r s).bind fun x s => match x with
    | .tup xs => .ok (.free, xs.reverse) s
    | _ => .stuck
/-- a value into a target -/
noncomputable def evT : CT → DV → Loc → Store → Res Loc
  | .name i, v, r, s => if i < r.length then .ok (r.set i (some v)) s else .stuck
  | .tup ts, v, r, s => match v with
    | .tup xs => evTs ts xs r s
    | .ref l => match cellL s l with
      | some xs => evTs ts xs r s
      | none => .stuck
    | _ => .stuck
  | .sub a b, v, r, s => (evE a r s).quiet.bind fun x s => (evE b r s).quiet.bind fun y s => optR (setV x y v s) fun s => .ok r s
noncomputable def evTs : CTs → List DV → Loc → Store → Res Loc
  | .nil, xs, r, s => match xs with
    | [] => .ok r s
    | _ :: _ => .stuck
  | .cons t ts, xs, r, s => match xs with
    | x :: xs => (evT t x r s).bind fun r s => evTs ts xs r s
    | [] => .stuck
end

/-! ### statements -/
/-- a value, then what follows; an exception leaves with the slots as they are -/
@[inline] def Res.out {α : Type} (m : Res α) (r : Loc) (f : α → Store → Out) : Out := match m with
  | .ok a s => f a s
  | .exc c s => .exc c r s
  | .stuck => .stuck
/-- what follows a statement -/
@[inline] def Out.then (o : Out) (f : Loc → Store → Out) : Out := match o with
  | .nx r s => f r s
  | .rt v s => .rt v s
  | .bk r s => .bk r s
  | .ct r s => .ct r s
  | .exc c r s => .exc c r s
  | .stuck => .stuck
/-- no slot holds an error -/
def noX (r : Loc) : Bool := r.all fun o => match o with
  | some (.exc _) => false
  | _ => true
/-- an error is caught -/
@[inline] def Out.catch (o : Out) (f : Nat → Loc → Store → Out) : Out := match o with
  | .exc d r s => f d r s
  | .nx r s => .nx r s
  | .rt v s => .rt v s
  | .bk r s => .bk r s
  | .ct r s => .ct r s
  | .stuck => .stuck
/-- behind a clause its name is gone -/
def Out.unset (o : Out) (i : Nat) : Out := match o with
  | .nx r s => if noX (r.set i none) then .nx (r.set i none) s else .stuck
  | .bk r s => if noX (r.set i none) then .bk (r.set i none) s else .stuck
  | .ct r s => if noX (r.set i none) then .ct (r.set i none) s else .stuck
  | .rt v s => .rt v s
  | .exc _ _ _ => .stuck
  | .stuck => .stuck
/-- a clause lets no error out -/
def Out.hush (o : Out) : Out := match o with
  | .nx r s => .nx r s
  | .bk r s => .bk r s
  | .ct r s => .ct r s
  | .rt v s => .rt v s
  | .exc _ _ _ => .stuck
  | .stuck => .stuck
open Classical in
noncomputable def forL (f : Src) (body : DV → Loc → Store → Out) : List DV → Loc → Store → Out
  | [], r, s => if f.ok s then .nx r s else .stuck
  | x :: xs, r, s => if f.ok s then match body x r s with
      | .nx r s => forL f body xs r s
      | .ct r s => forL f body xs r s
      | .bk r s => .nx r s
      | .rt v s => .rt v s
      | .exc c r s => .exc c r s
      | .stuck => .stuck
    else .stuck
noncomputable def whileL (test : Loc → Store → Res Bool) (body : Loc → Store → Out) : Nat → Loc → Store → Out
  | 0, _, _ => .stuck
  | n + 1, r, s => (test r s).out r fun c s => cond c (match body r s with
      | .nx r s => whileL test body n r s
      | .ct r s => whileL test body n r s
      | .bk r s => .nx r s
      | .rt v s => .rt v s
      | .exc c r s => .exc c r s
      | .stuck => .stuck) (.nx r s)
/-- how many turns a while may take -/
def turns : Nat := 1000000000
/-- behind a walk through a dict it may change again -/
def Out.unlock (o : Out) (l : Nat) : Out := match o with
  | .nx r s => match s[l]? with
    | some (.fdct kvs) => .nx r (s.set l (.dct kvs))
    | _ => .stuck
  | .rt v s => match s[l]? with
    | some (.fdct kvs) => .rt v (s.set l (.dct kvs))
    | _ => .stuck
  | _ => .stuck
mutual
noncomputable def evS : CS → Loc → Store → Out
  | .asg t e, r, s => (evE call G sub e r s).out r fun v s => (evT call G sub t v r s).out r fun r s => .nx r s
  | .par i j a b, r, s => (evE call G sub a r s).out r fun x s => (evE call G sub b r s).out r fun y s => if i < r.length ∧ j < r.length then .nx ((r.set i (some x)).set j (some y)) s else .stuck
  | .aug i op e, r, s => match r[i]? with
    | some (some (.exc _)) => .stuck
    | some (some x) => (evE call G sub e r s).out r fun y s => (augV op x y s).out r fun z s => .nx (r.set i (some z)) s
    | _ => .stuck
  | .ife c a b, r, s => (evE call G sub c r s).out r fun x s => (truth x s).out r fun c s => cond c (evSs a r s) (evSs b r s)
  | .for_ t it b, r, s => (evI call G sub it r s).out r fun q s => forL q.1 (fun x r s => (evT call G sub t x r s).out r fun r s => evSs b r s) q.2 r s
  | .forD t i b, r, s => match r[i]? with
    | some (some (.ref l)) => match s[l]? with
      | some (.dct kvs) => (forL .free (fun x r s => (evT call G sub t x r s).out r fun r s => evSs b r s) (kvs.map fun kv => keyD kv.1) r (s.set l (.fdct kvs))).unlock l
      | _ => .stuck
    | _ => .stuck
  | .while_ c b, r, s => whileL (fun r s => (evE call G sub c r s).bind fun x s => truth x s) (fun r s => evSs b r s) turns r s
  | .ret e, r, s => (evE call G sub e r s).out r fun v s => .rt v s
  | .retN, _, s => .rt .non s
  | .drop e, r, s => (evE call G sub e r s).out r fun _ s => .nx r s
  | .pass, r, s => .nx r s
  | .brk, r, s => .bk r s
  | .cont, r, s => .ct r s
  | .raise c, r, s => .exc c r s
  | .try_ b c i h, r, s => (evSs b r s).catch fun d r s => cond (sub d c) (match i with
      | none => (evSs h r s).hush
      | some i => (evSs h (r.set i (some (.exc d))) s).unset i) (.exc d r s)
  | .pick i e kvs es, r, s => (evE call G sub e r s).out r fun x s => match x with
    | .str z => match kvs.lookup z with
      | some f => if i < r.length then ((evEs call G sub es (r.set i none) s).bind fun xs s => call f xs s).out (r.set i none) fun v s => .rt v s else .stuck
      | none => .stuck
    | _ => .stuck
noncomputable def evSs : CSs → Loc → Store → Out
  | .nil, r, s => .nx r s
  | .cons st ss, r, s => (evS st r s).then fun r s => evSs ss r s
end
end

/-! ### defs -/
structure Def where
  n : Nat          -- how many names
  ps : Nat         -- how many parameters
  body : CSs
def start (n : Nat) (vs : List DV) : Loc := vs.map some ++ List.replicate (n - vs.length) none
/-- what a def's body gives back -/
def Out.fin : Out → Res DV
  | .nx _ s => .ok .non s
  | .rt v s => .ok v s
  | .exc c _ s => .exc c s
  | .bk _ _ => .stuck
  | .ct _ _ => .stuck
  | .stuck => .stuck
/-- the defs by number, to a depth of calls -/
noncomputable def callAt (D : Nat → Option Def) (G : Nat → Option DV) (sub : Nat → Nat → Bool) : Nat → Nat → List DV → Store → Res DV
  | 0, _, _, _ => .stuck
  | k + 1, f, vs, s => match D f with
    | none => .stuck
    | some d => if vs.length = d.ps then (evSs (callAt D G sub k) G sub d.body (start d.n vs) s).fin else .stuck
end Ip
end PtIpCore
section PtIpSound
set_option Elab.async false
set_option linter.all false
set_option maxRecDepth 100000
/-! What the small machine does, the program does. -/
namespace Ip
open PySem PySem.Spec PyProof.Rows L2

/-! ### values, stores, slots -/
mutual
inductive VR (K : PySem.W.Frag) (μ : List Addr) (H : Hp) : V → DV → Prop
  | non : VR K μ H .non .non
  | bl (b : Bool) : VR K μ H (.bl b) (.bl b)
  | int (i : Int) : VR K μ H (.int i) (.int i)
  | str (x : Str) : VR K μ H (.str x) (.str x)
  | tup {a : Addr} {vs : List V} {ds : List DV} : TupP K H a vs → VRs K μ H vs ds → VR K μ H (.ref a) (.tup ds)
  | ref {n : Nat} {a : Addr} : μ[n]? = some a → VR K μ H (.ref a) (.ref n)
inductive VRs (K : PySem.W.Frag) (μ : List Addr) (H : Hp) : List V → List DV → Prop
  | nil : VRs K μ H [] []
  | cons {v : V} {vs : List V} {d : DV} {ds : List DV} : VR K μ H v d → VRs K μ H vs ds → VRs K μ H (v :: vs) (d :: ds)
end
/-- values keep what they are -/
structure LeW (K : PySem.W.Frag) (μ : List Addr) (H : Hp) (μ' : List Addr) (H' : Hp) : Prop where
  pre : ∀ (n : Nat) (a : Addr), μ[n]? = some a → μ'[n]? = some a
  tup : ∀ (a : Addr) (xs : List V), TupP K H a xs → TupP K H' a xs
/-- and what is locked stays -/
structure Le (K : PySem.W.Frag) (μ : List Addr) (H : Hp) (μ' : List Addr) (H' : Hp) : Prop extends LeW K μ H μ' H' where
  frz : ∀ (a : Addr) (o : Obj) (u : HO), H a = some (.frz o u) → H' a = some (.frz o u)
section
variable {K : PySem.W.Frag} {μ μ' μ2 : List Addr} {H H' H2 : Hp}
theorem Le.refl : Le K μ H μ H := ⟨⟨fun _ _ h => h, fun _ _ h => h⟩, fun _ _ _ h => h⟩
theorem Le.trans (a : Le K μ H μ' H') (b : Le K μ' H' μ2 H2) : Le K μ H μ2 H2 := ⟨⟨fun n x h => b.pre n x (a.pre n x h), fun n x h => b.tup n x (a.tup n x h)⟩, fun x o u h => b.frz x o u (a.frz x o u h)⟩
mutual
theorem VR.monoW (e : LeW K μ H μ' H') : ∀ {v : V} {d : DV}, VR K μ H v d → VR K μ' H' v d
  | _, _, .non => .non
  | _, _, .bl b => .bl b
  | _, _, .int i => .int i
  | _, _, .str x => .str x
  | _, _, .tup h hs => .tup (e.tup _ _ h) (VRs.monoW e hs)
  | _, _, .ref h => .ref (e.pre _ _ h)
theorem VRs.monoW (e : LeW K μ H μ' H') : ∀ {vs : List V} {ds : List DV}, VRs K μ H vs ds → VRs K μ' H' vs ds
  | _, _, .nil => .nil
  | _, _, .cons h hs => .cons (VR.monoW e h) (VRs.monoW e hs)
end
theorem VR.mono (e : Le K μ H μ' H') {v : V} {d : DV} (h : VR K μ H v d) : VR K μ' H' v d := h.monoW e.toLeW
theorem VRs.mono (e : Le K μ H μ' H') {vs : List V} {ds : List DV} (h : VRs K μ H vs ds) : VRs K μ' H' vs ds := h.monoW e.toLeW
theorem VRs.length : ∀ {vs : List V} {ds : List DV}, VRs K μ H vs ds → vs.length = ds.length
  | _, _, .nil => rfl
  | _, _, .cons _ t => by rw [List.length_cons, List.length_cons, t.length]
theorem VRs.get : ∀ {vs : List V} {ds : List DV}, VRs K μ H vs ds → ∀ {i : Nat} {d : DV}, ds[i]? = some d → ∃ v, vs[i]? = some v ∧ VR K μ H v d
  | _, _, .nil, _, _, h => by simp at h
  | _, _, .cons r t, 0, d, h => by
    have e := Option.some.inj h
    subst e
    exact ⟨_, rfl, r⟩
  | _, _, .cons r t, i + 1, d, h => t.get (i := i) h
theorem VRs.getV : ∀ {vs : List V} {ds : List DV}, VRs K μ H vs ds → ∀ {i : Nat} {v : V}, vs[i]? = some v → ∃ d, ds[i]? = some d ∧ VR K μ H v d
  | _, _, .nil, _, _, h => by simp at h
  | _, _, .cons r t, 0, d, h => by
    have e := Option.some.inj h
    subst e
    exact ⟨_, rfl, r⟩
  | _, _, .cons r t, i + 1, d, h => t.getV (i := i) h
theorem VRs.append : ∀ {vs ws : List V} {ds es : List DV}, VRs K μ H vs ds → VRs K μ H ws es → VRs K μ H (vs ++ ws) (ds ++ es)
  | _, _, _, _, .nil, h => h
  | _, _, _, _, .cons r t, h => .cons r (t.append h)
theorem VRs.take : ∀ {vs : List V} {ds : List DV} (n : Nat), VRs K μ H vs ds → VRs K μ H (vs.take n) (ds.take n)
  | _, _, 0, _ => by rw [List.take_zero, List.take_zero]; exact .nil
  | _, _, n + 1, .nil => .nil
  | _, _, n + 1, .cons r t => .cons r (t.take n)
theorem VRs.drop : ∀ {vs : List V} {ds : List DV} (n : Nat), VRs K μ H vs ds → VRs K μ H (vs.drop n) (ds.drop n)
  | _, _, 0, h => h
  | _, _, n + 1, .nil => .nil
  | _, _, n + 1, .cons r t => t.drop n
theorem VRs.set : ∀ {vs : List V} {ds : List DV} {v : V} {d : DV} (i : Nat), VR K μ H v d → VRs K μ H vs ds → VRs K μ H (vs.set i v) (ds.set i d)
  | _, _, _, _, _, _, .nil => .nil
  | _, _, _, _, 0, r, .cons _ t => .cons r t
  | _, _, _, _, i + 1, r, .cons q t => .cons q (t.set i r)
theorem VRs.reverse {vs : List V} {ds : List DV} (h : VRs K μ H vs ds) : VRs K μ H vs.reverse ds.reverse := by
  induction vs generalizing ds with
  | nil => cases h; exact .nil
  | cons v vs ih =>
    cases h with
    | cons r t =>
      rw [List.reverse_cons, List.reverse_cons]
      exact (ih t).append (.cons r .nil)
theorem VRs.isEmpty {vs : List V} {ds : List DV} (h : VRs K μ H vs ds) : vs.isEmpty = ds.isEmpty := by cases h <;> rfl

/-- a list that is read only -/
def Fz (K : PySem.W.Frag) (H : Hp) (a : Addr) (xs : List V) : Prop :=
  (∃ o, H a = some (.frz o (.lst xs))) ∨
    ∃ (o : Obj) (its : Array Value) (n : Nat), K.lookup a = some o ∧ o.cls = .type "list" ∧ o.dict = none ∧ o.data = .seq its n ∧ its.size ≤ sizeLine ∧ Vals xs its.toList
theorem Fz.sql {a : Addr} {xs : List V} (h : Fz K H a xs) : SqL K H a xs := by
  rcases h with ⟨o, h⟩ | h
  · exact .inl (.inr ⟨o, h⟩)
  · exact .inr h
def CR (K : PySem.W.Frag) (μ : List Addr) (H : Hp) (a : Addr) : Cell → Prop
  | .lst ds => ∃ vs, H a = some (.lst vs) ∧ VRs K μ H vs ds ∧ ds.length ≤ sizeLine
  | .frz ds => ∃ vs, Fz K H a vs ∧ VRs K μ H vs ds ∧ ds.length ≤ sizeLine
  | .dct kvs => ∃ ws : List (Key × V), H a = some (.dK ws) ∧ ws.map (·.1) = kvs.map (·.1) ∧ VRs K μ H (ws.map (·.2)) (kvs.map (·.2)) ∧ kvs.length ≤ sizeLine
  | .fdct kvs => ∃ (o : Obj) (ws : List (Key × V)), H a = some (.frz o (.dK ws)) ∧ ws.map (·.1) = kvs.map (·.1) ∧ VRs K μ H (ws.map (·.2)) (kvs.map (·.2)) ∧ kvs.length ≤ sizeLine
/-- cells that may change -/
def hotC : Cell → Prop
  | .frz _ => False
  | _ => True
theorem CR.hot {a : Addr} {c : Cell} (h : CR K μ H a c) (hc : hotC c) : ∃ u, H a = some u ∧ hotO u := by
  cases c with
  | lst ds => obtain ⟨vs, h1, _⟩ := h; exact ⟨_, h1, trivial⟩
  | frz ds => exact hc.elim
  | dct kvs => obtain ⟨ws, h1, _⟩ := h; exact ⟨_, h1, trivial⟩
  | fdct kvs => obtain ⟨o, ws, h1, _⟩ := h; exact ⟨_, h1, trivial⟩
structure Rel (K : PySem.W.Frag) (μ : List Addr) (H : Hp) (s : Store) : Prop where
  len : μ.length = s.length
  nd : ∀ (n m : Nat) (a : Addr) (c d : Cell), μ[n]? = some a → μ[m]? = some a → s[n]? = some c → s[m]? = some d → hotC c → hotC d → n = m
  at_ : ∀ (n : Nat) (a : Addr) (c : Cell), μ[n]? = some a → s[n]? = some c → CR K μ H a c
theorem Rel.cellZ {s : Store} (R : Rel K μ H s) {n : Nat} {a : Addr} {ds : List DV} (hm : μ[n]? = some a) (hs : cellL s n = some ds) : ∃ vs, SqL K H a vs ∧ VRs K μ H vs ds ∧ ds.length ≤ sizeLine := by
  unfold Ip.cellL at hs
  split at hs
  · rename_i xs h
    obtain ⟨vs, h1, h2, h3⟩ := R.at_ n a _ hm h
    cases hs
    exact ⟨vs, .inl (.inl h1), h2, h3⟩
  · rename_i xs h
    obtain ⟨vs, h1, h2, h3⟩ := R.at_ n a _ hm h
    cases hs
    exact ⟨vs, h1.sql, h2, h3⟩
  · cases hs
theorem Rel.cellL {s : Store} (R : Rel K μ H s) {n : Nat} {a : Addr} {ds : List DV} (hm : μ[n]? = some a) (hs : cellL s n = some ds) : ∃ vs, SqL K H a vs ∧ VRs K μ H vs ds := by
  obtain ⟨vs, h1, h2, _⟩ := R.cellZ hm hs
  exact ⟨vs, h1, h2⟩
theorem Rel.there {s : Store} (R : Rel K μ H s) {n : Nat} {a : Addr} (hm : μ[n]? = some a) : ∃ c, s[n]? = some c := by
  have h1 := (List.getElem?_eq_some_iff.mp hm).1
  have h2 : n < s.length := by rw [← R.len]; exact h1
  exact ⟨_, List.getElem?_eq_getElem h2⟩
theorem Rel.back {s : Store} (R : Rel K μ H s) {n : Nat} {c : Cell} (hs : s[n]? = some c) : ∃ a, μ[n]? = some a := by
  have h1 := (List.getElem?_eq_some_iff.mp hs).1
  have h2 : n < μ.length := by rw [R.len]; exact h1
  exact ⟨_, List.getElem?_eq_getElem h2⟩
/-- a new object that is no cell -/
theorem le_upd {p : Addr} {o : HO} (hp : H p = none) : Le K μ H μ (upd H p o) := ⟨⟨fun _ _ h => h, fun _ _ h => h.upd hp⟩, fun _ _ _ h => by rw [upd_ne (ne_of_none h hp)]; exact h⟩
theorem fz_upd {p a : Addr} {o : HO} {xs : List V} (hp : H p = none) (h : Fz K H a xs) : Fz K (upd H p o) a xs := by
  rcases h with ⟨u, h⟩ | h
  · exact .inl ⟨u, by rw [upd_ne (ne_of_none h hp)]; exact h⟩
  · exact .inr h
/-- a cell stays where its address is left alone -/
theorem CR.keep {H' : Hp} {a : Addr} {c : Cell} (h : CR K μ H a c) (e : hotC c → H' a = H a) (z : ∀ xs, Fz K H a xs → Fz K H' a xs) (le : LeW K μ H μ' H') : CR K μ' H' a c := by
  cases c with
  | lst ds =>
    obtain ⟨vs, h1, h2, h3⟩ := h
    exact ⟨vs, by rw [e trivial]; exact h1, h2.monoW le, h3⟩
  | frz ds =>
    obtain ⟨vs, h1, h2, h3⟩ := h
    exact ⟨vs, z _ h1, h2.monoW le, h3⟩
  | dct kvs =>
    obtain ⟨ws, h1, h2, h3, h4⟩ := h
    exact ⟨ws, by rw [e trivial]; exact h1, h2, h3.monoW le, h4⟩
  | fdct kvs =>
    obtain ⟨o, ws, h1, h2, h3, h4⟩ := h
    exact ⟨o, ws, by rw [e trivial]; exact h1, h2, h3.monoW le, h4⟩
theorem CR.upd {p a : Addr} {o : HO} {c : Cell} (hp : H p = none) (h : CR K μ H a c) (le : Le K μ H μ' (L2.upd H p o)) : CR K μ' (L2.upd H p o) a c :=
  h.keep (fun hc => by
    obtain ⟨u, h1, _⟩ := h.hot hc
    exact upd_ne (ne_of_none h1 hp)) (fun _ => fz_upd hp) le.toLeW
theorem Rel.upd {s : Store} {p : Addr} {o : HO} (R : Rel K μ H s) (hp : H p = none) : Rel K μ (L2.upd H p o) s :=
  ⟨R.len, R.nd, fun n a c hm hs => (R.at_ n a c hm hs).upd hp (le_upd hp)⟩
theorem get_app {α : Type} {l : List α} {x : α} {n : Nat} {a : α} (h : (l ++ [x])[n]? = some a) : l[n]? = some a ∨ (n = l.length ∧ a = x) := by
  rw [List.getElem?_append] at h
  split at h
  · exact .inl h
  · rename_i q
    have : n - l.length = 0 := by
      cases e : n - l.length with
      | zero => rfl
      | succ k => rw [e] at h; simp at h
    rw [this] at h
    exact .inr ⟨by omega, (Option.some.inj h).symm⟩
theorem get_app_l {α : Type} {l : List α} {x : α} {n : Nat} {a : α} (h : l[n]? = some a) : (l ++ [x])[n]? = some a := by
  have h1 := (List.getElem?_eq_some_iff.mp h).1
  rw [List.getElem?_append_left h1]
  exact h
theorem get_app_n {α : Type} {l : List α} {x : α} : (l ++ [x])[l.length]? = some x := by
  rw [List.getElem?_append_right (Nat.le_refl _), Nat.sub_self]
  rfl
/-- a new list -/
theorem le_new {p : Addr} {o : HO} (hp : H p = none) : Le K μ H (μ ++ [p]) (upd H p o) :=
  ⟨⟨fun _ _ h => get_app_l h, (le_upd (μ := μ) hp).tup⟩, (le_upd (K := K) (μ := μ) hp).frz⟩
theorem lt_of {α : Type} {l : List α} {n : Nat} {a : α} (h : l[n]? = some a) : n < l.length := (List.getElem?_eq_some_iff.mp h).1
theorem Rel.newC {s : Store} {p : Addr} {o : HO} {c : Cell} (R : Rel K μ H s) (hp : H p = none) (hc : CR K (μ ++ [p]) (L2.upd H p o) p c) : Rel K (μ ++ [p]) (L2.upd H p o) (s ++ [c]) := by
  have le : Le K μ H (μ ++ [p]) (L2.upd H p o) := le_new hp
  -- an old cell at p can't be hot
  have old : ∀ (n : Nat) (d : Cell), μ[n]? = some p → s[n]? = some d → hotC d → False := fun n d h1 h2 hd => by
    obtain ⟨u, q, _⟩ := (R.at_ n p d h1 h2).hot hd
    rw [hp] at q
    cases q
  have side : ∀ (n : Nat) (a : Addr) (d : Cell), (μ ++ [p])[n]? = some a → (s ++ [c])[n]? = some d → (μ[n]? = some a ∧ s[n]? = some d) ∨ (n = s.length ∧ a = p ∧ d = c) := fun n a d h1 h2 => by
    rcases get_app h1 with h1 | ⟨h1, e1⟩
    · rcases get_app h2 with h2 | ⟨h2, e2⟩
      · exact .inl ⟨h1, h2⟩
      · have := lt_of h1
        rw [R.len] at this
        omega
    · rcases get_app h2 with h2 | ⟨h2, e2⟩
      · have := lt_of h2
        rw [← R.len] at this
        omega
      · exact .inr ⟨h2, e1, e2⟩
  refine ⟨by rw [List.length_append, List.length_append, R.len]; rfl, fun n m a c1 c2 h1 h2 h3 h4 t1 t2 => ?_, fun n a d hm hs => ?_⟩
  · rcases side n a c1 h1 h3 with ⟨g1, g3⟩ | ⟨g1, g2, g3⟩
    · rcases side m a c2 h2 h4 with ⟨g2, g4⟩ | ⟨k1, k2, k3⟩
      · exact R.nd n m a c1 c2 g1 g2 g3 g4 t1 t2
      · subst k2
        exact (old n c1 g1 g3 t1).elim
    · rcases side m a c2 h2 h4 with ⟨k2, k4⟩ | ⟨k1, k2, k3⟩
      · subst g2
        exact (old m c2 k2 k4 t2).elim
      · omega
  · rcases side n a d hm hs with ⟨g1, g2⟩ | ⟨_, e1, e2⟩
    · exact (R.at_ n a d g1 g2).upd hp le
    · subst e1
      subst e2
      exact hc
theorem Rel.new {s : Store} {p : Addr} {vs : List V} {ds : List DV} (R : Rel K μ H s) (hp : H p = none) (hv : VRs K μ H vs ds) (hz : ds.length ≤ sizeLine) : Rel K (μ ++ [p]) (L2.upd H p (.lst vs)) (s ++ [.lst ds]) :=
  R.newC hp ⟨vs, upd_same, hv.mono (le_new hp), hz⟩
/-- a new dict -/
theorem Rel.newD {s : Store} {p : Addr} {ws : List (Key × V)} {kvs : List (Key × DV)} (R : Rel K μ H s) (hp : H p = none) (hk : ws.map (·.1) = kvs.map (·.1)) (hv : VRs K μ H (ws.map (·.2)) (kvs.map (·.2))) (hz : kvs.length ≤ sizeLine) : Rel K (μ ++ [p]) (L2.upd H p (.dK ws)) (s ++ [.dct kvs]) :=
  R.newC hp ⟨ws, upd_same, hk, hv.mono (le_new hp), hz⟩
/-- a cell changes -/
theorem le_setW {p : Addr} {u w : HO} (hp : H p = some u) (hu : hotO u) : LeW K μ H μ (upd H p w) := ⟨fun _ _ h => h, fun _ _ h => h.setU hp hu⟩
theorem le_setU {p : Addr} {u w : HO} (hp : H p = some u) (hu : hotO u) (hf : ∀ o v, u ≠ .frz o v) : Le K μ H μ (upd H p w) := ⟨le_setW hp hu, fun _ o v h => by rw [upd_ne (ne_of h hp fun z => hf o v z.symm)]; exact h⟩
theorem Rel.setC {s : Store} {p : Addr} {n : Nat} {c c' : Cell} {w : HO} (R : Rel K μ H s) (hm : μ[n]? = some p) (hs : s[n]? = some c) (hc : hotC c) (hc' : hotC c') (h : CR K μ (L2.upd H p w) p c') : Rel K μ (L2.upd H p w) (s.set n c') := by
  obtain ⟨u, hp, hu⟩ := (R.at_ n p c hm hs).hot hc
  have le : LeW K μ H μ (L2.upd H p w) := le_setW hp hu
  have hn := lt_of hs
  have back : ∀ (m : Nat) (d : Cell), (s.set n c')[m]? = some d → hotC d → ∃ e, s[m]? = some e ∧ hotC e := fun m d h hd => by
    by_cases e : n = m
    · subst e; exact ⟨c, hs, hc⟩
    · rw [List.getElem?_set_ne e] at h; exact ⟨d, h, hd⟩
  refine ⟨by rw [List.length_set]; exact R.len, fun i j a c1 c2 h1 h2 h3 h4 t1 t2 => ?_, fun m a d h1 h2 => ?_⟩
  · obtain ⟨e1, g1, z1⟩ := back i c1 h3 t1
    obtain ⟨e2, g2, z2⟩ := back j c2 h4 t2
    exact R.nd i j a e1 e2 h1 h2 g1 g2 z1 z2
  · by_cases e : n = m
    · subst e
      rw [hm] at h1
      cases h1
      rw [List.getElem?_set_self hn] at h2
      cases h2
      exact h
    · rw [List.getElem?_set_ne e] at h2
      refine (R.at_ m a d h1 h2).keep (fun hd => ?_) (fun xs q => ?_) le
      · refine upd_ne fun z => ?_
        subst z
        exact e (R.nd n m a c d hm h1 hs h2 hc hd)
      · rcases q with ⟨o, q⟩ | q
        · exact .inl ⟨o, by rw [upd_ne (ne_of q hp (fun z => by rw [← z] at hu; exact hu))]; exact q⟩
        · exact .inr q
/-- a list changes -/
theorem le_set {p : Addr} {vs ws : List V} (hp : H p = some (.lst vs)) : Le K μ H μ (upd H p (.lst ws)) := le_setU hp trivial fun _ _ z => nomatch z
theorem Rel.set {s : Store} {p : Addr} {n : Nat} {vs ws : List V} {ds es : List DV} (R : Rel K μ H s) (hm : μ[n]? = some p) (hs : s[n]? = some (.lst ds)) (hp : H p = some (.lst vs)) (hv : VRs K μ H ws es) (hz : es.length ≤ sizeLine) :
    Rel K μ (L2.upd H p (.lst ws)) (s.set n (.lst es)) :=
  R.setC hm hs trivial trivial ⟨ws, upd_same, hv.mono (le_set hp), hz⟩
/-- a dict changes -/
theorem Rel.setD {s : Store} {p : Addr} {n : Nat} {vs ws : List (Key × V)} {ds es : List (Key × DV)} (R : Rel K μ H s) (hm : μ[n]? = some p) (hs : s[n]? = some (.dct ds)) (hp : H p = some (.dK vs)) (hk : ws.map (·.1) = es.map (·.1)) (hv : VRs K μ H (ws.map (·.2)) (es.map (·.2))) (hz : es.length ≤ sizeLine) :
    Rel K μ (L2.upd H p (.dK ws)) (s.set n (.dct es)) :=
  R.setC hm hs trivial trivial ⟨ws, upd_same, hk, hv.monoW (le_setW hp trivial), hz⟩

/-! ### slots -/
structure LR (K : PySem.W.Frag) (ex : Option (Addr × Nat)) (μ : List Addr) (H : Hp) (σ : L2.St) (r : Loc) : Prop where
  len : r.length = σ.length
  at_ : ∀ (i : Nat) (d : DV), r[i]? = some (some d) → (∃ v, σ[i]? = some (some v) ∧ VR K μ H v d) ∨ ∃ a c, d = .exc c ∧ ex = some (a, c) ∧ σ[i]? = some (some (.ref a))
theorem LR.mono {ex : Option (Addr × Nat)} {σ : L2.St} {r : Loc} (e : Le K μ H μ' H') (h : LR K ex μ H σ r) : LR K ex μ' H' σ r :=
  ⟨h.len, fun i d q => by
    rcases h.at_ i d q with ⟨v, h1, h2⟩ | h
    · exact .inl ⟨v, h1, h2.mono e⟩
    · exact .inr h⟩
theorem LR.monoW {ex : Option (Addr × Nat)} {σ : L2.St} {r : Loc} (e : LeW K μ H μ' H') (h : LR K ex μ H σ r) : LR K ex μ' H' σ r :=
  ⟨h.len, fun i d q => by
    rcases h.at_ i d q with ⟨v, h1, h2⟩ | h
    · exact .inl ⟨v, h1, h2.monoW e⟩
    · exact .inr h⟩
theorem LR.set {ex : Option (Addr × Nat)} {σ : L2.St} {r : Loc} {i : Nat} {v : V} {d : DV} (h : LR K ex μ H σ r) (q : VR K μ H v d) : LR K ex μ H (σ.set i (some v)) (r.set i (some d)) := by
  refine ⟨by rw [List.length_set, List.length_set]; exact h.len, fun j e he => ?_⟩
  by_cases hij : i = j
  · subst hij
    have hlt : i < (r.set i (some d)).length := (List.getElem?_eq_some_iff.mp he).1
    rw [List.length_set] at hlt
    rw [List.getElem?_set_self hlt] at he
    cases he
    exact .inl ⟨v, by rw [List.getElem?_set_self (by rw [← h.len]; exact hlt)], q⟩
  · rw [List.getElem?_set_ne hij] at he
    rw [List.getElem?_set_ne hij]
    exact h.at_ j e he
theorem LR.del {ex : Option (Addr × Nat)} {σ : L2.St} {r : Loc} {i : Nat} (h : LR K ex μ H σ r) : LR K ex μ H (σ.set i none) (r.set i none) := by
  refine ⟨by rw [List.length_set, List.length_set]; exact h.len, fun j e he => ?_⟩
  by_cases hij : i = j
  · subst hij
    have hlt : i < (r.set i none).length := (List.getElem?_eq_some_iff.mp he).1
    rw [List.length_set] at hlt
    rw [List.getElem?_set_self hlt] at he
    cases he
  · rw [List.getElem?_set_ne hij] at he
    rw [List.getElem?_set_ne hij]
    exact h.at_ j e he
/-- in front of a suite no slot holds an exception -/
def NoX (r : Loc) : Prop := ∀ (i : Nat) (c : Nat), r[i]? ≠ some (some (.exc c))
theorem LR.re {ex ex' : Option (Addr × Nat)} {σ : L2.St} {r : Loc} (h : LR K ex μ H σ r) (e : ex = none ∨ ex = ex') : LR K ex' μ H σ r :=
  ⟨h.len, fun i d q => by
    rcases h.at_ i d q with h | ⟨a, c, h1, h2, h3⟩
    · exact .inl h
    · rcases e with e | e
      · rw [e] at h2; cases h2
      · exact .inr ⟨a, c, h1, by rw [← e]; exact h2, h3⟩⟩
theorem LR.wipe {ex : Option (Addr × Nat)} {σ : L2.St} {r : Loc} (h : LR K ex μ H σ r) : ∀ vs : List Nat, LR K ex μ H (L2.wipe σ vs) (Ip.wipe r vs)
  | [] => h
  | v :: vs => (LR.wipe h vs).del

/-! ### what a run of the small machine promises -/
section
variable {α β : Type}
def Go (K : PySem.W.Frag) (μ : List Addr) (H : Hp) (m : Res α) (Wn : Nat → Hp → Prop) (Q : List Addr → Hp → Store → α → Prop) : Prop := match m with
  | .ok d s => ∀ μ' H', Le K μ H μ' H' → Rel K μ' H' s → Q μ' H' s d
  | .exc c s => ∀ μ' H', Le K μ H μ' H' → Rel K μ' H' s → Wn c H'
  | .stuck => False
variable {m : Res α} {Wn : Nat → Hp → Prop}
theorem Go.map {Q Q' : List Addr → Hp → Store → α → Prop} (h : Go K μ H m Wn Q) (f : ∀ μ' H' s d, Le K μ H μ' H' → Rel K μ' H' s → Q μ' H' s d → Q' μ' H' s d) : Go K μ H m Wn Q' := by
  cases m with
  | ok d s => exact fun μ' H' le R => f μ' H' s d le R (h μ' H' le R)
  | exc c s => exact h
  | stuck => exact h
theorem Go.later {Q : List Addr → Hp → Store → α → Prop} (h : Go K μ H m Wn Q) (e : Le K μ H μ' H') : Go K μ' H' m Wn Q := by
  cases m with
  | ok d s => exact fun μ2 H2 le R => h μ2 H2 (e.trans le) R
  | exc c s => exact fun μ2 H2 le R => h μ2 H2 (e.trans le) R
  | stuck => exact h
theorem Go.bind {f : α → Store → Res β} {Q : List Addr → Hp → Store → β → Prop} (h : Go K μ H (m.bind f) Wn Q) : Go K μ H m Wn (fun μ1 H1 s1 d => Go K μ1 H1 (f d s1) Wn Q) := by
  cases m with
  | ok d s => exact fun μ1 H1 le R => Go.later (m := f d s) h le
  | exc c s => exact h
  | stuck => exact h
theorem Go.ok {d : α} {s : Store} {Q : List Addr → Hp → Store → α → Prop} (h : Go K μ H (.ok d s) Wn Q) (R : Rel K μ H s) : Q μ H s d := h μ H Le.refl R
end
end
end Ip
end PtIpSound
section PtIpKR
set_option Elab.async false
set_option linter.all false
set_option maxRecDepth 100000
/-! what a dict holds -/
namespace Ip
open PySem PySem.Spec PyProof.Rows L2
/-! ### what a dict holds -/
/-- the same keys, values that go together -/
inductive KR (K : PySem.W.Frag) (μ : List Addr) (H : Hp) : List (Key × V) → List (Key × DV) → Prop
  | nil : KR K μ H [] []
  | cons {k : Key} {v : V} {d : DV} {ws : List (Key × V)} {ks : List (Key × DV)} : VR K μ H v d → KR K μ H ws ks → KR K μ H ((k, v) :: ws) ((k, d) :: ks)
section
variable {K : PySem.W.Frag} {μ μ' : List Addr} {H H' : Hp}
theorem KR.both {ws : List (Key × V)} {ks : List (Key × DV)} (h : KR K μ H ws ks) : ws.map (·.1) = ks.map (·.1) ∧ VRs K μ H (ws.map (·.2)) (ks.map (·.2)) := by
  induction h with
  | nil => exact ⟨rfl, .nil⟩
  | cons r _ ih => exact ⟨by rw [List.map_cons, List.map_cons, ih.1], .cons r ih.2⟩
theorem KR.of : ∀ {ws : List (Key × V)} {ks : List (Key × DV)}, ws.map (·.1) = ks.map (·.1) → VRs K μ H (ws.map (·.2)) (ks.map (·.2)) → KR K μ H ws ks
  | [], [], _, _ => .nil
  | [], _ :: _, e, _ => by simp at e
  | _ :: _, [], e, _ => by simp at e
  | (k, v) :: ws, (k', d) :: ks, e, r => by
    rw [List.map_cons, List.map_cons, List.cons.injEq] at e
    obtain rfl : k = k' := e.1
    rw [List.map_cons, List.map_cons] at r
    cases r with
    | cons r t => exact .cons r (KR.of e.2 t)
theorem KR.len {ws : List (Key × V)} {ks : List (Key × DV)} (h : KR K μ H ws ks) : ws.length = ks.length := by
  induction h with
  | nil => rfl
  | cons _ _ ih => rw [List.length_cons, List.length_cons, ih]
theorem KR.some_in {ws : List (Key × V)} {ks : List (Key × DV)} (h : KR K μ H ws ks) (k : Key) : (ws.any fun z => decide (z.1 = k)) = ks.any fun z => decide (z.1 = k) := by
  induction h with
  | nil => rfl
  | cons _ _ ih => rw [List.any_cons, List.any_cons, ih]
theorem KR.at_end {ws : List (Key × V)} {ks : List (Key × DV)} {k : Key} {v : V} {d : DV} (h : KR K μ H ws ks) (r : VR K μ H v d) : KR K μ H (ws ++ [(k, v)]) (ks ++ [(k, d)]) := by
  induction h with
  | nil => exact .cons r .nil
  | cons q _ ih => exact .cons q ih
theorem KR.over {ws : List (Key × V)} {ks : List (Key × DV)} {k : Key} {v : V} {d : DV} (h : KR K μ H ws ks) (r : VR K μ H v d) :
    KR K μ H (ws.map fun z => if z.1 = k then (z.1, v) else z) (ks.map fun z => if z.1 = k then (z.1, d) else z) := by
  induction h with
  | nil => exact .nil
  | @cons k0 v0 d0 ws0 ks0 q _ ih =>
    rw [List.map_cons, List.map_cons]
    by_cases e : k0 = k
    · rw [if_pos e, if_pos e]
      exact .cons r ih
    · rw [if_neg e, if_neg e]
      exact .cons q ih
theorem KR.put {ws : List (Key × V)} {ks : List (Key × DV)} {k : Key} {v : V} {d : DV} (h : KR K μ H ws ks) (r : VR K μ H v d) : KR K μ H (putK ws k v) (putD ks k d) := by
  unfold putK putD
  rw [h.some_in k]
  split
  · exact h.over r
  · exact h.at_end r
theorem KR.fill {ws : List (Key × V)} {ks : List (Key × DV)} (h : KR K μ H ws ks) : ∀ {us : List (Key × V)} {ls : List (Key × DV)}, KR K μ H us ls → KR K μ H (mergeK us ws) (mergeD ls ks) := by
  induction h with
  | nil => exact fun q => q
  | cons r _ ih => exact fun q => ih (q.put r)
theorem KR.find {ws : List (Key × V)} {ks : List (Key × DV)} (h : KR K μ H ws ks) (k : Key) {v : V} {d : DV} (r : VR K μ H v d) : VR K μ H ((valV ws k).getD v) ((getD ks k).getD d) := by
  induction h with
  | nil => exact r
  | @cons k0 v0 d0 ws0 ks0 q _ ih =>
    unfold valV getD at ih ⊢
    rw [List.find?_cons, List.find?_cons]
    by_cases e : k0 = k
    · simp only [e, decide_true]
      exact q
    · simp only [e, decide_false]
      exact ih
theorem key_kV {v : V} {d : DV} {k : Key} (r : VR K μ H v d) (e : key? d = some k) : v = kV k := by
  cases r <;> cases e <;> rfl
theorem length_putD (ks : List (Key × DV)) (k : Key) (d : DV) : (putD ks k d).length ≤ ks.length + 1 := by
  unfold putD
  split
  · rw [List.length_map]; exact Nat.le_succ _
  · rw [List.length_append]; exact Nat.le_refl _
end
end Ip
end PtIpKR
section PtIpExpr
set_option Elab.async false
set_option linter.all false
set_option maxRecDepth 100000
namespace Ip
open PySem PySem.Spec PyProof.Rows L2

/-- what a text means here: the defs, the constants, the classes -/
structure Tb where
  call : Nat → List DV → Store → Res DV
  G : Nat → Option DV
  sub : Nat → Nat → Bool
  cls : Nat → Option Addr

theorem _root_.L2.PE.imp {X : Cx} {e : Expr} {t t' : TE} (h : PE X e t) (f : ∀ σ H Q, t' σ H Q → t σ H Q) : PE X e t' := ⟨fun pins s σ H Q I q => h.run pins s σ H Q I (f σ H Q q)⟩
theorem _root_.L2.PT.imp {X : Cx} {e : Expr} {t t' : TT} (h : PT X e t) (f : ∀ σ H Q, t' σ H Q → t σ H Q) : PT X e t' := ⟨fun pins s σ H Q I q => h.run pins s σ H Q I (f σ H Q q)⟩
theorem _root_.L2.PW.imp {X : Cx} {e : Expr} {t t' : TT} (h : PW X e t) (f : ∀ σ H Q, t' σ H Q → t σ H Q) : PW X e t' := ⟨fun w pins s σ H Q I q => h.run w pins s σ H Q I (f σ H Q q)⟩
theorem _root_.L2.PA.imp {X : Cx} {e : List Expr} {t t' : TA} (h : PA X e t) (f : ∀ σ H Q, t' σ H Q → t σ H Q) : PA X e t' := ⟨fun p pins s σ H Q I q => h.run p pins s σ H Q I (f σ H Q q)⟩
theorem _root_.L2.PS.imp {X : Cx} {st : Stmt} {t t' : TS} (h : PS X st t) (f : ∀ D σ H, t' D σ H → t D σ H) : PS X st t' := ⟨fun pins s σ H D I q => h.run pins s σ H D I (f D σ H q)⟩
theorem _root_.L2.PSs.imp {X : Cx} {st : List Stmt} {t t' : TS} (h : PSs X st t) (f : ∀ D σ H, t' D σ H → t D σ H) : PSs X st t' := ⟨fun pins s σ H D I q => h.run pins s σ H D I (f D σ H q)⟩
theorem _root_.L2.PG.imp {X : Cx} {e : Expr} {t t' : TG} (h : PG X e t) (f : ∀ v σ H Q, t' v σ H Q → t v σ H Q) : PG X e t' := ⟨fun pins s σ H v u Q I r q => h.run pins s σ H v u Q I r (f v σ H Q q)⟩
theorem _root_.L2.PGs.imp {X : Cx} {e : List Expr} {t t' : TGs} (h : PGs X e t) (f : ∀ v σ H Q, t' v σ H Q → t v σ H Q) : PGs X e t' := ⟨fun pins s σ H v u Q I r q => h.run pins s σ H v u Q I r (f v σ H Q q)⟩
theorem _root_.L2.PI.imp {X : Cx} {tg e : Expr} {t t' : TI} (h : PI X tg e t) (f : ∀ σ H R, t' σ H R → t σ H R) : PI X tg e t' := ⟨fun pins s σ H R I q => h.run pins s σ H R I (f σ H R q)⟩
theorem _root_.L2.PO.imp {X : Cx} {e : Option Expr} {t t' : TO} (h : PO X e t) (f : ∀ σ H Q, t' σ H Q → t σ H Q) : PO X e t' := ⟨fun pins s σ H Q I q => h.run pins s σ H Q I (f σ H Q q)⟩

/-! ### readings -/
/-- a run from some state that the slots and the heap stand for -/
def Run {α : Type} (T : Tb) (K : PySem.W.Frag) (ex : Option (Addr × Nat)) (W : WX) (σ : L2.St) (H : Hp) (m : Loc → Store → Res α) (Q : List Addr → Hp → Store → α → Prop) : Prop :=
  ∃ μ r s, Rel K μ H s ∧ LR K ex μ H σ r ∧ Go K μ H (m r s) (fun c H' => ∀ C, T.cls c = some C → W (.ref C) none σ H') Q
def QV (K : PySem.W.Frag) (Q : VK) : List Addr → Hp → Store → DV → Prop := fun μ H _ d => ∀ v, VR K μ H v d → Q v H
def tE (T : Tb) (K : PySem.W.Frag) (ex : Option (Addr × Nat)) (W : WX) (c : CE) : TE := fun σ H Q =>
  ∃ μ r s, Rel K μ H s ∧ LR K ex μ H σ r ∧ Go K μ H (evE T.call T.G T.sub c r s) (fun c H' => ∀ C, T.cls c = some C → W (.ref C) none σ H') (fun μ' H' _ d => ∀ v, VR K μ' H' v d → Q v H')
def tTst (T : Tb) (K : PySem.W.Frag) (ex : Option (Addr × Nat)) (W : WX) (c : CE) : TT := fun σ H Q =>
  ∃ μ r s, Rel K μ H s ∧ LR K ex μ H σ r ∧ Go K μ H ((evE T.call T.G T.sub c r s).bind fun x s => truth x s) (fun c H' => ∀ C, T.cls c = some C → W (.ref C) none σ H') (fun _ H' _ b => Q b H')
def tEs (T : Tb) (K : PySem.W.Frag) (ex : Option (Addr × Nat)) (W : WX) (c : CEs) : TA := fun σ H Q =>
  ∃ μ r s, Rel K μ H s ∧ LR K ex μ H σ r ∧ Go K μ H (evEs T.call T.G T.sub c r s) (fun c H' => ∀ C, T.cls c = some C → W (.ref C) none σ H') (fun μ' H' _ ds => ∀ vs, VRs K μ' H' vs ds → Q vs H')
def tEO (T : Tb) (K : PySem.W.Frag) (ex : Option (Addr × Nat)) (W : WX) (c : CO) : TO := fun σ H Q =>
  ∃ μ r s, Rel K μ H s ∧ LR K ex μ H σ r ∧ Go K μ H (evO T.call T.G T.sub c r s) (fun c H' => ∀ C, T.cls c = some C → W (.ref C) none σ H') (fun _ H' _ o => Q o H')

structure SE (T : Tb) (X : Cx) (ex : Option (Addr × Nat)) (W : WX) (e : Expr) (c : CE) : Prop where
  pe : PE X e (tE T X.K ex W c)
structure ST (T : Tb) (X : Cx) (ex : Option (Addr × Nat)) (W : WX) (e : Expr) (c : CE) : Prop where
  pt : PT X e (tTst T X.K ex W c)
structure SW (T : Tb) (X : Cx) (ex : Option (Addr × Nat)) (W : WX) (e : Expr) (c : CE) : Prop where
  pw : PW X e (tTst T X.K ex W c)
structure SEs (T : Tb) (X : Cx) (ex : Option (Addr × Nat)) (W : WX) (es : List Expr) (c : CEs) : Prop where
  pa : PA X es (tEs T X.K ex W c)
structure SO (T : Tb) (X : Cx) (ex : Option (Addr × Nat)) (W : WX) (e : Option Expr) (c : CO) : Prop where
  po : PO X e (tEO T X.K ex W c)

section
variable {T : Tb} {X : Cx} {ex : Option (Addr × Nat)} {W : WX} {a b c e : Expr} {ca cb cc : CE} {pos : Pos} {es : List Expr} {ces : CEs}

theorem se_slot (i : Nat) {x : Str} {pos : Pos} (hN : X.N[i]? = some x := by rfl) (hv : Vis X.env.scope x := by first | exact Or.inl rfl | exact Or.inr (Or.inl rfl) | exact Or.inr (Or.inr rfl)) (hd : (x == ("__debug__" : Str)) = false := by decide)
    (hcd : (x == ("__classdict__" : Str)) = false := by decide) : SE T X ex W (.Name x pos) (.slot i) := ⟨(pe_var hN hv hd hcd).imp fun σ H Q h => by
  obtain ⟨μ, r, s, R, L, h⟩ := h
  simp only [evE] at h
  cases hr : r[i]? with
  | none => rw [hr] at h; exact h.elim
  | some o =>
    rw [hr] at h
    cases o with
    | none => exact h.elim
    | some d =>
      rcases L.at_ i d hr with ⟨v, h1, h2⟩ | ⟨_, c, h1, _⟩
      · refine ⟨v, h1, ?_⟩
        cases h2 with
        | non => exact h.ok R _ .non
        | bl b => exact h.ok R _ (.bl b)
        | int i => exact h.ok R _ (.int i)
        | str x => exact h.ok R _ (.str x)
        | tup q1 q2 => exact h.ok R _ (.tup q1 q2)
        | ref q => exact h.ok R _ (.ref q)
      · subst h1
        exact h.elim⟩
theorem se_int {i : Int} {j : Nat} {pos : Pos} : SE T X ex W (.Constant (.int i) j pos) (.k (.int i)) := ⟨pe_int.imp fun σ H Q ⟨_, _, _, R, _, h⟩ => h.ok R _ (.int i)⟩
theorem se_bl {i : Bool} {j : Nat} {pos : Pos} : SE T X ex W (.Constant (.bool i) j pos) (.k (.bl i)) := ⟨pe_bl.imp fun σ H Q ⟨_, _, _, R, _, h⟩ => h.ok R _ (.bl i)⟩
theorem se_non {j : Nat} {pos : Pos} : SE T X ex W (.Constant .none j pos) (.k .non) := ⟨pe_non.imp fun σ H Q ⟨_, _, _, R, _, h⟩ => h.ok R _ .non⟩
theorem se_str {x : Str} {j : Nat} {pos : Pos} : SE T X ex W (.Constant (.str x) j pos) (.k (.str x)) := ⟨pe_str.imp fun σ H Q ⟨_, _, _, R, _, h⟩ => h.ok R _ (.str x)⟩

/-! ### operators by values -/
def rB (K : PySem.W.Frag) (op : BOp) : R2 := fun x y H Q => ∃ μ s d e Wn, Rel K μ H s ∧ VR K μ H x d ∧ VR K μ H y e ∧ Go K μ H (binV op d e s) Wn (fun μ' H' _ z => ∀ v, VR K μ' H' v z → Q v H')
def bopOf : BOp → Operator
  | .add => .Add | .sub => .Sub | .mul => .Mult | .fdiv => .FloorDiv | .mod => .Mod | .pow => .Pow | .shl => .LShift | .shr => .RShift
theorem mulOk_use {i j : Int} (h : mulOk i j = true) : CMul i j ∨ CMulW i j := by
  unfold mulOk at h
  rw [Bool.or_eq_true, Bool.or_eq_true] at h
  rcases h with (h | h) | h
  · have h := of_decide_eq_true h
    exact .inl (.inl (by omega))
  · have h := of_decide_eq_true h
    exact .inl (.inr (by omega))
  · exact .inr (show i.natAbs.log2 + j.natAbs.log2 < 1000000 from of_decide_eq_true h)
theorem op_fdivNW : OpR X (binaryOp .FloorDiv) (rI (fun _ j => j ≠ 0 ∧ j.natAbs.log2 < 9000) fun i j => .int (i.fdiv j)) := opI fun _ _ _ _ _ _ _ hc q => floordiv_int hc.1 q (.inl (PyProof.noPylong_of_log2 hc.2))
theorem mulS_use {a : Str} {n : Int} (h : 1 ≤ n ∧ n ≤ 1000 ∧ a.length ≤ 1000) : PySem.MulOk a n := by
  obtain ⟨h1, h2, h3⟩ := h
  have c1 : ¬ n < -(2 ^ 63 : Int) := by omega
  have c2 : ¬ n ≥ 2 ^ 63 := by omega
  refine ⟨?_, fun _ _ hgt => ?_, fun _ _ => ?_⟩
  · rw [decide_eq_false c1, decide_eq_false c2]
    rfl
  · have q : (1000 : Int) ≤ (2 ^ 63 - 1) / n := by
      refine (Int.le_ediv_iff_mul_le (by omega)).mpr ?_
      omega
    have : (a.length : Int) ≤ 1000 := by omega
    omega
  · have q : a.length * n.toNat ≤ 1000 * 1000 := Nat.mul_le_mul h3 (by omega)
    unfold Builtin.Str.tooLong
    simp only [decide_eq_false_iff_not]
    have : (1000 * 1000 : Nat) ≤ sizeLine := by decide
    omega
theorem op_mulS : OpR X (binaryOp .Mult) (fun x y H Q => ∃ a n, x = .str a ∧ y = .int n ∧ (1 ≤ n ∧ n ≤ 1000 ∧ a.length ≤ 1000) ∧ Q (.str (PySem.Txt.mul a n)) H) := by
  intro pins s σ H x y v u Q I rx ry h
  obtain ⟨a, n, rfl, rfl, hm, h⟩ := h
  obtain ⟨t, rfl⟩ := rx
  obtain ⟨t', rfl⟩ := ry
  exact PySem.SB.mul (mulS_use hm) fun t2 k => ⟨.str _, H, I.tok k, ⟨t2, rfl⟩, h⟩
theorem op_sound (op : BOp) : OpR X (binaryOp (bopOf op)) (rB X.K op) := by
  intro pins s σ H x y v u Q I rx ry h
  obtain ⟨μ, s0, d, e, Wn, R, hx, hy, h⟩ := h
  cases hx with
  | int i =>
    cases hy with
    | int j =>
      cases op with
      | add => exact op_add pins s σ H _ _ v u Q I rx ry ⟨i, j, rfl, rfl, h.ok R _ (.int _)⟩
      | sub => exact op_sub pins s σ H _ _ v u Q I rx ry ⟨i, j, rfl, rfl, h.ok R _ (.int _)⟩
      | mul =>
        simp only [binV, binI] at h
        split at h
        · rename_i hm
          rcases mulOk_use hm with hc | hc
          · exact op_mul pins s σ H _ _ v u Q I rx ry ⟨i, j, rfl, rfl, hc, h.ok R _ (.int _)⟩
          · exact op_mulW pins s σ H _ _ v u Q I rx ry ⟨i, j, rfl, rfl, hc, h.ok R _ (.int _)⟩
        · exact h.elim
      | fdiv =>
        simp only [binV, binI] at h
        split at h
        · rename_i hm
          exact op_fdivW pins s σ H _ _ v u Q I rx ry ⟨i, j, rfl, rfl, hm, h.ok R _ (.int _)⟩
        · split at h
          · rename_i hm
            exact op_fdivNW pins s σ H _ _ v u Q I rx ry ⟨i, j, rfl, rfl, ⟨by omega, hm.2⟩, h.ok R _ (.int _)⟩
          · exact h.elim
      | mod =>
        simp only [binV, binI] at h
        split at h
        · rename_i hm
          exact op_mod pins s σ H _ _ v u Q I rx ry ⟨i, j, rfl, rfl, hm, h.ok R _ (.int _)⟩
        · split at h
          · rename_i hm
            exact op_modN pins s σ H _ _ v u Q I rx ry ⟨i, j, rfl, rfl, by omega, h.ok R _ (.int _)⟩
          · exact h.elim
      | pow =>
        simp only [binV, binI] at h
        split at h
        · rename_i hm
          exact op_pow pins s σ H _ _ v u Q I rx ry ⟨i, j, rfl, rfl, hm, h.ok R _ (.int _)⟩
        · exact h.elim
      | shl =>
        simp only [binV, binI] at h
        split at h
        · rename_i hm
          have hs : CShl i j := by
            have e := shl_ok (i := i) (j := j.toNat) (n := 1000) hm.2.2 (by omega)
            rwa [Int.toNat_of_nonneg hm.1] at e
          exact op_shlW pins s σ H _ _ v u Q I rx ry ⟨i, j, rfl, rfl, hs, h.ok R _ (.int _)⟩
        · exact h.elim
      | shr =>
        simp only [binV, binI] at h
        split at h
        · rename_i hm
          exact op_shr pins s σ H _ _ v u Q I rx ry ⟨i, j, rfl, rfl, hm, h.ok R _ (.int _)⟩
        · exact h.elim
    | non => exact h.elim
    | bl _ => exact h.elim
    | str _ => exact h.elim
    | tup _ _ => exact h.elim
    | ref _ => exact h.elim
  | str i =>
    cases hy with
    | str j =>
      cases op with
      | add =>
        simp only [binV] at h
        split at h
        · rename_i hm
          exact op_add_str pins s σ H _ _ v u Q I rx ry ⟨i, j, rfl, rfl, hm, h.ok R _ (.str _)⟩
        · exact h.elim
      | _ => exact h.elim
    | int j =>
      cases op with
      | mul =>
        simp only [binV] at h
        split at h
        · rename_i hm
          exact op_mulS pins s σ H _ _ v u Q I rx ry ⟨i, j, rfl, rfl, hm, h.ok R _ (.str _)⟩
        · exact h.elim
      | _ => exact h.elim
    | non => exact h.elim
    | bl _ => exact h.elim
    | tup _ _ => exact h.elim
    | ref _ => exact h.elim
  | tup h1 h2 =>
    cases hy with
    | tup k1 k2 =>
      cases op with
      | add =>
        simp only [binV] at h
        split at h
        · rename_i hm
          refine or_catZ pins s σ H _ _ v u Q I rx ry ⟨_, _, _, _, rfl, rfl, h1, k1, by rw [h2.length, k2.length]; exact hm, fun e0 => ?_, fun _ e0 => ?_, fun p o hp hd => ?_⟩
          · subst e0
            cases h2
            exact h.ok R _ (.tup k1 k2)
          · subst e0
            cases k2
            refine h.ok R _ (.tup h1 ?_)
            rw [List.append_nil]
            exact h2
          · exact h μ _ (le_upd hp) (R.upd hp) _ (.tup (TupP.of upd_same hd) ((h2.append k2).mono (le_upd hp)))
        · exact h.elim
      | _ => exact h.elim
    | non => exact h.elim
    | bl _ => exact h.elim
    | int _ => exact h.elim
    | str _ => exact h.elim
    | ref _ => exact h.elim
  | non => cases hy <;> exact h.elim
  | bl _ => cases hy <;> exact h.elim
  | ref h1 =>
    cases hy with
    | ref h2 =>
      cases op with
      | add =>
        simp only [binV] at h
        split at h
        · rename_i xs ys hx hy
          split at h
          · rename_i hz
            obtain ⟨vs, c1, c2, _⟩ := R.at_ _ _ _ h1 hx
            obtain ⟨ws, k1, k2, _⟩ := R.at_ _ _ _ h2 hy
            refine op_cat pins s σ H _ _ v u Q I rx ry ⟨_, _, vs, ws, rfl, rfl, c1, k1, by rw [c2.length, k2.length]; exact hz, fun p hp => ?_⟩
            refine h (μ ++ [p]) _ (le_new hp) (R.new hp (c2.append k2) (by rw [List.length_append]; exact hz)) _ (.ref ?_)
            rw [← R.len]
            exact get_app_n
          · exact h.elim
        · exact h.elim
      | _ => exact h.elim
    | _ => exact h.elim
theorem se_bin (op : BOp) (ha : SE T X ex W a ca) (hb : SE T X ex W b cb) : SE T X ex W (.BinOp a (bopOf op) b pos) (.bin op ca cb) := ⟨(pe_op (op_sound op) ha.pe hb.pe).imp fun σ H Q h => by
  obtain ⟨μ, r, s, R, L, h⟩ := h
  refine ⟨μ, r, s, R, L, h.bind.map fun μ1 H1 s1 x le1 R1 h1 v1 hv1 => ?_⟩
  exact ⟨μ1, r, s1, R1, L.mono le1, h1.bind.map fun μ2 H2 s2 y le2 R2 h2 v2 hv2 => ⟨μ2, s2, x, y, _, R2, hv1.mono le2, hv2, h2⟩⟩⟩
theorem se_neg (ha : SE T X ex W a ca) : SE T X ex W (.UnaryOp .USub a pos) (.neg ca) := ⟨(pe_un un_neg ha.pe).imp fun σ H Q h => by
  obtain ⟨μ, r, s, R, L, h⟩ := h
  refine ⟨μ, r, s, R, L, h.bind.map fun μ1 H1 s1 x le1 R1 h1 v1 hv1 => ?_⟩
  cases hv1 with
  | int i => exact ⟨i, rfl, h1.ok R1 _ (.int _)⟩
  | _ => exact h1.elim⟩

/-! ### truth -/
theorem truth_sound {K : PySem.W.Frag} {μ : List Addr} {H : Hp} {s s' : Store} {v : V} {d : DV} {b : Bool} (R : Rel K μ H s) (h : VR K μ H v d) (e : truth d s = .ok b s') : s' = s ∧ TruV K v H b := by
  cases h with
  | non => cases e; exact ⟨rfl, rfl⟩
  | bl _ => cases e; exact ⟨rfl, rfl⟩
  | int _ => cases e; exact ⟨rfl, rfl⟩
  | str y =>
    simp only [truth] at e
    split at e
    · rename_i hz
      cases e
      exact ⟨rfl, hz, rfl⟩
    · cases e
  | tup h1 h2 =>
    cases e
    exact ⟨rfl, .inr (.inl ⟨_, h1.sq, by rw [h2.isEmpty]⟩)⟩
  | ref hm =>
    simp only [truth] at e
    split at e
    · rename_i xs hc
      cases e
      obtain ⟨vs, q1, q2⟩ := R.cellL hm hc
      exact ⟨rfl, .inl ⟨vs, q1, by rw [q2.isEmpty]⟩⟩
    · cases e
theorem truth_noexc {d : DV} {s s' : Store} {c : Nat} : truth d s ≠ .exc c s' := by
  cases d <;> simp only [truth] <;> (try split) <;> intro h <;> cases h
theorem Go.truth {K : PySem.W.Frag} {μ : List Addr} {H : Hp} {s : Store} {v : V} {d : DV} {Wn : Nat → Hp → Prop} {Q : List Addr → Hp → Store → Bool → Prop} (h : Go K μ H (truth d s) Wn Q) (R : Rel K μ H s) (hv : VR K μ H v d) :
    ∃ k, TruV K v H k ∧ Q μ H s k := by
  cases e : Ip.truth d s with
  | ok b s' =>
    rw [e] at h
    obtain ⟨rfl, t⟩ := truth_sound R hv e
    exact ⟨b, t, h.ok R⟩
  | exc c s' => exact absurd e truth_noexc
  | stuck => rw [e] at h; exact h.elim
theorem st_val (ha : SE T X ex W a ca) (he : ∀ whole, isTrue a X.env whole = (do let v ← whole; standAt a.pos; holding [v] (truthy v)) := by intro _; rfl) : ST T X ex W a ca := ⟨(pt_truth ha.pe he).imp fun σ H Q h => by
  obtain ⟨μ, r, s, R, L, h⟩ := h
  exact ⟨μ, r, s, R, L, h.bind.map fun μ1 H1 s1 x le1 R1 h1 v1 hv1 => h1.truth R1 hv1⟩⟩
theorem Go.ite {α : Type} {K : PySem.W.Frag} {μ : List Addr} {H : Hp} {c : Bool} {m n : Res α} {Wn : Nat → Hp → Prop} {Q : List Addr → Hp → Store → α → Prop} (h : Go K μ H (cond c m n) Wn Q) : if c = true then Go K μ H m Wn Q else Go K μ H n Wn Q := by
  cases c <;> exact h
theorem st_not (ha : ST T X ex W a ca) : ST T X ex W (.UnaryOp .Not a pos) (.not ca) := ⟨(pt_not ha.pt).imp fun σ H Q h => by
  obtain ⟨μ, r, s, R, L, h⟩ := h
  refine ⟨μ, r, s, R, L, ?_⟩
  simp only [evE] at h
  cases hm : evE T.call T.G T.sub ca r s with
  | ok x s1 =>
    rw [hm] at h
    show Go X.K μ H (Ip.truth x s1) _ _
    have h : Go X.K μ H (((Ip.truth x s1).bind fun b s => Res.ok (DV.bl (!b)) s).bind fun x s => Ip.truth x s) _ _ := h
    cases ht : Ip.truth x s1 with
    | ok k s2 => rw [ht] at h; exact h
    | exc c s2 => exact absurd ht truth_noexc
    | stuck => rw [ht] at h; exact h.elim
  | exc c s1 => rw [hm] at h; exact h
  | stuck => rw [hm] at h; exact h.elim⟩
/-! ### comparisons -/
mutual
theorem VR.dp {K : PySem.W.Frag} {μ : List Addr} {H : Hp} : ∀ {v : V} {d : DV}, VR K μ H v d → pure? d = true → Dp K H v (pd d)
  | _, _, .non, _ => .non
  | _, _, .bl b, _ => .bl b
  | _, _, .int i, _ => .int i
  | _, _, .str x, _ => .str x
  | _, _, .tup h hs, p => .tup h.sq (VRs.dp hs p)
  | _, _, .ref _, p => by cases p
theorem VRs.dp {K : PySem.W.Frag} {μ : List Addr} {H : Hp} : ∀ {vs : List V} {ds : List DV}, VRs K μ H vs ds → pures? ds = true → DpAll K H vs (pds ds)
  | _, _, .nil, _ => .nil
  | _, _, .cons h hs, p => by
    rw [pures?, Bool.and_eq_true] at p
    exact .cons (VR.dp h p.1) (VRs.dp hs p.2)
end
theorem VRs.ints {K : PySem.W.Frag} {μ : List Addr} {H : Hp} : ∀ {vs : List V} {ds : List DV} {is : List Int}, VRs K μ H vs ds → ints? ds = some is → vs = is.map V.int
  | _, _, _, .nil, e => by cases e; rfl
  | _, _, is, .cons h hs, e => by
    cases h with
    | int i =>
      simp only [ints?] at e
      split at e
      · rename_i js hj
        cases e
        rw [VRs.ints hs hj]
        rfl
      · cases e
    | _ => cases e
theorem VRs.strs {K : PySem.W.Frag} {μ : List Addr} {H : Hp} : ∀ {vs : List V} {ds : List DV} {is : List Str}, VRs K μ H vs ds → strs? ds = some is → vs = is.map V.str
  | _, _, _, .nil, e => by cases e; rfl
  | _, _, is, .cons h hs, e => by
    cases h with
    | str i =>
      simp only [strs?] at e
      split at e
      · rename_i js hj
        cases e
        rw [VRs.strs hs hj]
        rfl
      · cases e
    | _ => cases e
theorem flat_strsD : ∀ zs : List Str, (zs.map V.str).all flatV = true
  | [] => rfl
  | z :: zs => by
    rw [List.map_cons, List.all_cons, flat_strsD zs]
    rfl
theorem flat_intsD : ∀ zs : List Int, (zs.map V.int).all flatV = true
  | [] => rfl
  | z :: zs => by
    rw [List.map_cons, List.all_cons, flat_intsD zs]
    rfl
def copOf : COp → CmpOp
  | .eq => .Eq | .ne => .NotEq | .lt => .Lt | .le => .LtE | .gt => .Gt | .ge => .GtE | .is => .Is | .isNot => .IsNot | .in => .In | .notIn => .NotIn
def rC (K : PySem.W.Frag) (op : COp) : R2 := fun x y H Q => ∃ μ s d e Wn, Rel K μ H s ∧ VR K μ H x d ∧ VR K μ H y e ∧ Go K μ H (cmpV op d e s) Wn (fun _ H' _ b => Q (.bl b) H')
theorem str1 {a : Str} (h : a.length = 1) : a = ⟨#[a.cps.getD 0 0]⟩ := by
  obtain ⟨⟨l⟩⟩ := a
  match l, h with
  | [c], _ => rfl
theorem lsEq_use {K : PySem.W.Frag} {μ : List Addr} {H : Hp} {s : Store} {x y : V} {d e : DV} {b : Bool} (R : Rel K μ H s) (hx : VR K μ H x d) (hy : VR K μ H y e) (h : lsEq d e s = some b) :
    ∃ dx dy, Dp K H x dx ∧ Dp K H y dy ∧ SeqAt.shaped dx = true ∧ SeqAt.shaped dy = true ∧ b = PyData.eqv dx dy := by
  unfold lsEq at h
  split at h
  · split at h
    · rename_i xs ys h1 h2
      split at h
      · rename_i hc
        cases h
        cases hx with
        | ref m1 =>
          cases hy with
          | ref m2 =>
            obtain ⟨vs, c1, r1⟩ := R.cellL m1 h1
            obtain ⟨ws, c2, r2⟩ := R.cellL m2 h2
            rw [Bool.and_eq_true, Bool.and_eq_true, Bool.and_eq_true] at hc
            exact ⟨_, _, .lst c1 (r1.dp hc.1.1), .lst c2 (r2.dp hc.1.2), hc.2.1, hc.2.2, rfl⟩
      · cases h
    · cases h
  · cases h
theorem cop_sound (hu : X.A.units + 64 < cLine) (op : COp) : OpR X (compareOp (copOf op)) (rC X.K op) := by
  intro pins s σ H x y v u Q I rx ry h
  obtain ⟨μ, s0, d, e, Wn, R, hx, hy, h⟩ := h
  cases op with
  | eq =>
    simp only [cmpV] at h
    split at h
    · rename_i hc
      unfold cmpable at hc
      rw [Bool.and_eq_true, Bool.and_eq_true, Bool.and_eq_true] at hc
      exact op_eqD hu pins s σ H _ _ v u Q I rx ry ⟨_, _, hx.dp hc.1.1, hy.dp hc.2.1, hc.1.2, hc.2.2, h.ok R⟩
    · cases hz : lsEq d e s0 with
      | none => rw [hz] at h; exact h.elim
      | some b =>
        rw [hz] at h
        obtain ⟨dx, dy, q1, q2, q3, q4, rfl⟩ := lsEq_use R hx hy hz
        exact op_eqD hu pins s σ H _ _ v u Q I rx ry ⟨dx, dy, q1, q2, q3, q4, h.ok R⟩
  | ne =>
    simp only [cmpV] at h
    split at h
    · rename_i hc
      unfold cmpable at hc
      rw [Bool.and_eq_true, Bool.and_eq_true, Bool.and_eq_true] at hc
      exact op_neD hu pins s σ H _ _ v u Q I rx ry ⟨_, _, hx.dp hc.1.1, hy.dp hc.2.1, hc.1.2, hc.2.2, h.ok R⟩
    · cases hz : lsEq d e s0 with
      | none => rw [hz] at h; exact h.elim
      | some b =>
        rw [hz] at h
        obtain ⟨dx, dy, q1, q2, q3, q4, rfl⟩ := lsEq_use R hx hy hz
        exact op_neD hu pins s σ H _ _ v u Q I rx ry ⟨dx, dy, q1, q2, q3, q4, h.ok R⟩
  | lt =>
    cases hx with
    | int i =>
      cases hy with
      | int j => exact op_lt pins s σ H _ _ v u Q I rx ry ⟨i, j, rfl, rfl, h.ok R⟩
      | _ => exact h.elim
    | str i =>
      cases hy with
      | str j => exact op_lt_str pins s σ H _ _ v u Q I rx ry ⟨i, j, rfl, rfl, h.ok R⟩
      | _ => exact h.elim
    | tup h1 h2 =>
      cases hy with
      | tup k1 k2 =>
        simp only [cmpV] at h
        split at h
        · rename_i is js hi hj
          have e1 := h2.ints hi
          have e2 := k2.ints hj
          subst e1
          subst e2
          exact op_ltT (Nat.lt_of_le_of_lt (Nat.le_add_right _ _) hu) pins s σ H _ _ v u Q I rx ry ⟨_, _, is, js, rfl, rfl, h1.sq, k1.sq, h.ok R⟩
        · exact h.elim
      | _ => exact h.elim
    | _ => exact h.elim
  | le =>
    cases hx with
    | int i =>
      cases hy with
      | int j => exact op_le pins s σ H _ _ v u Q I rx ry ⟨i, j, rfl, rfl, h.ok R⟩
      | _ => exact h.elim
    | _ => exact h.elim
  | gt =>
    cases hx with
    | int i =>
      cases hy with
      | int j => exact op_gt pins s σ H _ _ v u Q I rx ry ⟨i, j, rfl, rfl, h.ok R⟩
      | _ => exact h.elim
    | _ => exact h.elim
  | ge =>
    cases hx with
    | int i =>
      cases hy with
      | int j => exact op_ge pins s σ H _ _ v u Q I rx ry ⟨i, j, rfl, rfl, h.ok R⟩
      | _ => exact h.elim
    | _ => exact h.elim
  | is =>
    cases hx with
    | non =>
      cases hy with
      | non => exact op_isN pins s σ H _ _ v u Q I rx ry ⟨rfl, h.ok R⟩
      | _ => exact h.elim
    | bl _ => cases hy with
      | non => exact op_isN pins s σ H _ _ v u Q I rx ry ⟨rfl, h.ok R⟩
      | _ => exact h.elim
    | int _ => cases hy with
      | non => exact op_isN pins s σ H _ _ v u Q I rx ry ⟨rfl, h.ok R⟩
      | _ => exact h.elim
    | str _ => cases hy with
      | non => exact op_isN pins s σ H _ _ v u Q I rx ry ⟨rfl, h.ok R⟩
      | _ => exact h.elim
    | tup _ _ => cases hy with
      | non => exact op_isN pins s σ H _ _ v u Q I rx ry ⟨rfl, h.ok R⟩
      | _ => exact h.elim
    | ref _ => cases hy with
      | non => exact op_isN pins s σ H _ _ v u Q I rx ry ⟨rfl, h.ok R⟩
      | _ => exact h.elim
  | isNot =>
    cases hx with
    | non =>
      cases hy with
      | non => exact op_notN pins s σ H _ _ v u Q I rx ry ⟨rfl, h.ok R⟩
      | _ => exact h.elim
    | bl _ => cases hy with
      | non => exact op_notN pins s σ H _ _ v u Q I rx ry ⟨rfl, h.ok R⟩
      | _ => exact h.elim
    | int _ => cases hy with
      | non => exact op_notN pins s σ H _ _ v u Q I rx ry ⟨rfl, h.ok R⟩
      | _ => exact h.elim
    | str _ => cases hy with
      | non => exact op_notN pins s σ H _ _ v u Q I rx ry ⟨rfl, h.ok R⟩
      | _ => exact h.elim
    | tup _ _ => cases hy with
      | non => exact op_notN pins s σ H _ _ v u Q I rx ry ⟨rfl, h.ok R⟩
      | _ => exact h.elim
    | ref _ => cases hy with
      | non => exact op_notN pins s σ H _ _ v u Q I rx ry ⟨rfl, h.ok R⟩
      | _ => exact h.elim
  | «in» =>
    cases hx with
    | str i =>
      cases hy with
      | str j =>
        simp only [cmpV] at h
        split at h
        · rename_i h1
          refine op_in_sign pins s σ H _ _ v u Q I rx ry ⟨_, j, ?_, rfl, h.ok R⟩
          rw [← str1 h1]
        · exact h.elim
      | tup k1 k2 =>
        simp only [cmpV] at h
        cases hz : strs? _ with
        | none => rw [hz] at h; exact h.elim
        | some zs =>
          rw [hz] at h
          have e1 := k2.strs hz
          subst e1
          refine op_in_seq pins s σ H _ _ v u Q I rx ry ⟨_, _, rfl, .inr k1.sq, rfl, flat_strsD zs, ?_⟩
          have e2 : inV (.str i) (zs.map V.str) = zs.any fun z => decide (z = i) := by
            unfold inV
            rw [List.any_map]
            refine congrArg (fun f => zs.any f) (funext fun z => ?_)
            show (z == i) = _
            by_cases q : z = i
            · subst q; simp
            · simp [q]
          simp only [Bool.false_eq_true, if_false]
          rw [e2]
          exact h.ok R
      | _ => exact h.elim
    | int i =>
      cases hy with
      | tup k1 k2 =>
        simp only [cmpV] at h
        cases hz : ints? _ with
        | none => rw [hz] at h; exact h.elim
        | some zs =>
          rw [hz] at h
          have e1 := k2.ints hz
          subst e1
          refine op_in_seq pins s σ H _ _ v u Q I rx ry ⟨_, _, rfl, .inr k1.sq, rfl, flat_intsD zs, ?_⟩
          have e2 : inV (.int i) (zs.map V.int) = zs.any fun z => decide (z = i) := by
            unfold inV
            rw [List.any_map]
            refine congrArg (fun f => zs.any f) (funext fun z => ?_)
            show (z == i) = _
            by_cases q : z = i
            · subst q; simp
            · simp [q]
          simp only [Bool.false_eq_true, if_false]
          rw [e2]
          exact h.ok R
      | _ => exact h.elim
    | _ => cases hy <;> exact h.elim
  | notIn =>
    cases hx with
    | str i =>
      cases hy with
      | str j =>
        simp only [cmpV] at h
        split at h
        · rename_i h1
          refine op_notIn_sign pins s σ H _ _ v u Q I rx ry ⟨_, j, ?_, rfl, h.ok R⟩
          rw [← str1 h1]
        · exact h.elim
      | _ => exact h.elim
    | _ => exact h.elim
theorem cmp_step {op : COp} {σ : L2.St} {H : Hp} {Q : VK} (h : tE T X.K ex W (.cmp op ca cb) σ H Q) : tOp (rC X.K op) (tE T X.K ex W ca) (tE T X.K ex W cb) σ H Q := by
  obtain ⟨μ, r, s, R, L, h⟩ := h
  refine ⟨μ, r, s, R, L, h.bind.map fun μ1 H1 s1 x le1 R1 h1 v1 hv1 => ?_⟩
  exact ⟨μ1, r, s1, R1, L.mono le1, h1.bind.map fun μ2 H2 s2 y le2 R2 h2 v2 hv2 => ⟨μ2, s2, x, y, _, R2, hv1.mono le2, hv2, h2.bind.map fun μ3 H3 s3 b le3 R3 h3 => h3.ok R3 _ (.bl b)⟩⟩
theorem se_cmp (hu : X.A.units + 64 < cLine) (op : COp) (ha : SE T X ex W a ca) (hb : SE T X ex W b cb) (hm : behindInMarks (copOf op) b = false := by first | exact nomark _ | rfl) : SE T X ex W (.Compare a [copOf op] [b] pos) (.cmp op ca cb) :=
  ⟨(pe_cmpR (cop_sound hu op) ha.pe hb.pe hm).imp fun σ H Q h => cmp_step h⟩
theorem st_cmp (hu : X.A.units + 64 < cLine) (op : COp) (ha : SE T X ex W a ca) (hb : SE T X ex W b cb) (hm : behindInMarks (copOf op) b = false := by first | exact nomark _ | rfl) : ST T X ex W (.Compare a [copOf op] [b] pos) (.cmp op ca cb) :=
  ⟨(pt_cmpR (cop_sound hu op) ha.pe hb.pe hm).imp fun σ H Q h => by
    obtain ⟨μ, r, s, R, L, h⟩ := h
    refine cmp_step (Q := fun x H' => ∃ k, x = .bl k ∧ Q k H') ⟨μ, r, s, R, L, ?_⟩
    simp only [evE] at h ⊢
    cases hm : evE T.call T.G T.sub ca r s with
    | ok x s1 =>
      rw [hm] at h
      simp only [Res.bind] at h ⊢
      cases hm2 : evE T.call T.G T.sub cb r s1 with
      | ok y s2 =>
        rw [hm2] at h
        simp only at h ⊢
        cases hm3 : cmpV op x y s2 with
        | ok k s3 =>
          rw [hm3] at h
          exact fun μ' H' le R' v hv => by
            cases hv
            exact ⟨k, rfl, h μ' H' le R'⟩
        | exc c s3 => rw [hm3] at h; exact h
        | stuck => rw [hm3] at h; exact h
      | exc c s2 => rw [hm2] at h; exact h
      | stuck => rw [hm2] at h; exact h
    | exc c s1 => rw [hm] at h; exact h
    | stuck => rw [hm] at h; exact h⟩
end
end Ip
end PtIpExpr
section PtIpExpr2
set_option Elab.async false
set_option linter.all false
set_option maxRecDepth 100000
namespace Ip
open PySem PySem.Spec PyProof.Rows L2

theorem Res.bind_assoc {α β γ : Type} (m : Res α) (f : α → Store → Res β) (g : β → Store → Res γ) : (m.bind f).bind g = m.bind fun x s => (f x s).bind g := by
  cases m <;> rfl
theorem truth_store {d : DV} {s s' : Store} {b : Bool} (e : truth d s = .ok b s') : s' = s := by
  cases d <;> simp only [truth] at e <;> (try split at e) <;> cases e <;> rfl

section
variable {T : Tb} {X : Cx} {ex : Option (Addr × Nat)} {W : WX} {a b c e : Expr} {ca cb cc : CE} {pos : Pos} {es rest : List Expr} {ces : CEs}

/-! ### and, or, a choice -/
theorem se_notV (ha : SE T X ex W a ca) : SE T X ex W (.UnaryOp .Not a pos) (.not ca) := ⟨(pe_notT ha.pe).imp fun σ H Q h => by
  obtain ⟨μ, r, s, R, L, h⟩ := h
  refine ⟨μ, r, s, R, L, h.bind.map fun μ1 H1 s1 x le1 R1 h1 v1 hv1 => ?_⟩
  obtain ⟨k, hk, q⟩ := h1.bind.truth R1 hv1
  exact ⟨k, hk, q.ok R1 _ (.bl _)⟩⟩
theorem se_one {op : BoolOp} (ha : SE T X ex W a ca) : SE T X ex W (.BoolOp op [a] pos) ca := ⟨pe_one ha.pe⟩
theorem se_and (ha : SE T X ex W a ca) (hb : SE T X ex W (.BoolOp .And (b :: rest) pos) cb) : SE T X ex W (.BoolOp .And (a :: b :: rest) pos) (.and ca cb) := ⟨(pe_andT ha.pe hb.pe).imp fun σ H Q h => by
  obtain ⟨μ, r, s, R, L, h⟩ := h
  refine ⟨μ, r, s, R, L, h.bind.map fun μ1 H1 s1 x le1 R1 h1 v1 hv1 => ?_⟩
  obtain ⟨k, hk, q⟩ := h1.bind.truth R1 hv1
  refine ⟨k, hk, ?_⟩
  cases k with
  | true => exact ⟨μ1, r, s1, R1, L.mono le1, q⟩
  | false => exact q.ok R1 v1 hv1⟩
theorem se_or (ha : SE T X ex W a ca) (hb : SE T X ex W (.BoolOp .Or (b :: rest) pos) cb) : SE T X ex W (.BoolOp .Or (a :: b :: rest) pos) (.or ca cb) := ⟨(pe_orT ha.pe hb.pe).imp fun σ H Q h => by
  obtain ⟨μ, r, s, R, L, h⟩ := h
  refine ⟨μ, r, s, R, L, h.bind.map fun μ1 H1 s1 x le1 R1 h1 v1 hv1 => ?_⟩
  obtain ⟨k, hk, q⟩ := h1.bind.truth R1 hv1
  refine ⟨k, hk, ?_⟩
  cases k with
  | true => exact q.ok R1 v1 hv1
  | false => exact ⟨μ1, r, s1, R1, L.mono le1, q⟩⟩
theorem sw_one_and (ha : ST T X ex W a ca) : SW T X ex W (.BoolOp .And [a] pos) ca := ⟨pw_and1 ha.pt⟩
theorem sw_one_or (ha : ST T X ex W a ca) : SW T X ex W (.BoolOp .Or [a] pos) ca := ⟨pw_or1 ha.pt⟩
theorem st_w (h : SW T X ex W e ca) : ST T X ex W e ca := ⟨h.pw.pt⟩
theorem sw_and (ha : ST T X ex W a ca) (hb : SW T X ex W (.BoolOp .And (b :: rest) pos) cb) : SW T X ex W (.BoolOp .And (a :: b :: rest) pos) (.and ca cb) := ⟨(pw_and ha.pt hb.pw).imp fun σ H Q h => by
  obtain ⟨μ, r, s, R, L, h⟩ := h
  refine ⟨μ, r, s, R, L, ?_⟩
  simp only [evE] at h
  cases hm : evE T.call T.G T.sub ca r s with
  | ok x s1 =>
    rw [hm] at h
    simp only [Res.bind] at h ⊢
    cases ht : truth x s1 with
    | ok k s2 =>
      rw [ht] at h
      cases k with
      | true => exact fun μ' H' le R' => ⟨μ', r, s2, R', L.mono le, h.later le⟩
      | false =>
        have e2 := truth_store ht
        subst e2
        simp only [cond] at h
        rw [ht] at h
        exact h
    | exc c s2 => exact absurd ht truth_noexc
    | stuck => rw [ht] at h; exact h.elim
  | exc c s1 => rw [hm] at h; exact h
  | stuck => rw [hm] at h; exact h.elim⟩
theorem sw_or (ha : ST T X ex W a ca) (hb : SW T X ex W (.BoolOp .Or (b :: rest) pos) cb) : SW T X ex W (.BoolOp .Or (a :: b :: rest) pos) (.or ca cb) := ⟨(pw_or ha.pt hb.pw).imp fun σ H Q h => by
  obtain ⟨μ, r, s, R, L, h⟩ := h
  refine ⟨μ, r, s, R, L, ?_⟩
  simp only [evE] at h
  cases hm : evE T.call T.G T.sub ca r s with
  | ok x s1 =>
    rw [hm] at h
    simp only [Res.bind] at h ⊢
    cases ht : truth x s1 with
    | ok k s2 =>
      rw [ht] at h
      cases k with
      | true =>
        have e2 := truth_store ht
        subst e2
        simp only [cond] at h
        rw [ht] at h
        exact h
      | false => exact fun μ' H' le R' => ⟨μ', r, s2, R', L.mono le, h.later le⟩
    | exc c s2 => exact absurd ht truth_noexc
    | stuck => rw [ht] at h; exact h.elim
  | exc c s1 => rw [hm] at h; exact h
  | stuck => rw [hm] at h; exact h.elim⟩
theorem se_ife (hc : ST T X ex W c cc) (ha : SE T X ex W a ca) (hb : SE T X ex W b cb) : SE T X ex W (.IfExp c a b pos) (.ife cc ca cb) := ⟨(pe_ifExp hc.pt ha.pe hb.pe).imp fun σ H Q h => by
  obtain ⟨μ, r, s, R, L, h⟩ := h
  simp only [evE] at h
  rw [← Res.bind_assoc] at h
  refine ⟨μ, r, s, R, L, h.bind.map fun μ1 H1 s1 k le1 R1 h1 => ?_⟩
  cases k with
  | true => exact ⟨μ1, r, s1, R1, L.mono le1, h1⟩
  | false => exact ⟨μ1, r, s1, R1, L.mono le1, h1⟩⟩
theorem chain_step {op op2 : COp} {σ : L2.St} {H : Hp} {Q : VK} (h : tE T X.K ex W (.chain op op2 ca cb cc) σ H Q) : tChain (rC X.K op) (rC X.K op2) (tE T X.K ex W ca) (tE T X.K ex W cb) (tE T X.K ex W cc) σ H Q := by
  obtain ⟨μ, r, s, R, L, h⟩ := h
  refine ⟨μ, r, s, R, L, h.bind.map fun μ1 H1 s1 x le1 R1 h1 v1 hv1 => ?_⟩
  refine ⟨μ1, r, s1, R1, L.mono le1, h1.bind.map fun μ2 H2 s2 y le2 R2 h2 v2 hv2 => ?_⟩
  refine ⟨μ2, s2, x, y, _, R2, hv1.mono le2, hv2, h2.bind.map fun μ3 H3 s3 k le3 R3 h3 => ⟨k, rfl, ?_⟩⟩
  cases k with
  | true =>
    refine ⟨μ3, r, s3, R3, (L.mono le1).mono (le2.trans le3), Go.map (Go.bind h3) fun μ4 H4 s4 z le4 R4 h4 v4 hv4 => ?_⟩
    exact ⟨μ4, s4, y, z, _, R4, hv2.mono (le3.trans le4), hv4, h4.bind.map fun μ5 H5 s5 k le5 R5 h5 => h5.ok R5 _ (.bl k)⟩
  | false => exact Go.ok h3 R3 _ (.bl false)
theorem se_chain (hu : X.A.units + 64 < cLine) (op op2 : COp) (ha : SE T X ex W a ca) (hb : SE T X ex W b cb) (hc : SE T X ex W c cc) (hm : lastMarks [copOf op, copOf op2] [b, c] = false := by with_unfolding_all rfl) :
    SE T X ex W (.Compare a [copOf op, copOf op2] [b, c] pos) (.chain op op2 ca cb cc) := ⟨(pe_chain (cop_sound hu op) (cop_sound hu op2) ha.pe hb.pe hc.pe hm).imp fun σ H Q h => chain_step h⟩
/-- a test that is always a bool -/
def Bl (T : Tb) (c : CE) : Prop := ∀ r s x s', evE T.call T.G T.sub c r s = .ok x s' → ∃ k, x = .bl k
theorem tst_tE {σ : L2.St} {H : Hp} {Q : Bool → Hp → Prop} (hb : Bl T ca) (h : tTst T X.K ex W ca σ H Q) : tE T X.K ex W ca σ H (fun x H' => ∃ k, x = .bl k ∧ Q k H') := by
  obtain ⟨μ, r, s, R, L, h⟩ := h
  refine ⟨μ, r, s, R, L, ?_⟩
  cases hm : evE T.call T.G T.sub ca r s with
  | ok x s1 =>
    rw [hm] at h
    obtain ⟨k, rfl⟩ := hb _ _ _ _ hm
    exact fun μ' H' le R' v hv => by
      cases hv
      exact ⟨k, rfl, h μ' H' le R'⟩
  | exc c s1 => rw [hm] at h; exact h
  | stuck => rw [hm] at h; exact h
theorem bl_chain {op op2 : COp} : Bl T (.chain op op2 ca cb cc) := by
  intro r s x s' h
  simp only [evE] at h
  cases h1 : evE T.call T.G T.sub ca r s with
  | ok x1 s1 =>
    rw [h1] at h
    simp only [Res.bind] at h
    cases h2 : evE T.call T.G T.sub cb r s1 with
    | ok x2 s2 =>
      rw [h2] at h
      simp only at h
      cases h3 : cmpV op x1 x2 s2 with
      | ok k s3 =>
        rw [h3] at h
        simp only at h
        cases k with
        | true =>
          simp only [cond] at h
          cases h4 : evE T.call T.G T.sub cc r s3 with
          | ok x4 s4 =>
            rw [h4] at h
            simp only at h
            cases h5 : cmpV op2 x2 x4 s4 with
            | ok k5 s5 => rw [h5] at h; cases h; exact ⟨_, rfl⟩
            | exc c s5 => rw [h5] at h; cases h
            | stuck => rw [h5] at h; cases h
          | exc c s4 => rw [h4] at h; cases h
          | stuck => rw [h4] at h; cases h
        | false => simp only [cond] at h; cases h; exact ⟨_, rfl⟩
      | exc c s3 => rw [h3] at h; cases h
      | stuck => rw [h3] at h; cases h
    | exc c s2 => rw [h2] at h; cases h
    | stuck => rw [h2] at h; cases h
  | exc c s1 => rw [h1] at h; cases h
  | stuck => rw [h1] at h; cases h
theorem st_chain (hu : X.A.units + 64 < cLine) (op op2 : COp) (ha : SE T X ex W a ca) (hb : SE T X ex W b cb) (hc : SE T X ex W c cc) (hm : lastMarks [copOf op, copOf op2] [b, c] = false := by with_unfolding_all rfl) :
    ST T X ex W (.Compare a [copOf op, copOf op2] [b, c] pos) (.chain op op2 ca cb cc) := ⟨(pt_chain (cop_sound hu op) (cop_sound hu op2) ha.pe hb.pe hc.pe hm).imp fun σ H Q h => chain_step (tst_tE bl_chain h)⟩

/-! ### subscripts and slices -/
theorem atI_vr {K : PySem.W.Frag} {μ : List Addr} {H : Hp} {vs : List V} {ds : List DV} {i : Int} {d : DV} (h : VRs K μ H vs ds) (e : L2.atI ds i = some d) : ∃ v, L2.atI vs i = some v ∧ VR K μ H v d := by
  unfold L2.atI at e ⊢
  rw [h.length]
  cases hp : L2.ixN ds.length i with
  | none => rw [hp] at e; cases e
  | some j =>
    rw [hp] at e
    exact h.get e
def rI' (K : PySem.W.Frag) : R2 := fun x y H Q => ∃ μ s d e Wn, Rel K μ H s ∧ VR K μ H x d ∧ VR K μ H y e ∧ Go K μ H (itemV d e s) Wn (fun μ' H' _ z => ∀ v, VR K μ' H' v z → Q v H')
theorem ix_sound : IxR X (rI' X.K) := by
  intro val sl pins s σ H x y v u Q I rx ry h hsub
  obtain ⟨μ, s0, d, e, Wn, R, hx, hy, h⟩ := h
  cases hx with
  | tup h1 h2 =>
    cases hy with
    | int i =>
      simp only [itemV] at h
      cases hz : L2.atI _ i with
      | some z =>
        rw [hz] at h
        obtain ⟨w, q1, q2⟩ := atI_vr h2 hz
        exact ix_tup val sl pins s σ H _ _ v u Q I rx ry ⟨_, _, i, w, rfl, rfl, h1.sq, q1, h.ok R w q2⟩ hsub
      | none => rw [hz] at h; exact h.elim
    | _ => exact h.elim
  | ref hm =>
    cases hy with
    | int i =>
      simp only [itemV] at h
      cases hc : cellL s0 _ with
      | none => rw [hc] at h; exact h.elim
      | some xs =>
        rw [hc] at h
        simp only [optR] at h
        cases hz : L2.atI xs i with
        | some z =>
          rw [hz] at h
          obtain ⟨vs, c1, c2⟩ := R.cellL hm hc
          obtain ⟨w, q1, q2⟩ := atI_vr c2 hz
          exact ix_list val sl pins s σ H _ _ v u Q I rx ry ⟨_, _, i, w, rfl, rfl, c1, q1, h.ok R w q2⟩ hsub
        | none => rw [hz] at h; exact h.elim
    | _ => exact h.elim
  | str z =>
    cases hy with
    | int i =>
      simp only [itemV] at h
      split at h
      · rename_i hz
        split at h
        · rename_i c hc
          exact ix_str val sl pins s σ H _ _ v u Q I rx ry ⟨z, i, c, rfl, rfl, hz, hc, h.ok R _ (.str _)⟩ hsub
        · exact h.elim
      · exact h.elim
    | _ => exact h.elim
  | non => exact h.elim
  | bl _ => exact h.elim
  | int _ => exact h.elim
theorem se_ix (ha : SE T X ex W a ca) (hb : SE T X ex W b cb) (hs : PlainIx b := by exact fun _ _ => rfl) : SE T X ex W (.Subscript a b pos) (.ix ca cb) := ⟨(pe_ix ix_sound ha.pe hb.pe hs).imp fun σ H Q h => by
  obtain ⟨μ, r, s, R, L, h⟩ := h
  refine ⟨μ, r, s, R, L, h.bind.map fun μ1 H1 s1 x le1 R1 h1 v1 hv1 => ?_⟩
  exact ⟨μ1, r, s1, R1, L.mono le1, h1.bind.map fun μ2 H2 s2 y le2 R2 h2 v2 hv2 => ⟨μ2, s2, x, y, _, R2, hv1.mono le2, hv2, h2⟩⟩⟩
theorem cut_vr {K : PySem.W.Frag} {μ : List Addr} {H : Hp} {vs : List V} {ds : List DV} {lo hi : Option Int} (h : VRs K μ H vs ds) : VRs K μ H (cutV vs lo hi) (cut ds lo hi) := by
  unfold cutV cut
  rw [h.length]
  exact (h.drop _).take _
theorem cut_le {α : Type} (xs : List α) (lo hi : Option Int) : (cut xs lo hi).length ≤ xs.length := by
  unfold cut
  rw [List.length_take, List.length_drop]
  omega
theorem cut_all {α : Type} {xs : List α} {lo hi : Option Int} (h : HT.sIx xs.length 0 lo = 0 ∧ HT.sIx xs.length xs.length hi = xs.length) : cut xs lo hi = xs := by
  unfold cut
  rw [h.1, h.2]
  exact List.take_length
def rS' (K : PySem.W.Frag) : V → Option Int → Option Int → Hp → VK → Prop := fun x lo hi H Q => ∃ μ s d Wn, Rel K μ H s ∧ VR K μ H x d ∧ Go K μ H (sliceV d lo hi s) Wn (fun μ' H' _ z => ∀ v, VR K μ' H' v z → Q v H')
theorem sl_sound : SlR X (rS' X.K) := by
  intro pins s σ H x v vl vu lo hi sl Q I rx hs pl pu h
  obtain ⟨μ, s0, d, Wn, R, hx, h⟩ := h
  cases hx with
  | tup h1 h2 =>
    refine sl_cutZ pins s σ H _ v vl vu lo hi sl Q I rx hs pl pu ⟨_, _, rfl, h1, fun e => ?_, fun p o hp hd => ?_⟩
    · have e' : cut _ lo hi = _ := cut_all (by rw [h2.length] at e; exact e)
      have q := h.ok R
      rw [e'] at q
      exact q _ (.tup h1 h2)
    · exact h μ _ (le_upd hp) (R.upd hp) _ (.tup (TupP.of upd_same hd) ((cut_vr h2).mono (le_upd hp)))
  | ref hm =>
    simp only [sliceV] at h
    split at h
    · rename_i xs hc
      obtain ⟨vs, c1, c2⟩ := R.cellL hm hc
      refine sl_list pins s σ H _ v vl vu lo hi sl Q I rx hs pl pu ⟨_, _, rfl, c1, fun p hp => ?_⟩
      have hz : (cut xs lo hi).length ≤ sizeLine := by
        obtain ⟨_, _, _, hz⟩ := I.list c1
        rw [c2.length] at hz
        exact Nat.le_trans (cut_le _ _ _) hz
      refine h (μ ++ [p]) _ (le_new hp) (R.new hp (cut_vr c2) hz) _ (.ref ?_)
      rw [← R.len]
      exact get_app_n
    · exact h.elim
  | str z =>
    simp only [sliceV] at h
    split at h
    · rename_i hz
      exact sl_str pins s σ H _ v vl vu lo hi sl Q I rx hs pl pu ⟨z, rfl, hz, h.ok R _ (.str _)⟩
    · exact h.elim
  | non => exact h.elim
  | bl _ => exact h.elim
  | int _ => exact h.elim
theorem so_none : SO T X ex W none .no := ⟨po_none.imp fun σ H Q h => by
  obtain ⟨μ, r, s, R, L, h⟩ := h
  exact h.ok R⟩
theorem so_some (ha : SE T X ex W a ca) : SO T X ex W (some a) (.some ca) := ⟨(po_some ha.pe).imp fun σ H Q h => by
  obtain ⟨μ, r, s, R, L, h⟩ := h
  refine ⟨μ, r, s, R, L, h.bind.map fun μ1 H1 s1 x le1 R1 h1 v1 hv1 => ?_⟩
  cases hv1 with
  | int i => exact ⟨i, rfl, h1.ok R1⟩
  | _ => exact h1.elim⟩
theorem se_slc {lo hi : Option Expr} {cl ch : CO} {p2 : Pos} (ha : SE T X ex W a ca) (hl : SO T X ex W lo cl) (hh : SO T X ex W hi ch) : SE T X ex W (.Subscript a (.Slice lo hi none p2) pos) (.slc ca cl ch) := ⟨(pe_slice sl_sound ha.pe hl.po hh.po).imp fun σ H Q h => by
  obtain ⟨μ, r, s, R, L, h⟩ := h
  refine ⟨μ, r, s, R, L, h.bind.map fun μ1 H1 s1 x le1 R1 h1 v1 hv1 => ?_⟩
  refine ⟨μ1, r, s1, R1, L.mono le1, h1.bind.map fun μ2 H2 s2 y le2 R2 h2 => ?_⟩
  exact ⟨μ2, r, s2, R2, (L.mono le1).mono le2, h2.bind.map fun μ3 H3 s3 z le3 R3 h3 => ⟨μ3, s3, x, _, R3, hv1.mono (le2.trans le3), h3⟩⟩⟩
theorem se_rev {k : Nat} {p1 p2 p3 : Pos} (ha : SE T X ex W a ca) :
    SE T X ex W (.Subscript a (.Slice none none (some (.UnaryOp .USub (.Constant (.int 1) k p1) p2)) p3) pos) (.rev ca) := ⟨⟨fun pins s σ H Q I h => (pe_revL (p3 := p3) (pos := pos) (k := k) (p1 := p1) (p2 := p2) ha.pe).run pins s σ H Q I (by
  obtain ⟨μ, r, s, R, L, h⟩ := h
  refine ⟨μ, r, s, R, L, h.bind.map fun μ1 H1 s1 x le1 R1 h1 v1 hv1 => ?_⟩
  cases hv1 with
  | ref hm =>
    simp only at h1
    split at h1
    · rename_i xs hc
      obtain ⟨vs, c1, c2, c3⟩ := R1.cellZ hm hc
      refine ⟨_, vs, rfl, c1, fun p hp => ?_⟩
      have hz : xs.reverse.length ≤ sizeLine := by rw [List.length_reverse]; exact c3
      refine h1 (μ1 ++ [p]) _ (le_new hp) (R1.new hp c2.reverse hz) _ (.ref ?_)
      rw [← R1.len]
      exact get_app_n
    · exact h1.elim
  | _ => exact h1.elim)⟩⟩
end
end Ip
end PtIpExpr2
section PtIpExpr3
set_option Elab.async false
set_option linter.all false
set_option maxRecDepth 100000
namespace Ip
open PySem PySem.Spec PyProof.Rows L2

section
variable {T : Tb} {X : Cx} {ex : Option (Addr × Nat)} {W : WX} {a b c e : Expr} {ca cb cc : CE} {pos : Pos} {es rest : List Expr} {ces : CEs}

/-! ### lists of arguments, displays -/
theorem ses_nil : SEs T X ex W [] .nil := ⟨pa_nil.imp fun σ H Q h => by
  obtain ⟨μ, r, s, R, L, h⟩ := h
  exact h.ok R [] .nil⟩
theorem ses_cons (ha : SE T X ex W e ca) (hr : SEs T X ex W es ces) (hs : starEach (e :: es) X.env = (false, eval e X.env) :: starEach es X.env := by rfl) : SEs T X ex W (e :: es) (.cons ca ces) := ⟨(pa_cons ha.pe hr.pa hs).imp fun σ H Q h => by
  obtain ⟨μ, r, s, R, L, h⟩ := h
  refine ⟨μ, r, s, R, L, h.bind.map fun μ1 H1 s1 x le1 R1 h1 v1 hv1 => ?_⟩
  exact ⟨μ1, r, s1, R1, L.mono le1, h1.bind.map fun μ2 H2 s2 xs le2 R2 h2 vs2 hv2 => h2.ok R2 _ (.cons (hv1.mono le2) hv2)⟩⟩
theorem se_tup {k : Nat} (h : SEs T X ex W es ces) : SE T X ex W (.Tuple es k pos) (.tup ces) := ⟨(pe_tupZ h.pa).imp fun σ H Q h => by
  obtain ⟨μ, r, s, R, L, h⟩ := h
  refine ⟨μ, r, s, R, L, h.bind.map fun μ1 H1 s1 xs le1 R1 h1 vs hv => ?_⟩
  split at h1
  · rename_i hz
    exact ⟨by rw [hv.length]; exact hz, fun p o hp hd => h1 μ1 _ (le_upd hp) (R1.upd hp) _ (.tup (TupP.of upd_same hd) (hv.mono (le_upd hp)))⟩
  · exact h1.elim⟩
theorem ref_new {K : PySem.W.Frag} {μ : List Addr} {H H' : Hp} {s : Store} {p : Addr} (R : Rel K μ H s) : VR K (μ ++ [p]) H' (.ref p) (.ref s.length) := by
  refine .ref ?_
  rw [← R.len]
  exact get_app_n
theorem se_lst (h : SEs T X ex W es ces) : SE T X ex W (.List es pos) (.lst ces) := ⟨(pe_lst h.pa).imp fun σ H Q h => by
  obtain ⟨μ, r, s, R, L, h⟩ := h
  refine ⟨μ, r, s, R, L, h.bind.map fun μ1 H1 s1 xs le1 R1 h1 vs hv => ?_⟩
  split at h1
  · rename_i hz
    exact ⟨by rw [hv.length]; exact hz, fun p hp => h1 (μ1 ++ [p]) _ (le_new hp) (R1.new hp hv hz) _ (ref_new R1)⟩
  · exact h1.elim⟩

/-! ### calls of defs -/
/-- what the def number f promises -/
def spC (T : Tb) (K : PySem.W.Frag) (f np : Nat) : Sp := fun vs H Q E => ∃ μ s ds, Rel K μ H s ∧ VRs K μ H vs ds ∧ ds.length = np ∧
  Go K μ H (T.call f ds s) (fun c H' => ∀ C, T.cls c = some C → E (.ref C) none H') (fun μ' H' _ d => ∀ v, VR K μ' H' v d → Q v H')
/-- the def number f, called x: where it stands -/
structure Fd (T : Tb) (X : Cx) (k : Nat) (x : Str) (f np : Nat) : Prop where
  ok : ∃ (ad : Addr) (fd : FuncData) (ps : List Str), FnOk X.prog X.w X.K X.mg X.base (L2.CX X.prog X.w) k ad fd ps (spC T X.K f np) ∧ ps.length = np ∧ X.mg x = some (.ref ad) ∧ PySem.W.keepIn X.K (.ref ad) = true ∧ Binds X.K fd ps []
theorem se_call {k : Nat} {x : Str} {f np : Nat} {p : Pos} {cs : CEs} (F : Fd T X k x f np) (hr : Room k X.A) (tk : Takes X W) (ha : SEs T X ex W (e :: es) cs) (hnp : (e :: es).length = np := by rfl) (hg : Gl X x := by rfl) (hdb : (x == ("__debug__" : Str)) = false := by decide)
    (he : starEach (e :: es) X.env = (false, eval e X.env) :: starEach es X.env := by rfl) (hpl : (backTo pos (starEach es X.env)).any (·.1) = false := by rfl)
    (hlen : ∀ r s xs s', evEs T.call T.G T.sub cs r s = .ok xs s' → xs.length = np) : SE T X ex W (.Call (.Name x p) (e :: es) [] pos) (.call f cs) := by
  obtain ⟨ad, fd, ps, FO, _, hm, hk, hb⟩ := F.ok
  exact ⟨(pe_callS FO hr hg hm hk hb (fun σ => passAt tk σ) ha.pa hdb he hpl).imp fun σ H Q h => by
    obtain ⟨μ, r, s, R, L, h⟩ := h
    refine ⟨μ, r, s, R, L, ?_⟩
    simp only [evE] at h
    cases hm : evEs T.call T.G T.sub cs r s with
    | ok xs s1 =>
      rw [hm] at h
      exact fun μ1 H1 le1 R1 vs hv => ⟨μ1, s1, xs, R1, hv, hlen _ _ _ _ hm, Go.later (m := T.call f xs s1) h le1⟩
    | exc c s1 => rw [hm] at h; exact h
    | stuck => rw [hm] at h; exact h⟩
theorem len_nil {r s xs s'} (h : evEs T.call T.G T.sub .nil r s = .ok xs s') : xs.length = 0 := by cases h; rfl
theorem len_cons {n : Nat} {c : CE} {cs : CEs} (hc : ∀ r s xs s', evEs T.call T.G T.sub cs r s = .ok xs s' → xs.length = n) : ∀ r s xs s', evEs T.call T.G T.sub (.cons c cs) r s = .ok xs s' → xs.length = n + 1 := by
  intro r s xs s' h
  simp only [evEs] at h
  cases h1 : evE T.call T.G T.sub c r s with
  | ok x s1 =>
    rw [h1] at h
    simp only [Res.bind] at h
    cases h2 : evEs T.call T.G T.sub cs r s1 with
    | ok ys s2 =>
      rw [h2] at h
      cases h
      rw [List.length_cons, hc _ _ _ _ h2]
    | exc c s2 => rw [h2] at h; cases h
    | stuck => rw [h2] at h; cases h
  | exc c s1 => rw [h1] at h; cases h
  | stuck => rw [h1] at h; cases h

/-! ### built-ins -/
def rBi (K : PySem.W.Frag) (b : Bi) : List V → Hp → VK → Prop := fun xs H Q => ∃ μ s ds Wn, Rel K μ H s ∧ VRs K μ H xs ds ∧ Go K μ H (biV b ds s) Wn (fun μ' H' _ z => ∀ v, VR K μ' H' v z → Q v H')
theorem bi_len : CallR X (.builtin "len") (rBi X.K .len) := by
  intro pins s σ H xs us Q I r h
  obtain ⟨μ, s0, ds, Wn, R, hv, h⟩ := h
  match hv with
  | .nil => exact h.elim
  | .cons hx .nil =>
    cases hx with
    | str z =>
      simp only [biV] at h
      split at h
      · rename_i hz
        exact call_len pins s σ H _ us Q I r ⟨_, z.length, rfl, ⟨hz, rfl⟩, h.ok R _ (.int _)⟩
      · exact h.elim
    | tup h1 h2 => exact call_len pins s σ H _ us Q I r ⟨_, _, rfl, .inr ⟨_, h1.sq, rfl⟩, by rw [h2.length]; exact h.ok R _ (.int _)⟩
    | ref hm =>
      simp only [biV] at h
      split at h
      · rename_i ys hc
        obtain ⟨vs, c1, c2⟩ := R.cellL hm hc
        exact call_len pins s σ H _ us Q I r ⟨_, _, rfl, .inl ⟨_, c1, rfl⟩, by rw [c2.length]; exact h.ok R _ (.int _)⟩
      · exact h.elim
    | _ => exact h.elim
  | .cons hx (.cons hy hr) => cases hx <;> exact h.elim
theorem bi_abs : CallR X (.builtin "abs") (rBi X.K .abs) := by
  intro pins s σ H xs us Q I r h
  obtain ⟨μ, s0, ds, Wn, R, hv, h⟩ := h
  match hv with
  | .nil => exact h.elim
  | .cons hx .nil =>
    cases hx with
    | int i => exact call_abs pins s σ H _ us Q I r ⟨i, rfl, h.ok R _ (.int _)⟩
    | _ => exact h.elim
  | .cons hx (.cons hy hr) => cases hx <;> exact h.elim
theorem bi_int : CallR X (.type "int") (rBi X.K .int) := by
  intro pins s σ H xs us Q I r h
  obtain ⟨μ, s0, ds, Wn, R, hv, h⟩ := h
  match hv with
  | .nil => exact h.elim
  | .cons hx .nil =>
    cases hx with
    | int i => exact call_int1 pins s σ H _ us Q I r (.inl ⟨i, rfl, h.ok R _ (.int _)⟩)
    | bl i => exact call_int1 pins s σ H _ us Q I r (.inr ⟨i, rfl, h.ok R _ (.int _)⟩)
    | str z =>
      simp only [biV] at h
      cases hz : PySem.intText? z with
      | none => rw [hz] at h; exact h.elim
      | some n =>
        rw [hz] at h
        simp only [optR] at h
        split at h
        · rename_i hl
          exact call_int_str pins s σ H _ us Q I r ⟨z, n, rfl, hz, hl, h.ok R _ (.int _)⟩
        · exact h.elim
    | _ => exact h.elim
  | .cons hx (.cons hy hr) => cases hx <;> exact h.elim
theorem bi_divmod : CallR X (.builtin "divmod") (rBi X.K .divmod) := by
  intro pins s σ H xs us Q I r h
  obtain ⟨μ, s0, ds, Wn, R, hv, h⟩ := h
  match hv with
  | .nil => exact h.elim
  | .cons hx .nil => cases hx <;> exact h.elim
  | .cons hx (.cons hy .nil) =>
    cases hx with
    | int i =>
      cases hy with
      | int j =>
        simp only [biV] at h
        split at h
        · rename_i hj
          refine cr_divmodZ pins s σ H _ us Q I r ⟨i, j, rfl, hj, fun p o hp hd => h μ _ (le_upd hp) (R.upd hp) _ (.tup (TupP.of upd_same hd) ?_)⟩
          exact .cons (.int _) (.cons (.int _) .nil)
        · exact h.elim
      | _ => exact h.elim
    | _ => exact h.elim
  | .cons hx (.cons hy (.cons hz hr)) => cases hx <;> (first | exact h.elim | (cases hy <;> exact h.elim))
theorem bi_list : CallR X (.type "list") (rBi X.K .list) := by
  intro pins s σ H xs us Q I r h
  obtain ⟨μ, s0, ds, Wn, R, hv, h⟩ := h
  match hv with
  | .nil => exact h.elim
  | .cons hx .nil =>
    cases hx with
    | tup h1 h2 =>
      refine call_list_of pins s σ H _ us Q I r ⟨_, _, rfl, .inr h1.sq, fun p hp => ?_⟩
      obtain ⟨_, _, _, hz⟩ := I.tuple h1.sq
      rw [h2.length] at hz
      exact h (μ ++ [p]) _ (le_new hp) (R.new hp h2 hz) _ (ref_new R)
    | ref hm =>
      simp only [biV] at h
      split at h
      · rename_i ys hc
        obtain ⟨vs, c1, c2, hz⟩ := R.cellZ hm hc
        refine call_list_of pins s σ H _ us Q I r ⟨_, _, rfl, .inl c1, fun p hp => ?_⟩
        exact h (μ ++ [p]) _ (le_new hp) (R.new hp c2 hz) _ (ref_new R)
      · exact h.elim
    | _ => exact h.elim
  | .cons hx (.cons hy hr) => cases hx <;> exact h.elim
theorem bi_tuple : CallR X (.type "tuple") (rBi X.K .tuple) := by
  intro pins s σ H xs us Q I r h
  obtain ⟨μ, s0, ds, Wn, R, hv, h⟩ := h
  match hv with
  | .nil => exact h.elim
  | .cons hx .nil =>
    cases hx with
    | tup h1 h2 => exact cr_tupleZ pins s σ H _ us Q I r ⟨_, _, rfl, .inr ⟨h1, h.ok R _ (.tup h1 h2)⟩⟩
    | ref hm =>
      simp only [biV] at h
      split at h
      · rename_i ys hc
        obtain ⟨vs, c1, c2, hz⟩ := R.cellZ hm hc
        exact cr_tupleZ pins s σ H _ us Q I r ⟨_, _, rfl, .inl ⟨c1, fun p o hp hd => h μ _ (le_upd hp) (R.upd hp) _ (.tup (TupP.of upd_same hd) (c2.mono (le_upd hp)))⟩⟩
      · exact h.elim
    | _ => exact h.elim
  | .cons hx (.cons hy hr) => cases hx <;> exact h.elim
theorem bi_str : CallR X (.type "str") (rBi X.K .str) := by
  intro pins s σ H xs us Q I r h
  obtain ⟨μ, s0, ds, Wn, R, hv, h⟩ := h
  match hv with
  | .nil => exact h.elim
  | .cons hx .nil =>
    cases hx with
    | int i =>
      simp only [biV] at h
      split at h
      · rename_i hi
        exact call_str_int pins s σ H _ us Q I r ⟨i, rfl, hi, h.ok R _ (.str _)⟩
      · exact h.elim
    | _ => exact h.elim
  | .cons hx (.cons hy hr) => cases hx <;> exact h.elim
theorem bi_max2 (hc : X.calm = true) : CallR X (.builtin "max") (rBi X.K .max2) := by
  intro pins s σ H xs us Q I r h
  obtain ⟨μ, s0, ds, Wn, R, hv, h⟩ := h
  match hv with
  | .nil => exact h.elim
  | .cons hx .nil => cases hx <;> exact h.elim
  | .cons hx (.cons hy .nil) =>
    cases hx with
    | int i =>
      cases hy with
      | int j => exact call_max2 hc pins s σ H _ us Q I r ⟨i, j, rfl, h.ok R _ (.int _)⟩
      | _ => exact h.elim
    | _ => exact h.elim
  | .cons hx (.cons hy (.cons hz hr)) => cases hx <;> (first | exact h.elim | (cases hy <;> exact h.elim))
theorem bi_min2 (hc : X.calm = true) : CallR X (.builtin "min") (rBi X.K .min2) := by
  intro pins s σ H xs us Q I r h
  obtain ⟨μ, s0, ds, Wn, R, hv, h⟩ := h
  match hv with
  | .nil => exact h.elim
  | .cons hx .nil => cases hx <;> exact h.elim
  | .cons hx (.cons hy .nil) =>
    cases hx with
    | int i =>
      cases hy with
      | int j => exact call_min2 hc pins s σ H _ us Q I r ⟨i, j, rfl, h.ok R _ (.int _)⟩
      | _ => exact h.elim
    | _ => exact h.elim
  | .cons hx (.cons hy (.cons hz hr)) => cases hx <;> (first | exact h.elim | (cases hy <;> exact h.elim))
theorem se_biB (B : Bi) {x : Str} {id : String} {p : Pos} {cs : CEs} (hc : CallR X (.builtin id) (rBi X.K B)) (hm : X.mg x = none) (hv : bootBuiltins x = some (.builtin id)) (ha : SEs T X ex W (e :: es) cs) (hg : Gl X x := by rfl) (hn : x ≠ "__name__" := by decide)
    (hdb : (x == ("__debug__" : Str)) = false := by decide) (he : starEach (e :: es) X.env = (false, eval e X.env) :: starEach es X.env := by rfl) (hpl : (backTo pos (starEach es X.env)).any (·.1) = false := by rfl) : SE T X ex W (.Call (.Name x p) (e :: es) [] pos) (.bi B cs) :=
  ⟨(pe_callB hc hg hm hv ha.pa hn hdb he hpl).imp fun σ H Q h => by
    obtain ⟨μ, r, s, R, L, h⟩ := h
    exact ⟨μ, r, s, R, L, h.bind.map fun μ1 H1 s1 xs le1 R1 h1 vs hv => ⟨μ1, s1, xs, _, R1, hv, h1⟩⟩⟩
theorem se_biT (B : Bi) {x : Str} {id : String} {p : Pos} {cs : CEs} (hc : CallR X (.type id) (rBi X.K B)) (hm : X.mg x = none) (hv : bootBuiltins x = some (.type id)) (ha : SEs T X ex W (e :: es) cs) (hg : Gl X x := by rfl) (hn : x ≠ "__name__" := by decide)
    (hdb : (x == ("__debug__" : Str)) = false := by decide) (he : starEach (e :: es) X.env = (false, eval e X.env) :: starEach es X.env := by rfl) (hpl : (backTo pos (starEach es X.env)).any (·.1) = false := by rfl) : SE T X ex W (.Call (.Name x p) (e :: es) [] pos) (.bi B cs) :=
  ⟨(pe_callTy hc hg hm hv ha.pa hn hdb he hpl).imp fun σ H Q h => by
    obtain ⟨μ, r, s, R, L, h⟩ := h
    exact ⟨μ, r, s, R, L, h.bind.map fun μ1 H1 s1 xs le1 R1 h1 vs hv => ⟨μ1, s1, xs, _, R1, hv, h1⟩⟩⟩

/-! ### isinstance(x, T), T built-in -/
def tyName (n : String) : Bool := n == "int" || n == "bool" || n == "str" || n == "tuple" || n == "list"
theorem tyX_of {K : PySem.W.Frag} {μ : List Addr} {H : Hp} {s : Store} {v : V} {d : DV} {n : String} {b : Bool} (hn : tyName n = true) (R : Rel K μ H s) (h : VR K μ H v d) (e : clIs d s (.ty n) = some b) : ∃ t, TyX K H v (.type t) ∧ kitB t n = some b := by
  have hn' : n = "int" ∨ n = "bool" ∨ n = "str" ∨ n = "tuple" ∨ n = "list" := by
    unfold tyName at hn
    simp only [Bool.or_eq_true, beq_iff_eq] at hn
    rcases hn with (((h | h) | h) | h) | h <;> simp [h]
  cases h with
  | non =>
    refine ⟨"NoneType", .base .non, ?_⟩
    rcases hn' with rfl | rfl | rfl | rfl | rfl <;> cases e <;> decide +kernel
  | bl k =>
    refine ⟨"bool", .base (.bl k), ?_⟩
    rcases hn' with rfl | rfl | rfl | rfl | rfl <;> cases e <;> decide +kernel
  | int k =>
    refine ⟨"int", .base (.int k), ?_⟩
    rcases hn' with rfl | rfl | rfl | rfl | rfl <;> cases e <;> decide +kernel
  | str k =>
    refine ⟨"str", .base (.str k), ?_⟩
    rcases hn' with rfl | rfl | rfl | rfl | rfl <;> cases e <;> decide +kernel
  | tup h1 h2 =>
    refine ⟨"tuple", ?_, ?_⟩
    · rcases h1.sq with (h1 | ⟨o, h1⟩) | ⟨o, its, n, h1, h3, _⟩
      · exact .base (.tup h1)
      · exact .fTuple h1
      · exact .kTuple h1 h3
    · rcases hn' with rfl | rfl | rfl | rfl | rfl <;> cases e <;> decide +kernel
  | ref hm =>
    simp only [clIs] at e
    split at e
    · rename_i xs0 hc0
      obtain ⟨c, hc⟩ := R.there hm
      refine ⟨"list", ?_, ?_⟩
      · have q := R.at_ _ _ _ hm hc
        cases c with
        | lst xs => exact .base (.lst q.choose_spec.1)
        | frz xs =>
          obtain ⟨vs, q, _⟩ := q
          rcases q with ⟨o, q⟩ | ⟨o, its, n, h1, h3, _⟩
          · exact .base (.frz q)
          · exact .kList h1 h3
        | dct kvs =>
          unfold Ip.cellL at hc0
          rw [hc] at hc0
          cases hc0
        | fdct kvs =>
          unfold Ip.cellL at hc0
          rw [hc] at hc0
          cases hc0
      · rcases hn' with rfl | rfl | rfl | rfl | rfl <;> cases e <;> decide +kernel
    · cases e
theorem se_isi (n : String) {p p2 : Pos} {x : Str} (hm : X.mg "isinstance" = none) (hm2 : X.mg x = none) (hv2 : bootBuiltins x = some (.type n)) (ha : SE T X ex W a ca) (hn : tyName n = true := by decide) (hg : Gl X "isinstance" := by rfl) (hg2 : Gl X x := by rfl)
    (hx : x ≠ "__name__" := by decide) (hxd : (x == ("__debug__" : Str)) = false := by decide) (he : starEach [a, .Name x p2] X.env = (false, eval a X.env) :: starEach [.Name x p2] X.env := by rfl) : SE T X ex W (.Call (.Name "isinstance" p) [a, .Name x p2] [] pos) (.isi ca [.ty n]) :=
  ⟨(pe_callB call_isi hg hm boot_isinstance (pa_cons ha.pe (pa_cons (pe_bltn (v := .ty n) hg2 hm2 hv2 rfl hx hxd) pa_nil) he) (by decide) (by decide) he rfl).imp fun σ H Q h => by
    obtain ⟨μ, r, s, R, L, h⟩ := h
    refine ⟨μ, r, s, R, L, h.bind.map fun μ1 H1 s1 d le1 R1 h1 v hv => ?_⟩
    simp only at h1
    split at h1
    · rename_i k hk
      obtain ⟨t, ht, hkt⟩ := tyX_of hn R1 hv hk
      exact ⟨v, .ty n, .type t, .type n, k, rfl, .ty n, ht, kit_ty hkt, h1.ok R1 _ (.bl k)⟩
    · exact h1.elim⟩

/-! ### xs.append(e) -/
theorem se_append {apos cpos : Pos} (ha : SE T X ex W a ca) (hb : SE T X ex W b cb) (hbase : attributeBase a "append" X.env (eval a X.env) = eval a X.env := by rfl)
    (hfew : ((backTo cpos (starEach [b] X.env)).all (fun x => !x.1) && (backToKw cpos (keywordEach [] X.env)).all (fun x => x.1.isSome)
      && decide (([b] : List Expr).length + ([] : List Keyword).length + (if ([] : List Keyword).isEmpty then 0 else 1) < 30)) = true := by rfl)
    (hline : (apos.endLine == cpos.line) = true := by rfl) (hs : starEach [b] X.env = (false, eval b X.env) :: starEach [] X.env := by rfl) (hplain : (backTo cpos (starEach [] X.env)).any (·.1) = false := by rfl) :
    SE T X ex W (.Call (.Attribute a "append" apos) [b] [] cpos) (.meth .append ca (.cons cb .nil)) :=
  ⟨(pe_bm PySem.F.plainAttrs_list PySem.F.slot_list_append PySem.F.type_list_append mt_append ha.pe (pa_cons hb.pe pa_nil hs) hbase hfew hline hs hplain).imp fun σ H Q h => by
    obtain ⟨μ, r, s, R, L, h⟩ := h
    simp only [evE, evEs] at h
    cases hx : evE T.call T.G T.sub ca r s with
    | exc c s1 =>
      rw [hx] at h
      refine ⟨μ, r, s, R, L, ?_⟩
      rw [hx]
      exact h
    | stuck => rw [hx] at h; exact h.elim
    | ok x s1 =>
      rw [hx] at h
      refine ⟨μ, r, s, R, L, ?_⟩
      rw [hx]
      refine fun μ1 H1 le1 R1 v hv => ?_
      have h := h.later le1
      simp only [Res.bind] at h
      -- the receiver is a list
      cases hv with
      | @ref n a hm =>
        refine ⟨.inl ⟨rfl, ?_⟩, μ1, r, s1, R1, L.mono le1, ?_⟩
        · cases hc0 : cellL s1 n with
          | none => simp only [hc0] at h; exact h.elim
          | some xs0 =>
            obtain ⟨vs, q, _⟩ := R1.cellL hm hc0
            exact ⟨_, q⟩
        · cases hc0 : cellL s1 n with
          | none => simp only [hc0] at h; exact h.elim
          | some xs0 =>
          simp only [hc0] at h
          cases hy : evE T.call T.G T.sub cb r s1 with
          | exc c s2 => rw [hy] at h; exact h
          | stuck => rw [hy] at h; exact h.elim
          | ok y s2 =>
            rw [hy] at h
            refine fun μ2 H2 le2 R2 w hw => ?_
            have h := Go.later (K := X.K) h le2
            simp only [mtV] at h
            split at h
            · rename_i ys hc
              split at h
              · rename_i hz
                obtain ⟨vs, c1, c2, _⟩ := R2.at_ _ _ _ (le2.pre _ _ hm) hc
                refine ⟨a, vs, w, rfl, rfl, c1, by rw [c2.length]; exact hz, ?_⟩
                have q : VRs X.K μ2 H2 (vs ++ [w]) (ys ++ [y]) := c2.append (.cons hw .nil)
                have hz' : (ys ++ [y]).length ≤ sizeLine := by rw [List.length_append]; exact hz
                exact h μ2 _ (le_set c1) (R2.set (le2.pre _ _ hm) hc c1 q hz') _ .non
              · exact h.elim
            · exact h.elim
      | _ => exact h.elim⟩
/-! ### xs.extend(ys) -/
theorem se_extend {apos cpos : Pos} (ha : SE T X ex W a ca) (hb : SE T X ex W b cb) (hbase : attributeBase a "extend" X.env (eval a X.env) = eval a X.env := by rfl)
    (hfew : ((backTo cpos (starEach [b] X.env)).all (fun x => !x.1) && (backToKw cpos (keywordEach [] X.env)).all (fun x => x.1.isSome)
      && decide (([b] : List Expr).length + ([] : List Keyword).length + (if ([] : List Keyword).isEmpty then 0 else 1) < 30)) = true := by rfl)
    (hline : (apos.endLine == cpos.line) = true := by rfl) (hs : starEach [b] X.env = (false, eval b X.env) :: starEach [] X.env := by rfl) (hplain : (backTo cpos (starEach [] X.env)).any (·.1) = false := by rfl) :
    SE T X ex W (.Call (.Attribute a "extend" apos) [b] [] cpos) (.meth .extend ca (.cons cb .nil)) :=
  ⟨(pe_bm PySem.F.plainAttrs_list PySem.F.slot_list_extend PySem.F.type_list_extend mt_extend ha.pe (pa_cons hb.pe pa_nil hs) hbase hfew hline hs hplain).imp fun σ H Q h => by
    obtain ⟨μ, r, s, R, L, h⟩ := h
    simp only [evE, evEs] at h
    cases hx : evE T.call T.G T.sub ca r s with
    | exc c s1 =>
      rw [hx] at h
      refine ⟨μ, r, s, R, L, ?_⟩
      rw [hx]
      exact h
    | stuck => rw [hx] at h; exact h.elim
    | ok x s1 =>
      rw [hx] at h
      refine ⟨μ, r, s, R, L, ?_⟩
      rw [hx]
      refine fun μ1 H1 le1 R1 v hv => ?_
      have h := h.later le1
      simp only [Res.bind] at h
      -- the receiver is a list
      cases hv with
      | @ref n a hm =>
        refine ⟨.inl ⟨rfl, ?_⟩, μ1, r, s1, R1, L.mono le1, ?_⟩
        · cases hc0 : cellL s1 n with
          | none => simp only [hc0] at h; exact h.elim
          | some xs0 =>
            obtain ⟨vs, q, _⟩ := R1.cellL hm hc0
            exact ⟨_, q⟩
        · cases hc0 : cellL s1 n with
          | none => simp only [hc0] at h; exact h.elim
          | some xs0 =>
          simp only [hc0] at h
          cases hy : evE T.call T.G T.sub cb r s1 with
          | exc c s2 => rw [hy] at h; exact h
          | stuck => rw [hy] at h; exact h.elim
          | ok y s2 =>
            rw [hy] at h
            refine fun μ2 H2 le2 R2 w hw => ?_
            have h := Go.later (K := X.K) h le2
            cases hw with
            | @ref m a2 hm2 =>
              simp only [mtV] at h
              split at h
              · rename_i ys zs hc hc2
                split at h
                · rename_i hz
                  obtain ⟨vs, c1, c2, _⟩ := R2.at_ _ _ _ (le2.pre _ _ hm) hc
                  obtain ⟨ws, k1, k2, _⟩ := R2.at_ _ _ _ hm2 hc2
                  refine ⟨a, a2, vs, ws, rfl, rfl, c1, k1, by rw [c2.length, k2.length]; exact hz, ?_⟩
                  exact h μ2 _ (le_set c1) (R2.set (le2.pre _ _ hm) hc c1 (c2.append k2) (by rw [List.length_append]; exact hz)) _ .non
                · exact h.elim
              · exact h.elim
            | _ => exact h.elim
      | _ => exact h.elim⟩
end
end Ip
end PtIpExpr3
section PtIpStmt
set_option Elab.async false
set_option linter.all false
set_option maxRecDepth 100000
namespace Ip
open PySem PySem.Spec PyProof.Rows L2 RZ RT

/-! ### targets -/
def tG (T : Tb) (K : PySem.W.Frag) (ex : Option (Addr × Nat)) (c : CT) : TG := fun v σ H Q =>
  ∃ μ r s d, Rel K μ H s ∧ LR K ex μ H σ r ∧ VR K μ H v d ∧ Go K μ H (evT T.call T.G T.sub c d r s) (fun _ _ => False) (fun μ' H' _ r' => ∀ σ', LR K ex μ' H' σ' r' → Q σ' H')
def tGs (T : Tb) (K : PySem.W.Frag) (ex : Option (Addr × Nat)) (c : CTs) : TGs := fun vs σ H Q =>
  ∃ μ r s ds, Rel K μ H s ∧ LR K ex μ H σ r ∧ VRs K μ H vs ds ∧ Go K μ H (evTs T.call T.G T.sub c ds r s) (fun _ _ => False) (fun μ' H' _ r' => ∀ σ', LR K ex μ' H' σ' r' → Q σ' H')
structure SG (T : Tb) (X : Cx) (ex : Option (Addr × Nat)) (e : Expr) (c : CT) : Prop where
  pg : PG X e (tG T X.K ex c)
structure SGs (T : Tb) (X : Cx) (ex : Option (Addr × Nat)) (es : List Expr) (c : CTs) : Prop where
  pg : PGs X es (tGs T X.K ex c)
/-! ### what is walked -/
structure Wk (K : PySem.W.Frag) (J : It) (f : Src) (ds : List DV) (μ0 : List Addr) (H0 : Hp) : Prop where
  go : ∀ (i : Nat) (d : DV) (μ : List Addr) (H : Hp) (s : Store), Le K μ0 H0 μ H → Rel K μ H s → f.ok s → ds[i]? = some d → J.go i H ∧ ∀ x H', J.yld i H x H' → Le K μ H μ H' ∧ Rel K μ H' s ∧ VR K μ H' x d
  stop : ∀ (i : Nat) (μ : List Addr) (H : Hp) (s : Store), Le K μ0 H0 μ H → Rel K μ H s → f.ok s → ds.length ≤ i → J.stop i H
def tI (T : Tb) (K : PySem.W.Frag) (ex : Option (Addr × Nat)) (W : WX) (c : CI) : TI := fun σ H R =>
  ∃ μ r s, Rel K μ H s ∧ LR K ex μ H σ r ∧ Go K μ H (evI T.call T.G T.sub c r s) (fun c H' => ∀ C, T.cls c = some C → W (.ref C) none σ H') (fun μ' H' _ q => ∀ J, Wk K J q.1 q.2 μ' H' → R J H')
structure SI (T : Tb) (X : Cx) (ex : Option (Addr × Nat)) (W : WX) (tg e : Expr) (c : CI) : Prop where
  pi : PI X tg e (tI T X.K ex W c)
/-! ### statements -/
def GoS (T : Tb) (K : PySem.W.Frag) (ex : Option (Addr × Nat)) (W : WX) (μ : List Addr) (H : Hp) (o : Out) (D : Ends) : Prop := match o with
  | .nx r s => ∀ μ' H' σ', Le K μ H μ' H' → Rel K μ' H' s → LR K ex μ' H' σ' r → D.nx σ' H'
  | .rt v s => ∀ μ' H' u, Le K μ H μ' H' → Rel K μ' H' s → VR K μ' H' u v → D.rt u H'
  | .bk r s => ∀ μ' H' σ', Le K μ H μ' H' → Rel K μ' H' s → LR K ex μ' H' σ' r → D.bk σ' H'
  | .ct r s => ∀ μ' H' σ', Le K μ H μ' H' → Rel K μ' H' s → LR K ex μ' H' σ' r → D.ct σ' H'
  | .exc c r s => ∀ μ' H' σ', Le K μ H μ' H' → Rel K μ' H' s → LR K ex μ' H' σ' r → ∀ C, T.cls c = some C → W (.ref C) none σ' H'
  | .stuck => False
theorem GoS.later {T : Tb} {K : PySem.W.Frag} {ex : Option (Addr × Nat)} {W : WX} {μ μ' : List Addr} {H H' : Hp} {o : Out} {D : Ends} (h : GoS T K ex W μ H o D) (e : Le K μ H μ' H') : GoS T K ex W μ' H' o D := by
  cases o with
  | nx r s => exact fun μ2 H2 σ2 le R L => h μ2 H2 σ2 (e.trans le) R L
  | rt v s => exact fun μ2 H2 u le R L => h μ2 H2 u (e.trans le) R L
  | bk r s => exact fun μ2 H2 σ2 le R L => h μ2 H2 σ2 (e.trans le) R L
  | ct r s => exact fun μ2 H2 σ2 le R L => h μ2 H2 σ2 (e.trans le) R L
  | exc c r s => exact fun μ2 H2 σ2 le R L => h μ2 H2 σ2 (e.trans le) R L
  | stuck => exact h
def tS (T : Tb) (K : PySem.W.Frag) (ex : Option (Addr × Nat)) (W : WX) (c : CS) : TS := fun D σ H =>
  ∃ μ r s, Rel K μ H s ∧ LR K ex μ H σ r ∧ GoS T K ex W μ H (evS T.call T.G T.sub c r s) D
def tSs (T : Tb) (K : PySem.W.Frag) (ex : Option (Addr × Nat)) (W : WX) (c : CSs) : TS := fun D σ H =>
  ∃ μ r s, Rel K μ H s ∧ LR K ex μ H σ r ∧ GoS T K ex W μ H (evSs T.call T.G T.sub c r s) D
structure SS (T : Tb) (X : Cx) (ex : Option (Addr × Nat)) (W : WX) (st : Stmt) (c : CS) : Prop where
  ps : PS X st (tS T X.K ex W c)
structure SSs (T : Tb) (X : Cx) (ex : Option (Addr × Nat)) (W : WX) (st : List Stmt) (c : CSs) : Prop where
  ps : PSs X st (tSs T X.K ex W c)

section
variable {T : Tb} {X : Cx} {ex : Option (Addr × Nat)} {W : WX} {a b c e tg : Expr} {ca cb cc ce : CE} {pos : Pos} {es rest : List Expr} {ces : CEs} {ct : CT} {cts : CTs}

theorem sg_name (i : Nat) {x : Str} (hN : X.N.Nodup) (hi : X.N[i]? = some x := by rfl) (hx : L2.Loc X.env.scope x := by first | exact Or.inl rfl | exact Or.inr rfl) (hf : X.fn x = true ∨ X.env.scope.names.lookup x = some .local := by first | exact .inl rfl | exact .inr rfl) : SG T X ex (.Name x pos) (.name i) := ⟨(pg_name hN hi hx hf).imp fun v σ H Q h => by
  obtain ⟨μ, r, s, d, R, L, hv, h⟩ := h
  simp only [evT] at h
  split at h
  · exact h.ok R _ (L.set hv)
  · exact h.elim⟩
theorem sgs_nil : SGs T X ex [] .nil := ⟨pgs_nil.imp fun vs σ H Q h => by
  obtain ⟨μ, r, s, ds, R, L, hv, h⟩ := h
  cases hv with
  | nil => exact ⟨rfl, h.ok R _ L⟩
  | cons _ _ => exact h.elim⟩
theorem sgs_cons (h1 : SG T X ex e ct) (h2 : SGs T X ex es cts) (hs : (assignEach (e :: es) X.env).map (·.2) = assign e X.env :: (assignEach es X.env).map (·.2) := by rfl) : SGs T X ex (e :: es) (.cons ct cts) := ⟨(pgs_cons h1.pg h2.pg hs).imp fun vs σ H Q h => by
  obtain ⟨μ, r, s, ds, R, L, hv, h⟩ := h
  cases hv with
  | nil => exact h.elim
  | cons h3 h4 =>
    refine ⟨_, _, rfl, μ, r, s, _, R, L, h3, h.bind.map fun μ1 H1 s1 r1 le1 R1 q σ1 L1 => ⟨μ1, r1, s1, _, R1, L1, h4.mono le1, q⟩⟩⟩
mutual
theorem evT_noexc : ∀ (t : CT) (v : DV) (r : Loc) (s : Store) (c : Nat) (s' : Store), evT T.call T.G T.sub t v r s ≠ .exc c s'
  | .name i, v, r, s, c, s' => by
    simp only [evT]
    split <;> intro h <;> cases h
  | .tup ts, v, r, s, c, s' => by
    cases v with
    | tup xs => exact evTs_noexc ts xs r s c s'
    | ref l =>
      simp only [evT]
      split
      · exact evTs_noexc ts _ r s c s'
      · intro h; cases h
    | _ => intro h; cases h
  | .sub a b, v, r, s, c, s' => by
    simp only [evT]
    cases h1 : evE T.call T.G T.sub a r s with
    | ok x s1 =>
      simp only [Res.quiet, Res.bind]
      cases h2 : evE T.call T.G T.sub b r s1 with
      | ok y s2 =>
        simp only [Res.quiet, Res.bind, optR]
        cases setV x y v s2 <;> intro h <;> cases h
      | exc c s2 => intro h; cases h
      | stuck => intro h; cases h
    | exc c s1 => intro h; cases h
    | stuck => intro h; cases h
theorem evTs_noexc : ∀ (t : CTs) (v : List DV) (r : Loc) (s : Store) (c : Nat) (s' : Store), evTs T.call T.G T.sub t v r s ≠ .exc c s'
  | .nil, v, r, s, c, s' => by
    cases v <;> intro h <;> cases h
  | .cons t ts, v, r, s, c, s' => by
    cases v with
    | nil => intro h; cases h
    | cons x xs =>
      intro h
      simp only [evTs] at h
      cases h1 : evT T.call T.G T.sub t x r s with
      | ok r1 s1 =>
        rw [h1] at h
        exact evTs_noexc ts xs r1 s1 c s' h
      | exc d s1 => exact evT_noexc t x r s d s1 h1
      | stuck => rw [h1] at h; cases h
end
theorem sg_tup {k n : Nat} (hc : X.calm = true) (h : SGs T X ex es cts) (hlen : ∀ xs r s r' s', evTs T.call T.G T.sub cts xs r s = .ok r' s' → xs.length = n)
    (hn : (assignEach es X.env).length = n := by rfl) (hst : (assignEach es X.env).findIdx? (·.1) = none := by rfl) : SG T X ex (.Tuple es k pos) (.tup cts) :=
  ⟨⟨fun pins s0 σ H v u Q I rv h' => by
    obtain ⟨μ, r, s, d, R, L, hv, hg⟩ := h'
    have key : ∀ (vs : List V) (ds : List DV), VRs X.K μ H vs ds → Go X.K μ H (evTs T.call T.G T.sub cts ds r s) (fun _ _ => False) (fun μ' H' _ r' => ∀ σ', LR X.K ex μ' H' σ' r' → Q σ' H') → vs.length = n ∧ tGs T X.K ex cts vs σ H Q := fun vs ds hv hg => by
      refine ⟨?_, μ, r, s, ds, R, L, hv, hg⟩
      rw [hv.length]
      cases hm : evTs T.call T.G T.sub cts ds r s with
      | ok r' s' => exact hlen _ _ _ _ _ hm
      | exc c s' => exact absurd hm (evTs_noexc _ _ _ _ _ _)
      | stuck => rw [hm] at hg; exact hg.elim
    cases hv with
    | tup h1 h2 =>
      obtain ⟨k1, k2⟩ := key _ _ h2 hg
      exact (pg_tup hc h.pg hn hst).run pins s0 σ H _ u Q I rv ⟨_, _, rfl, h1.sq, k1, k2⟩
    | ref hm =>
      simp only [evT] at hg
      split at hg
      · rename_i xs hc'
        obtain ⟨vs, c1, c2⟩ := R.cellL hm hc'
        obtain ⟨k1, k2⟩ := key _ _ c2 hg
        exact (pg_lst hc h.pg hn hst).run pins s0 σ H _ u Q I rv ⟨_, _, rfl, c1, k1, k2⟩
      · exact hg.elim
    | _ => exact hg.elim⟩⟩

theorem lenT_nil : ∀ xs r s r' s', evTs T.call T.G T.sub .nil xs r s = .ok r' s' → xs.length = 0 := by
  intro xs r s r' s' h
  cases xs with
  | nil => rfl
  | cons _ _ => cases h
theorem lenT_cons {n : Nat} (hc : ∀ xs r s r' s', evTs T.call T.G T.sub cts xs r s = .ok r' s' → xs.length = n) : ∀ xs r s r' s', evTs T.call T.G T.sub (.cons ct cts) xs r s = .ok r' s' → xs.length = n + 1 := by
  intro xs r s r' s' h
  cases xs with
  | nil => cases h
  | cons x xs =>
    simp only [evTs] at h
    cases h1 : evT T.call T.G T.sub ct x r s with
    | ok r1 s1 =>
      rw [h1] at h
      rw [List.length_cons, hc _ _ _ _ _ h]
    | exc d s1 => rw [h1] at h; cases h
    | stuck => rw [h1] at h; cases h
/-- o[i] = v of a list or of a dict -/
def rSetB : TSet := fun o i v H Q => rSetL o i v H Q ∨ rSetD o i v H Q
theorem set_both (hu : X.A.units + 64 < cLine) : PSet X rSetB := by
  intro pins s σ H o i v ov iv u Q I ro ri rv h
  rcases h with h | h
  · exact set_list pins s σ H o i v ov iv u Q I ro ri rv h
  · exact set_dict (Nat.lt_of_le_of_lt (Nat.add_le_add_left (by decide) _) hu) pins s σ H o i v ov iv u Q I ro ri rv h
theorem sg_sub (hu : X.A.units + 64 < cLine) (ha : SE T X ex (fun _ _ _ _ => False) a ca) (hb : SE T X ex (fun _ _ _ _ => False) b cb) (hs : ∀ v, assign (.Subscript a b pos) X.env v = (do
      let ov ← holding [v] (eval a X.env)
      let iv ← holding [v, ov] (eval b X.env)
      standAt pos
      holding [v, ov, iv] (setItem ov iv v)
      release [v, ov, iv] []) := by exact fun _ => rfl) : SG T X ex (.Subscript a b pos) (.sub ca cb) := ⟨(pg_sub ha.pe hb.pe (set_both hu) hs).imp fun v σ H Q h => by
  obtain ⟨μ, r, s, d, R, L, hv, h⟩ := h
  simp only [evT] at h
  cases h1 : evE T.call T.G T.sub ca r s with
  | exc c s1 => rw [h1] at h; exact h.elim
  | stuck => rw [h1] at h; exact h.elim
  | ok x s1 =>
    rw [h1] at h
    simp only [Res.quiet, Res.bind] at h
    refine ⟨μ, r, s, R, L, ?_⟩
    rw [h1]
    intro μ1 H1 le1 R1 o ho
    have h := h.later le1
    cases h2 : evE T.call T.G T.sub cb r s1 with
    | exc c s2 => rw [h2] at h; exact h.elim
    | stuck => rw [h2] at h; exact h.elim
    | ok y s2 =>
      rw [h2] at h
      simp only [Res.quiet, Res.bind] at h
      refine ⟨μ1, r, s1, R1, L.mono le1, ?_⟩
      rw [h2]
      intro μ2 H2 le2 R2 i hi
      have h := h.later le2
      have hv2 := (hv.mono le1).mono le2
      have hL := (L.mono le1).mono le2
      have ho2 := ho.mono le2
      clear ho
      cases ho2 with
      | @ref l pa hm =>
        simp only [setV] at h
        cases hc : s2[l]? with
        | none => rw [hc] at h; exact h.elim
        | some c =>
          rw [hc] at h
          cases c with
          | frz _ => exact h.elim
          | fdct _ => exact h.elim
          | lst ys =>
            cases hi with
            | int j =>
              simp only at h
              cases hk : L2.ixN ys.length j with
              | none => rw [hk] at h; exact h.elim
              | some k =>
                rw [hk] at h
                obtain ⟨vs, c1, c2, c3⟩ := R2.at_ _ _ _ hm hc
                refine .inl ⟨_, vs, j, k, rfl, rfl, c1, by rw [c2.length]; exact hk, ?_⟩
                exact h μ2 _ (le_set c1) (R2.set hm hc c1 (c2.set k hv2) (by rw [List.length_set]; exact c3)) σ (hL.mono (le_set c1))
            | _ => exact h.elim
          | dct ks =>
            simp only at h
            cases hk : key? y with
            | none => rw [hk] at h; exact h.elim
            | some k =>
              rw [hk] at h
              simp only at h
              split at h
              · rename_i hlt
                obtain ⟨ws, dk, k1, k2, k3⟩ := R2.at_ _ _ _ hm hc
                have kr := KR.of k1 k2
                have hz : ws.length = ks.length := kr.len
                have e := key_kV hi hk
                subst e
                have q := kr.put (k := k) hv2
                have n := length_putD ks k d
                have le := le_setU (K := X.K) (μ := μ2) (w := .dK (putK ws k v)) dk trivial fun _ _ z => nomatch z
                refine .inr ⟨_, _, rfl, .inl ⟨ws, k, dk, rfl, by rw [hz]; exact hlt, rfl⟩, ?_⟩
                exact h μ2 _ le (R2.setD hm hc dk q.both.1 q.both.2 (by omega)) σ (hL.mono le)
              · exact h.elim
      | _ => exact h.elim⟩

/-! ### iterables -/
theorem wk_list {K : PySem.W.Frag} {a : Addr} {l : Nat} {xs : List DV} {μ0 : List Addr} {H0 : Hp} (hm : μ0[l]? = some a) : Wk K (Itl K a) (.cell l xs) xs μ0 H0 where
  go := fun i d μ H s le R hf hd => by
    obtain ⟨vs, c1, c2⟩ := R.cellL (le.pre _ _ hm) hf
    obtain ⟨v, hv, rv⟩ := c2.get hd
    refine ⟨⟨vs, v, c1, hv⟩, fun x H' hy => ?_⟩
    obtain ⟨rfl, hx⟩ := hy
    have e := hx vs c1
    rw [hv] at e
    cases e
    exact ⟨Le.refl, R, rv⟩
  stop := fun i μ H s le R hf hd => by
    obtain ⟨vs, c1, c2⟩ := R.cellL (le.pre _ _ hm) hf
    exact ⟨vs, c1, by rw [c2.length]; exact hd⟩
theorem wk_tup {K : PySem.W.Frag} {a : Addr} {vs : List V} {xs : List DV} {μ0 : List Addr} {H0 : Hp} (h1 : TupP K H0 a vs) (h2 : VRs K μ0 H0 vs xs) : Wk K (Itt K a) .free xs μ0 H0 where
  go := fun i d μ H s le R hf hd => by
    obtain ⟨v, hv, rv⟩ := (h2.mono le).get hd
    refine ⟨⟨vs, v, (le.tup _ _ h1).sq, hv⟩, fun x H' hy => ?_⟩
    obtain ⟨rfl, hx⟩ := hy
    have e := hx vs ((le.tup _ _ h1).sq)
    rw [hv] at e
    cases e
    exact ⟨Le.refl, R, rv⟩
  stop := fun i μ H s le R hf hd => ⟨vs, (le.tup _ _ h1).sq, by rw [h2.length]; exact hd⟩
theorem wk_str {K : PySem.W.Frag} {z : Str} {μ0 : List Addr} {H0 : Hp} : Wk K (Its z) .free (z.cps.toList.map fun c => .str ⟨#[c]⟩) μ0 H0 where
  go := fun i d μ H s le R hf hd => by
    rw [List.getElem?_map] at hd
    cases hc : z.cps.toList[i]? with
    | none => rw [hc] at hd; cases hd
    | some c =>
      rw [hc] at hd
      cases hd
      have hc' : z.cps[i]? = some c := by rw [← Array.getElem?_toList]; exact hc
      refine ⟨(Array.getElem?_eq_some_iff.mp hc').1, fun x H' hy => ?_⟩
      obtain ⟨rfl, c', e1, rfl⟩ := hy
      rw [hc'] at e1
      cases e1
      exact ⟨Le.refl, R, .str _⟩
  stop := fun i μ H s le R hf hd => by
    rw [List.length_map, Array.length_toList] at hd
    exact hd
theorem si_seq (ha : SE T X ex W a ca) : SI T X ex W tg a (.seq ca) := ⟨⟨fun pins s0 σ H R I h => by
  obtain ⟨μ, r, s, R0, L, h⟩ := h
  simp only [evI] at h
  cases hm : evE T.call T.G T.sub ca r s with
  | stuck => rw [hm] at h; exact h.elim
  | exc c s1 =>
    rw [hm] at h
    refine (pi_list (tg := tg) ha.pe).run pins s0 σ H R I ⟨μ, r, s, R0, L, ?_⟩
    rw [hm]
    exact h
  | ok x s1 =>
    rw [hm] at h
    simp only [Res.bind] at h
    cases x with
    | tup xs =>
      refine (pi_tup (tg := tg) ha.pe).run pins s0 σ H R I ⟨μ, r, s, R0, L, ?_⟩
      rw [hm]
      intro μ1 H1 le1 R1 v hv
      cases hv with
      | tup h1 h2 => exact ⟨_, rfl, ⟨_, h1.sq⟩, h μ1 H1 le1 R1 _ (wk_tup h1 h2)⟩
    | ref l =>
      simp only at h
      split at h
      · rename_i xs hc
        refine (pi_list (tg := tg) ha.pe).run pins s0 σ H R I ⟨μ, r, s, R0, L, ?_⟩
        rw [hm]
        intro μ1 H1 le1 R1 v hv
        cases hv with
        | ref q =>
          obtain ⟨vs, c1, _⟩ := R1.cellL q hc
          exact ⟨_, rfl, ⟨_, c1⟩, h μ1 H1 le1 R1 _ (wk_list q)⟩
      · exact h.elim
    | str z =>
      refine (pi_str (tg := tg) ha.pe).run pins s0 σ H R I ⟨μ, r, s, R0, L, ?_⟩
      rw [hm]
      intro μ1 H1 le1 R1 v hv
      cases hv with
      | str _ => exact ⟨z, rfl, h μ1 H1 le1 R1 _ wk_str⟩
    | _ => exact h.elim⟩⟩
theorem wk_range {K : PySem.W.Frag} {lo : Int} {n : Nat} {μ0 : List Addr} {H0 : Hp} : Wk K (Itr lo n) .free ((List.range n).map fun (i : Nat) => .int (lo + (i : Int))) μ0 H0 where
  go := fun i d μ H s le R hf hd => by
    rw [List.getElem?_map] at hd
    cases hc : (List.range n)[i]? with
    | none => rw [hc] at hd; cases hd
    | some c =>
      rw [hc] at hd
      cases hd
      have hi := (List.getElem?_eq_some_iff.mp hc).1
      have e : c = i := by
        rw [List.getElem?_eq_getElem hi, List.getElem_range] at hc
        exact (Option.some.inj hc).symm
      subst e
      rw [List.length_range] at hi
      refine ⟨hi, fun x H' hy => ?_⟩
      obtain ⟨rfl, rfl⟩ := hy
      exact ⟨Le.refl, R, .int _⟩
  stop := fun i μ H s le R hf hd => by
    rw [List.length_map, List.length_range] at hd
    exact hd
theorem si_range1 {p : Pos} (hm : X.mg "range" = none) (ha : SE T X ex W a ca) (hg : Gl X "range" := by rfl) (hs : starEach [a] X.env = [(false, eval a X.env)] := by rfl) : SI T X ex W tg (.Call (.Name "range" p) [a] [] pos) (.range1 ca) :=
  ⟨(pi_range1 hg hm (pa_cons ha.pe pa_nil hs) hs).imp fun σ H R h => by
    obtain ⟨μ, r, s, R0, L, h⟩ := h
    refine ⟨μ, r, s, R0, L, h.bind.map fun μ1 H1 s1 x le1 R1 h1 v hv => ?_⟩
    cases hv with
    | int n =>
      simp only at h1
      split at h1
      · rename_i hn
        exact ⟨n, rfl, hn.1, hn.2, h1.ok R1 _ wk_range⟩
      · exact h1.elim
    | _ => exact h1.elim⟩
theorem si_range2 {p : Pos} (hm : X.mg "range" = none) (ha : SE T X ex W a ca) (hb : SE T X ex W b cb) (hg : Gl X "range" := by rfl) (hs : starEach [a, b] X.env = [(false, eval a X.env), (false, eval b X.env)] := by rfl) (hs2 : starEach [b] X.env = [(false, eval b X.env)] := by rfl) :
    SI T X ex W tg (.Call (.Name "range" p) [a, b] [] pos) (.range2 ca cb) :=
  ⟨(pi_range2 hg hm (pa_cons ha.pe (pa_cons hb.pe pa_nil hs2) (by rw [hs, hs2])) hs hs2).imp fun σ H R h => by
    obtain ⟨μ, r, s, R0, L, h⟩ := h
    refine ⟨μ, r, s, R0, L, h.bind.map fun μ1 H1 s1 x le1 R1 h1 v hv => ?_⟩
    refine ⟨μ1, r, s1, R1, L.mono le1, h1.bind.map fun μ2 H2 s2 y le2 R2 h2 w hw => ?_⟩
    cases hv with
    | int m =>
      cases hw with
      | int n =>
        simp only at h2
        split at h2
        · rename_i hn
          exact ⟨m, n, rfl, ⟨hn.1.1, hn.1.2, hn.2.1, hn.2.2⟩, h2.ok R2 _ wk_range⟩
        · exact h2.elim
      | _ => exact h2.elim
    | _ => exact h2.elim⟩
theorem wk_rangeC {K : PySem.W.Frag} {lo c : Int} {n : Nat} {μ0 : List Addr} {H0 : Hp} : Wk K (Itc lo c n) .free ((List.range n).map fun (i : Nat) => .int (lo + (i : Int) * c)) μ0 H0 where
  go := fun i d μ H s le R hf hd => by
    rw [List.getElem?_map] at hd
    cases hc : (List.range n)[i]? with
    | none => rw [hc] at hd; cases hd
    | some c =>
      rw [hc] at hd
      cases hd
      have hi := (List.getElem?_eq_some_iff.mp hc).1
      have e : c = i := by
        rw [List.getElem?_eq_getElem hi, List.getElem_range] at hc
        exact (Option.some.inj hc).symm
      subst e
      rw [List.length_range] at hi
      refine ⟨hi, fun x H' hy => ?_⟩
      obtain ⟨rfl, rfl⟩ := hy
      exact ⟨Le.refl, R, .int _⟩
  stop := fun i μ H s le R hf hd => by
    rw [List.length_map, List.length_range] at hd
    exact hd
theorem si_range3 {c : Expr} {cc : CE} {p : Pos} (hm : X.mg "range" = none) (ha : SE T X ex W a ca) (hb : SE T X ex W b cb) (hc : SE T X ex W c cc) (hg : Gl X "range" := by rfl) (hs : starEach [a, b, c] X.env = (false, eval a X.env) :: starEach [b, c] X.env := by rfl) (hpl : (backTo pos (starEach [b, c] X.env)).any (·.1) = false := by rfl)
    (hs1 : starEach [b, c] X.env = (false, eval b X.env) :: starEach [c] X.env := by rfl) (hs2 : starEach [c] X.env = (false, eval c X.env) :: starEach [] X.env := by rfl) :
    SI T X ex W tg (.Call (.Name "range" p) [a, b, c] [] pos) (.range3 ca cb cc) :=
  ⟨(pi_range3 hg hm (pa_cons ha.pe (pa_cons hb.pe (pa_cons hc.pe pa_nil hs2) hs1) hs) hs hpl).imp fun σ H R h => by
    obtain ⟨μ, r, s, R0, L, h⟩ := h
    refine ⟨μ, r, s, R0, L, h.bind.map fun μ1 H1 s1 x le1 R1 h1 v hv => ?_⟩
    refine ⟨μ1, r, s1, R1, L.mono le1, h1.bind.map fun μ2 H2 s2 y le2 R2 h2 w hw => ?_⟩
    refine ⟨μ2, r, s2, R2, (L.mono le1).mono le2, h2.bind.map fun μ3 H3 s3 z le3 R3 h3 u hu => ?_⟩
    cases hv with
    | int m =>
      cases hw with
      | int n =>
        cases hu with
        | int d =>
          simp only at h3
          split at h3
          · rename_i hn
            obtain ⟨⟨q1, q2⟩, rfl⟩ := hn
            exact ⟨m, n, -1, _, rfl, .neg q1.1 q1.2 q2.1 q2.2, h3.ok R3 _ wk_rangeC⟩
          · exact h3.elim
        | _ => exact h3.elim
      | _ => exact h3.elim
    | _ => exact h3.elim⟩
theorem zip_get {α β : Type} : ∀ {xs : List α} {ys : List β} {i : Nat} {p : α × β}, (xs.zip ys)[i]? = some p → xs[i]? = some p.1 ∧ ys[i]? = some p.2
  | [], _, _, _, h => by simp at h
  | _ :: _, [], _, _, h => by simp at h
  | x :: xs, y :: ys, 0, p, h => by
    have e := Option.some.inj h
    subst e
    exact ⟨rfl, rfl⟩
  | x :: xs, y :: ys, i + 1, p, h => zip_get (xs := xs) (ys := ys) (i := i) h
theorem wk_rev {K : PySem.W.Frag} {a : Addr} {vs : List V} {xs : List DV} {μ0 : List Addr} {H0 : Hp} (h1 : TupP K H0 a vs) (h2 : VRs K μ0 H0 vs xs) : Wk K (ItvT K a vs.length) .free xs.reverse μ0 H0 where
  go := fun i d μ H s le R hf hd => by
    have hlt := (List.getElem?_eq_some_iff.mp hd).1
    rw [List.length_reverse] at hlt
    rw [List.getElem?_reverse hlt] at hd
    obtain ⟨v, hv, rv⟩ := (h2.mono le).get hd
    have hl := h2.length
    rw [← hl] at hv hlt
    refine ⟨⟨hlt, vs, v, (le.tup _ _ h1).sq, hv⟩, fun x H' hy => ?_⟩
    obtain ⟨rfl, hx⟩ := hy
    have e := hx vs ((le.tup _ _ h1).sq)
    rw [hv] at e
    cases e
    exact ⟨Le.refl, R, rv⟩
  stop := fun i μ H s le R hf hd => by
    rw [List.length_reverse, ← h2.length] at hd
    exact hd
theorem si_rev {p : Pos} (hm : X.mg "reversed" = none) (ha : SE T X ex W a ca) (hg : Gl X "reversed" := by rfl) (hs : starEach [a] X.env = (false, eval a X.env) :: starEach [] X.env := by rfl) : SI T X ex W tg (.Call (.Name "reversed" p) [a] [] pos) (.rev ca) :=
  ⟨(pi_revA hg hm ha.pe hs).imp fun σ H R h => by
    obtain ⟨μ, r, s, R0, L, h⟩ := h
    refine ⟨μ, r, s, R0, L, h.bind.map fun μ1 H1 s1 x le1 R1 h1 v hv => ?_⟩
    cases hv with
    | tup q1 q2 => exact ⟨_, _, rfl, .inr ⟨q1.sq, h1.ok R1 _ (wk_rev q1 q2)⟩⟩
    | _ => exact h1.elim⟩
end
end Ip
end PtIpStmt
section PtIpEnum
set_option Elab.async false
set_option linter.all false
set_option maxRecDepth 100000
/-! enumerate of tuples and texts: each pair a new tuple that is known to have no dict -/
namespace Ip
open PySem PySem.Spec PyProof.Rows L2
/-- (k, x), (k + 1, y), .. of xs, as long as S holds -/
def Itn (S : Hp → Prop) (xs : List V) (k : Int) : It where
  go := fun i H => S H ∧ i < xs.length
  yld := fun i H v H' => ∃ p o x, v = .ref p ∧ H p = none ∧ o.dict = none ∧ H' = upd H p (.frz o (.tup [.int (k + (i : Nat)), x])) ∧ xs[i]? = some x
  stop := fun i H => S H ∧ xs.length ≤ i
/-- what an iterator draws while S holds -/
structure Dra (P : Program) (w : World) (K : PySem.W.Frag) (S : Hp → Prop) (xs : List V) (e it : Addr) (cell : Nat → Heap → Prop) : Prop where
  ob : ∀ i h, cell i h → ∃ o, h.get? it = some o ∧ ∀ v, o.data ≠ .cell v
  kp : ∀ i h h', cell i h → (∀ o, h.get? it = some o → h'.get? it = some o) → cell i h'
  dr : ∀ (X : Cx) (pins : List (Addr × Obj)) (σ : L2.St) (H : Hp) (s : Shared) (i : Nat) (c : Int) (old : Value), X.prog = P → X.w = w → X.K = K → X.calm = true → Inv X pins σ H s → S H → cell i s.heap → IsEnum s.heap e it c old →
    ∃ (fp : List Addr) (Pv : Nat → Value → Prop) (St : Nat → Heap → Prop), Draws P w X.A.in1 it fp xs.length Pv St ∧ St i s.heap ∧ e ∉ fp ∧ (∀ j v, Pv j v → ∃ x, xs[j]? = some x ∧ RelV x v) ∧ ∀ j h, St j h → cell j h
theorem turn_en {P : Program} {w : World} {K : PySem.W.Frag} {S : Hp → Prop} {xs : List V} {e it : Addr} {cell : Nat → Heap → Prop} {elts : List Expr} {kk : Nat} {tpos : Pos} (k : Int) (D : Dra P w K S xs e it cell) :
    Turn P w K (.Tuple elts kk tpos) (Itn S xs k) [e, it] e (fun i h => ∃ old, IsEnum h e it (k + (i : Nat)) old ∧ cell i h ∧ e ≠ it ∧ i ≤ xs.length) where
  mem := List.mem_cons_self
  obj := fun i h st b hb => by
    obtain ⟨old, a1, a2, a3, a4⟩ := st
    rcases List.mem_cons.mp hb with rfl | hb
    · exact ⟨_, a1, fun _ z => nomatch z⟩
    · rw [List.mem_singleton.mp hb]
      exact D.ob i h a2
  keep := fun i h h' st kp => by
    obtain ⟨old, a1, a2, a3, a4⟩ := st
    exact ⟨old, kp e List.mem_cons_self _ a1, D.kp i h h' a2 fun o q => kp it (List.mem_cons_of_mem _ (List.mem_singleton.mpr rfl)) o q, a3, a4⟩
  item := by
    rintro X rfl rfl rfl calm i pins s σ H E I fr st ⟨hS, hi⟩
    obtain ⟨old, a1, a2, a3, a4⟩ := st
    obtain ⟨fp, Pv, St, dd, d1, d2, d3, d4⟩ := D.dr X pins σ H s i _ old rfl rfl rfl calm I hS a2 a1
    apply wpAny_pyNext_enum_itemC dd a1 d1 hi a3 d2
    intro v h1 tk pv ho st1 hT hsz kp
    refine ⟨_, rfl, ?_⟩
    apply wpAny_letOwnedTupleGo_enum (s := { s with heap := h1, toks := tk + 1 }) ho
    intro h2 he2 sb
    obtain ⟨x, hx, rx⟩ := d3 i v pv
    have le := Heap.lt_size a1
    have li : it < s.heap.objs.size := by
      obtain ⟨_, q, _⟩ := D.ob i _ a2
      exact Heap.lt_size q
    have hN : h2.get? s.heap.objs.size = some (tupO [.int (k + (i : Nat)) tk, v]) := by
      rw [sb.2 _ (Nat.ne_of_gt le)]
      exact hT
    have ok : ObjOk X.prog X.w (upd H s.heap.objs.size (.frz (tupO [.int (k + (i : Nat)) tk, v]) (.tup [.int (k + (i : Nat)), x]))) h2 s.heap.objs.size (.frz (tupO [.int (k + (i : Nat)) tk, v]) (.tup [.int (k + (i : Nat)), x])) :=
      ⟨hN, (by decide : 2 ≤ sizeLine), [.int (k + (i : Nat)) tk, v], .cons ⟨_, rfl⟩ (.cons rx .nil), _, hN, rfl, _, rfl⟩
    have out : ∀ b, b ∉ [e, it] → b ≠ e ∧ b ≠ it := fun b hb => ⟨fun z => hb (z ▸ List.mem_cons_self), fun z => hb (z ▸ List.mem_cons_of_mem _ (List.mem_singleton.mpr rfl))⟩
    have I2 := I.turnedNew (t' := tk + 1) (ch := [e, it]) (h' := h2) (fun b ob hb q => by
      obtain ⟨n1, n2⟩ := out b hb
      rw [sb.2 b n1]
      exact kp b ob n1 n2 q) fr (Nat.le_refl _) ok
    have nn := I.hok.fresh (Nat.le_refl s.heap.objs.size)
    refine ⟨.ref s.heap.objs.size, _, I2, rfl, ⟨_, _, x, rfl, nn, rfl, rfl, hx⟩, ⟨v, ?_, ?_, a3, hi⟩, fun b hb => ?_⟩
    · have q : k + ((i + 1 : Nat) : Int) = k + (i : Nat) + 1 := by omega
      rw [q]
      exact he2
    · exact D.kp _ _ _ (d4 _ _ st1) fun o q => by rw [sb.2 it (Ne.symm a3)]; exact q
    · have lb : b < s.heap.objs.size := by
        rcases List.mem_cons.mp hb with rfl | hb
        · exact le
        · rw [List.mem_singleton.mp hb]
          exact li
      rw [upd_ne (Nat.ne_of_lt lb)]
      exact (fr b hb).1
  done := by
    rintro X rfl rfl rfl calm i pins s σ H E I fr st ⟨hS, hi⟩
    obtain ⟨old, a1, a2, a3, a4⟩ := st
    obtain ⟨fp, Pv, St, dd, d1, d2, d3, d4⟩ := D.dr X pins σ H s i _ old rfl rfl rfl calm I hS a2 a1
    have q : i = xs.length := Nat.le_antisymm a4 hi
    subst q
    apply wpAny_pyNext_enum_endD dd a1 d1
    intro h1 eb
    obtain ⟨f0, f1, f2, f3, f4, f5⟩ := fr it (List.mem_cons_of_mem _ (List.mem_singleton.mpr rfl))
    exact ⟨rfl, I.turned (t' := s.toks) (fun b o hb z => eb b o hb z) f0 f1 f3 f4 f5⟩
  self := fun A i s Q E st h => by
    obtain ⟨old, a1, _⟩ := st
    exact wpAny_pyIter_enum a1 h
/-! ### the two sources -/
theorem dra_tup {P : Program} {w : World} {K : PySem.W.Frag} {xs : List V} {a e it : Addr} (ne : a ≠ it) : Dra P w K (fun H => SqT K H a xs) xs e it (fun i h => h.IsTupleIter it a i) where
  ob := fun i h c => by
    obtain ⟨o, q, _, d⟩ := c
    exact ⟨o, q, fun v z => by rw [d] at z; cases z⟩
  kp := fun i h h' c kp => c.at kp
  dr := by
    rintro X pins σ H s i c old rfl rfl rfl calm I hS hc he
    obtain ⟨us, rv, pt, _⟩ := I.tuple hS
    have calm2 : X.A.in1.handled = none := by simp [I.ok.hd calm]
    have len : us.toArray.size = xs.length := by rw [List.size_toArray, rv.length]
    have dd := Draws.tuple (prog := X.prog) (w := X.w) calm2 it a ne us.toArray
    rw [len] at dd
    refine ⟨_, _, _, dd, ⟨hc, pt⟩, fun hm => ?_, fun j v hv => ?_, fun j h q => q.1⟩
    · rcases List.mem_cons.mp hm with rfl | hm
      · obtain ⟨o, q, c1, _⟩ := hc
        rw [he] at q
        cases q
        exact absurd (show Value.type "enumerate" = Value.type "tuple_iterator" from c1) (by decide)
      · rw [List.mem_singleton.mp hm] at he
        obtain ⟨o, q, c1, _⟩ := pt
        rw [he] at q
        cases q
        exact absurd (show Value.type "enumerate" = Value.type "tuple" from c1) (by decide)
    · have hv : us[j]? = some v := by simpa using hv
      have lt : j < xs.length := by
        rw [rv.length]
        exact (List.getElem?_eq_some_iff.mp hv).1
      obtain ⟨u, hu, r⟩ := rv.get (List.getElem?_eq_getElem lt)
      rw [hv] at hu
      cases hu
      exact ⟨_, List.getElem?_eq_getElem lt, r⟩
theorem dra_txt {P : Program} {w : World} {K : PySem.W.Frag} {z : Str} {t : Tok} {e it : Addr} : Dra P w K (fun _ => True) (z.cps.toList.map fun c => V.str ⟨#[c]⟩) e it (fun i h => h.IsStrIter it (strIterType z) z t i) where
  ob := fun i h c => by
    obtain ⟨o, q, _, d⟩ := c
    exact ⟨o, q, fun v z => by rw [d] at z; cases z⟩
  kp := fun i h h' c kp => by
    obtain ⟨o, q, r⟩ := c
    exact ⟨o, kp o q, r⟩
  dr := by
    rintro X pins σ H s i c old rfl rfl rfl calm I hS hc he
    have calm2 : X.A.in1.handled = none := by simp [I.ok.hd calm]
    have dd := Draws.text (prog := X.prog) (w := X.w) calm2 it z t
    rw [show z.cps.size = (z.cps.toList.map fun c => V.str ⟨#[c]⟩).length by rw [List.length_map, Array.length_toList]] at dd
    refine ⟨_, _, _, dd, hc, fun hm => ?_, fun j v hv => ?_, fun j h q => q⟩
    · rw [List.mem_singleton.mp hm] at he
      obtain ⟨o, q, c1, _⟩ := hc
      rw [he] at q
      cases q
      unfold strIterType at c1
      split at c1
      · exact absurd (show Value.type "enumerate" = Value.type "str_ascii_iterator" from c1) (by decide)
      · exact absurd (show Value.type "enumerate" = Value.type "str_iterator" from c1) (by decide)
    · obtain ⟨n, u, q, rfl⟩ := hv
      refine ⟨.str ⟨#[n]⟩, ?_, u, rfl⟩
      rw [List.getElem?_map, Array.getElem?_toList, q]
      rfl
/-! ### the call -/
set_option maxHeartbeats 1000000 in
theorem en_new {v : Value} {o : Obj} {Hh : Heap → Prop} (B : Begins v o Hh) : Meets (Builtin.«enumerate.__new__» ⟨[.type "enumerate", v], []⟩) fun _ R s => Hh s.heap ∧
    R (.ok (.ret (.ref (s.heap.push o).objs.size))) { s with heap := (s.heap.push o).push { cls := .type "enumerate", data := .fields #[.none, .bool false, .ref s.heap.objs.size, rawInt 0, .none, .none] } } :=
  .of_wp fun P w A R s q => by
    obtain ⟨hp, g, d, tk, os⟩ := s
    obtain ⟨q0, q⟩ := q
    have sb := sub_enumerate
    have st : ∀ {A' : Around} {E : Value → Shared → Prop} {Q : Value → Shared → Prop}, Q (.ref hp.objs.size) ⟨hp.push o, g, d, tk, os⟩ → wpAny (model P w) A' (pyIter v) Q E ⟨hp, g, d, tk, os⟩ := fun z => B.iter P w _ _ ⟨hp, g, d, tk, os⟩ _ q0 z
    wp_walk using st
    refine wpAny_stack_any fun sk => wpAny_pure ?_
    split
    · rename_i c0 _ _ _ _ _
      generalize (c0 == Value.type "enumerate") = b
      cases b
      · wp_walk using st
        exact ⟨_, rfl, q⟩
      · wp_walk using st
        exact ⟨_, rfl, q⟩
    · wp_walk using st
      exact ⟨_, rfl, q⟩
section
variable {prog : Program} {w : World} {A : Around} {E : Value → Shared → Prop} {s : Shared}
theorem en_call {v : Value} {o : Obj} {Hh : Heap → Prop} {Q : Value → Shared → Prop} (B : Begins v o Hh) (q0 : Hh s.heap)
    (q : ∀ h2, IsEnum h2 (s.heap.objs.size + 1) s.heap.objs.size 0 .none → h2.get? s.heap.objs.size = some o → (∀ b u, s.heap.get? b = some u → h2.get? b = some u) → Q (.ref (s.heap.objs.size + 1)) { s with heap := h2 }) :
    wpAny (model prog w) A (call (.type "enumerate") [v]) Q E s := by
  have g1 := F.newCall_enumerate_1 v
  have g2 := F.typeCall_enumerate_1 v
  refine callType_new F.called_enumerate (by decide) g2 g1 (fun x => F.args_object_init_2 x _) F.entry_enumerate_new (en_new B) ⟨q0, ?_⟩
  have sz : (s.heap.push o).objs.size = s.heap.objs.size + 1 := Heap.size_push ..
  show _ ∧ _
  rw [sz]
  have at1 := Heap.get?_push_size (s.heap.push o) (o := { cls := .type "enumerate", data := .fields #[.none, .bool false, .ref s.heap.objs.size, rawInt 0, .none, .none] }) rfl
  rw [sz] at at1
  exact ⟨⟨_, at1, rfl⟩, q _ at1 (Heap.get?_push_of_some _ (Heap.get?_push_size _ B.free)) fun b u z => Heap.get?_push_of_some _ (Heap.get?_push_of_some _ z)⟩
end
/-! ### the rules -/
section
variable {T : Tb} {X : Cx} {ex : Option (Addr × Nat)} {W : WX} {a : Expr} {ca : CE} {pos p tpos : Pos} {elts : List Expr} {kk : Nat}
/-- what enumerate takes: a tuple, a text -/
def iEn (K : PySem.W.Frag) (k : Int) (ta : TE) : TI := fun σ H R => ta σ H fun v H1 => (∃ l xs, v = .ref l ∧ SqT K H1 l xs ∧ R (Itn (fun H => SqT K H l xs) xs k) H1) ∨ ∃ z, v = .str z ∧ R (Itn (fun _ => True) (z.cps.toList.map fun c => V.str ⟨#[c]⟩) k) H1
theorem en_pie {pins : List (Addr × Obj)} {σ : L2.St} {H : Hp} {s : Shared} {R : It → Hp → Prop} {S : Hp → Prop} {xs : List V} {cell : Nat → Heap → Prop} {h2 : Heap} {k : Int} (I : Inv X pins σ H s) (he : IsEnum h2 (s.heap.objs.size + 1) s.heap.objs.size k .none)
    (kp : ∀ b u, s.heap.get? b = some u → h2.get? b = some u) (c0 : cell 0 h2) (D : Dra X.prog X.w X.K S xs (s.heap.objs.size + 1) s.heap.objs.size cell) (q : R (Itn S xs k) H) : PIE X pins σ (.Tuple elts kk tpos) R (.ref (s.heap.objs.size + 1)) { s with heap := h2 } := by
  have I2 := I.kept (t' := s.toks) kp
  refine ⟨_, _, _, _, H, rfl, I2, turn_en k D, ⟨.none, ?_, c0, Nat.succ_ne_self _, Nat.zero_le _⟩, fun b hb => ?_, q⟩
  · rw [show k + ((0 : Nat) : Int) = k from Int.add_zero k]
    exact he
  · have ge : s.heap.objs.size ≤ b := by
      rcases List.mem_cons.mp hb with rfl | hb
      · exact Nat.le_succ _
      · rw [List.mem_singleton.mp hb]
        exact Nat.le_refl _
    exact I.fpOk ge (I.hok.fresh ge)
theorem pi_en {ta : TE} (hg : Gl X "enumerate") (hm : X.mg "enumerate" = none) (ha : PE X a ta) (hs : starEach [a] X.env = (false, eval a X.env) :: starEach [] X.env := by rfl) : PI X (.Tuple elts kk tpos) (.Call (.Name "enumerate" p) [a] [] pos) (iEn X.K 0 ta) := by
  refine ⟨fun pins s σ H R I h => Call_ (ld_blt I hg hm boot_enumerate (PyProof.Rows.callWith_type1 (PyProof.Rows.args_cons (thn (ha.run pins s σ H _ I h) fun v s1 q => PyProof.Rows.args_nil ?_) hs) hs rfl))⟩
  obtain ⟨x, H1, I1, rx, q⟩ := q
  rcases q with ⟨l, xs, rfl, hq, q⟩ | ⟨z, rfl, q⟩
  · cases rx
    obtain ⟨us, rv, pt, _⟩ := I1.tuple hq
    refine en_call (begins_tuple l us.toArray) pt fun h2 he hi kp => wpAny_pyIter_enum he ?_
    have ne : l ≠ s1.heap.objs.size := by
      obtain ⟨_, e, _⟩ := pt
      exact Nat.ne_of_lt (Heap.lt_size e)
    exact en_pie I1 he kp ⟨_, hi, rfl, rfl⟩ (dra_tup ne) q
  · obtain ⟨t, rfl⟩ := rx
    exact en_call (begins_text z t) trivial fun h2 he hi kp => wpAny_pyIter_enum he (en_pie I1 he kp ⟨_, hi, rfl, rfl⟩ dra_txt q)
theorem wk_en {K : PySem.W.Frag} {S : Hp → Prop} {vs : List V} {xs : List DV} {k : Int} {μ0 : List Addr} {H0 : Hp} (hS : ∀ μ H, Le K μ0 H0 μ H → S H) (hv : VRs K μ0 H0 vs xs) :
    Wk K (Itn S vs k) .free (xs.mapIdx fun i x => .tup [.int (k + (i : Nat)), x]) μ0 H0 where
  go := fun i d μ H s le R hf hd => by
    rw [List.getElem?_mapIdx] at hd
    cases hx : xs[i]? with
    | none => rw [hx] at hd; cases hd
    | some x =>
      rw [hx] at hd
      cases hd
      obtain ⟨v, q, r⟩ := (hv.mono le).get hx
      refine ⟨⟨hS μ H le, (List.getElem?_eq_some_iff.mp q).1⟩, fun y H' hy => ?_⟩
      obtain ⟨p, o, u, rfl, hp, ho, rfl, hu⟩ := hy
      rw [q] at hu
      cases hu
      have l := le_upd (K := K) (μ := μ) (o := .frz o (.tup [.int (k + (i : Nat)), v])) hp
      exact ⟨l, R.upd hp, .tup (TupP.of upd_same ho) (.cons (.int _) (.cons (r.mono l) .nil))⟩
  stop := fun i μ H s le R hf hd => by
    rw [List.length_mapIdx, ← hv.length] at hd
    exact ⟨hS μ H le, hd⟩
theorem signs_vr {K : PySem.W.Frag} {μ : List Addr} {H : Hp} : ∀ l : List Nat, VRs K μ H (l.map fun c => V.str ⟨#[c]⟩) (l.map fun c => DV.str ⟨#[c]⟩)
  | [] => .nil
  | c :: l => .cons (.str _) (signs_vr l)
theorem si_enum (hm : X.mg "enumerate" = none) (ha : SE T X ex W a ca) (hg : Gl X "enumerate" := by rfl) (hs : starEach [a] X.env = (false, eval a X.env) :: starEach [] X.env := by rfl) :
    SI T X ex W (.Tuple elts kk tpos) (.Call (.Name "enumerate" p) [a] [] pos) (.enum ca) :=
  ⟨(pi_en hg hm ha.pe hs).imp fun σ H R h => by
    obtain ⟨μ, r, s, R0, L, h⟩ := h
    refine ⟨μ, r, s, R0, L, h.bind.map fun μ1 H1 s1 x le1 R1 h1 v hv => ?_⟩
    cases hv with
    | tup q1 q2 => exact .inl ⟨_, _, rfl, q1.sq, h1.ok R1 _ (wk_en (fun μ H le => (le.tup _ _ q1).sq) q2)⟩
    | str z =>
      refine .inr ⟨z, rfl, h1.ok R1 _ ?_⟩
      exact wk_en (fun _ _ _ => trivial) (signs_vr _)
    | _ => exact h1.elim⟩
/-! ### enumerate(x, k) -/
def iEn2 (K : PySem.W.Frag) (ta : TA) : TI := fun σ H R => ta σ H fun vs H1 => ∃ v k, vs = [v, .int k] ∧ (-(2 ^ 62) ≤ k ∧ k < 2 ^ 62) ∧ ((∃ l xs, v = .ref l ∧ SqT K H1 l xs ∧ R (Itn (fun H => SqT K H l xs) xs k) H1) ∨ ∃ z, v = .str z ∧ R (Itn (fun _ => True) (z.cps.toList.map fun c => V.str ⟨#[c]⟩) k) H1)
theorem pi_en2 {b : Expr} {ta : TA} (hg : Gl X "enumerate") (hm : X.mg "enumerate" = none) (ha : PA X [a, b] ta) (hs : starEach [a, b] X.env = (false, eval a X.env) :: starEach [b] X.env := by rfl) (hpl : (backTo pos (starEach [b] X.env)).any (·.1) = false := by rfl) :
    PI X (.Tuple elts kk tpos) (.Call (.Name "enumerate" p) [a, b] [] pos) (iEn2 X.K ta) := by
  refine ⟨fun pins s σ H R I h => Call_ (ld_blt I hg hm boot_enumerate (PyProof.Rows.callWith_type1 (thn (ha.run pos pins s σ H _ I h) fun us s1 q => ?_) hs hpl))⟩
  obtain ⟨vs, H1, I1, r1, v, k, rfl, ⟨k0, k1⟩, q⟩ := q
  obtain ⟨u, w, rfl, ru, ⟨t2, rfl⟩⟩ := vals2 r1
  rcases q with ⟨l, xs, rfl, hq, q⟩ | ⟨z, rfl, q⟩
  · cases ru
    obtain ⟨ys, rv, pt, _⟩ := I1.tuple hq
    refine enum_begins (begins_tuple l ys.toArray) pt (by omega) (by omega) fun h2 he hi _ kp => wpAny_pyIter_enum he ?_
    have ne : l ≠ s1.heap.objs.size := by
      obtain ⟨_, e, _⟩ := pt
      exact Nat.ne_of_lt (Heap.lt_size e)
    exact en_pie I1 he kp ⟨_, hi, rfl, rfl⟩ (dra_tup ne) q
  · obtain ⟨t, rfl⟩ := ru
    exact enum_begins (begins_text z t) trivial (by omega) (by omega) fun h2 he hi _ kp => wpAny_pyIter_enum he (en_pie I1 he kp ⟨_, hi, rfl, rfl⟩ dra_txt q)
theorem si_enumK {b : Expr} {cb : CE} (hm : X.mg "enumerate" = none) (ha : SE T X ex W a ca) (hb : SE T X ex W b cb) (hg : Gl X "enumerate" := by rfl) (hs : starEach [a, b] X.env = (false, eval a X.env) :: starEach [b] X.env := by rfl) (hpl : (backTo pos (starEach [b] X.env)).any (·.1) = false := by rfl)
    (hs2 : starEach [b] X.env = (false, eval b X.env) :: starEach [] X.env := by rfl) : SI T X ex W (.Tuple elts kk tpos) (.Call (.Name "enumerate" p) [a, b] [] pos) (.enumK ca cb) :=
  ⟨(pi_en2 hg hm (pa_cons ha.pe (pa_cons hb.pe pa_nil hs2) hs) hs hpl).imp fun σ H R h => by
    obtain ⟨μ, r, s, R0, L, h⟩ := h
    refine ⟨μ, r, s, R0, L, h.bind.map fun μ1 H1 s1 x le1 R1 h1 v hv => ?_⟩
    refine ⟨μ1, r, s1, R1, L.mono le1, h1.bind.map fun μ2 H2 s2 y le2 R2 h2 w hw => ?_⟩
    cases hw with
    | int k =>
      cases hv with
      | tup q1 q2 =>
        simp only at h2
        split at h2
        · rename_i hk
          exact ⟨_, k, rfl, hk, .inl ⟨_, _, rfl, (le2.tup _ _ q1).sq, h2.ok R2 _ (wk_en (fun μ H le => (le.tup _ _ (le2.tup _ _ q1)).sq) (q2.mono le2))⟩⟩
        · exact h2.elim
      | str z =>
        simp only at h2
        split at h2
        · rename_i hk
          exact ⟨_, k, rfl, hk, .inr ⟨z, rfl, h2.ok R2 _ (wk_en (fun _ _ _ => trivial) (signs_vr _))⟩⟩
        · exact h2.elim
      | _ => exact h2.elim
    | _ => cases hv <;> exact h2.elim⟩
end
end Ip
end PtIpEnum
section PtIpStmt2
set_option Elab.async false
set_option linter.all false
set_option maxRecDepth 100000
namespace Ip
open PySem PySem.Spec PyProof.Rows L2

section
variable {T : Tb} {X : Cx} {ex : Option (Addr × Nat)} {W : WX} {a b c e tg : Expr} {ca cb cc ce : CE} {pos : Pos} {es rest : List Expr} {ct : CT} {ci : CI} {st : Stmt} {sts sts2 : List Stmt} {cs : CS} {css css2 : CSs}

theorem sss_nil : SSs T X ex W [] .nil := ⟨pss_nil.imp fun D σ H h => by
  obtain ⟨μ, r, s, R, L, h⟩ := h
  exact h μ H σ Le.refl R L⟩
theorem sss_cons (h1 : SS T X ex W st cs) (h2 : SSs T X ex W sts css) : SSs T X ex W (st :: sts) (.cons cs css) := ⟨(pss_cons h1.ps h2.ps).imp fun D σ H h => by
  obtain ⟨μ, r, s, R, L, h⟩ := h
  refine ⟨μ, r, s, R, L, ?_⟩
  simp only [evSs] at h
  cases hm : evS T.call T.G T.sub cs r s with
  | nx r1 s1 =>
    rw [hm] at h
    exact fun μ' H' σ' le R' L' => ⟨μ', r1, s1, R', L', GoS.later (o := evSs T.call T.G T.sub css r1 s1) h le⟩
  | rt v s1 => rw [hm] at h; exact h
  | bk r1 s1 => rw [hm] at h; exact h
  | ct r1 s1 => rw [hm] at h; exact h
  | exc c r1 s1 => rw [hm] at h; exact h
  | stuck => rw [hm] at h; exact h⟩
theorem ss_asg (he : SE T X ex W e ce) (hg : SG T X ex tg ct) (hs : swapsWithSole [tg] e pos.line X.env = pure false := by rfl) (hw : swappedStores [tg] e X.env = pure none := by rfl)
    (h1 : (assignEach [tg] X.env).map (·.2) = [assign tg X.env] := by rfl) : SS T X ex W (.Assign [tg] e pos) (.asg ct ce) := ⟨(ps_asg he.pe hg.pg hs hw h1).imp fun D σ H h => by
  obtain ⟨μ, r, s, R, L, h⟩ := h
  refine ⟨μ, r, s, R, L, ?_⟩
  simp only [evS] at h
  cases hm : evE T.call T.G T.sub ce r s with
  | ok v s1 =>
    rw [hm] at h
    simp only [Res.out] at h
    intro μ1 H1 le1 R1 x hx
    refine ⟨μ1, r, s1, v, R1, L.mono le1, hx, ?_⟩
    cases hn : evT T.call T.G T.sub ct v r s1 with
    | ok r2 s2 =>
      rw [hn] at h
      exact fun μ2 H2 le2 R2 σ2 L2 => h μ2 H2 σ2 (le1.trans le2) R2 L2
    | exc c s2 => exact absurd hn (evT_noexc _ _ _ _ _ _)
    | stuck => rw [hn] at h; exact h
  | exc c s1 =>
    rw [hm] at h
    exact fun μ' H' le R' => h μ' H' σ le R' (L.mono le)
  | stuck => rw [hm] at h; exact h⟩
theorem ss_par {i j : Nat} {x y : Str} {px py pt : Pos} {kt k2 : Nat} {pt2 : Pos} (hc : X.calm = true) (hN : X.N.Nodup) (ha : SE T X ex W a ca) (hb : SE T X ex W b cb) (hi : X.N[i]? = some x := by rfl) (hj : X.N[j]? = some y := by rfl) (hij : i ≠ j := by decide)
    (hx : X.env.scope.names.lookup x = some .local := by rfl) (hy : X.env.scope.names.lookup y = some .local := by rfl) (hst : starEach [a, b] X.env = (false, eval a X.env) :: starEach [b] X.env := by rfl) (hst2 : starEach [b] X.env = (false, eval b X.env) :: starEach [] X.env := by rfl)
    (hw : swappedStores [.Tuple [.Name x px, .Name y py] kt pt] (.Tuple [a, b] k2 pt2) X.env = pure (some [x, y]) := by rfl)
    (hs : swapsWithSole [.Tuple [.Name x px, .Name y py] kt pt] (.Tuple [a, b] k2 pt2) pos.line X.env = pure false := by rfl) :
    SS T X ex W (.Assign [.Tuple [.Name x px, .Name y py] kt pt] (.Tuple [a, b] k2 pt2) pos) (.par i j ca cb) := ⟨(ps_par hc hN hi hj hij hx hy (pa_cons ha.pe (pa_cons hb.pe pa_nil hst2) hst) hw hs).imp fun D σ H h => by
  obtain ⟨μ, r, s, R, L, h⟩ := h
  refine ⟨μ, r, s, R, L, ?_⟩
  simp only [evS] at h
  cases hm : evE T.call T.G T.sub ca r s with
  | ok v s1 =>
    rw [hm] at h
    simp only [Res.out] at h
    intro μ1 H1 le1 R1 x1 hx1
    refine ⟨μ1, r, s1, R1, L.mono le1, ?_⟩
    cases hn : evE T.call T.G T.sub cb r s1 with
    | ok w s2 =>
      rw [hn] at h
      simp only at h
      split at h
      · exact fun μ2 H2 le2 R2 y1 hy1 => ⟨x1, y1, rfl, h μ2 H2 _ (le1.trans le2) R2 ((((L.mono le1).mono le2).set (hx1.mono le2)).set hy1)⟩
      · exact h.elim
    | exc c s2 =>
      rw [hn] at h
      exact fun μ' H' le R' => h μ' H' σ (le1.trans le) R' ((L.mono le1).mono le)
    | stuck => rw [hn] at h; exact h
  | exc c s1 =>
    rw [hm] at h
    exact fun μ' H' le R' => h μ' H' σ le R' (L.mono le)
  | stuck => rw [hm] at h; exact h⟩
/-! ### op= of ints -/
def rA (K : PySem.W.Frag) (op : BOp) : R2 := fun x y H Q => ∃ μ s d e Wn, Rel K μ H s ∧ VR K μ H x d ∧ VR K μ H y e ∧ Go K μ H (augV op d e s) Wn (fun μ' H' _ z => ∀ v, VR K μ' H' v z → Q v H')
theorem iop_sound (op : BOp) (ho : op = .add ∨ op = .sub) : PIp X (bopOf op) (rA X.K op) := by
  intro pins s σ H x y v u Q I rx ry h
  obtain ⟨μ, s0, d, e, Wn, R, hx, hy, h⟩ := h
  rcases ho with rfl | rfl
  · cases hx with
    | int i =>
      cases hy with
      | int j => exact iop_add pins s σ H _ _ v u Q I rx ry ⟨i, j, rfl, rfl, h.ok R _ (.int _)⟩
      | _ => exact h.elim
    | str i =>
      cases hy with
      | str j =>
        simp only [augV] at h
        split at h
        · rename_i hm
          exact iop_add_str pins s σ H _ _ v u Q I rx ry ⟨i, j, rfl, rfl, hm, h.ok R _ (.str _)⟩
        · exact h.elim
      | _ => exact h.elim
    | _ => cases hy <;> exact h.elim
  · cases hx with
    | int i =>
      cases hy with
      | int j => exact iop_sub pins s σ H _ _ v u Q I rx ry ⟨i, j, rfl, rfl, h.ok R _ (.int _)⟩
      | _ => exact h.elim
    | _ => cases hy <;> exact h.elim
theorem ss_aug (i : Nat) (op : BOp) {x : Str} {pos' : Pos} (hN : X.N.Nodup) (ho : op = .add ∨ op = .sub) (he : SE T X ex W e ce) (hi : X.N[i]? = some x := by rfl) (hx : L2.Loc X.env.scope x := by first | exact Or.inl rfl | exact Or.inr rfl)
    (hf : X.fn x = true ∨ X.env.scope.names.lookup x = some .local := by first | exact .inl rfl | exact .inr rfl) : SS T X ex W (.AugAssign (.Name x pos') (bopOf op) e pos) (.aug i op ce) := ⟨(ps_aug hN hi hx he.pe (iop_sound op ho) hf).imp fun D σ H h => by
  obtain ⟨μ, r, s, R, L, h⟩ := h
  simp only [evS] at h
  cases hr : r[i]? with
  | none => rw [hr] at h; exact h.elim
  | some o =>
    rw [hr] at h
    cases o with
    | none => exact h.elim
    | some d =>
      rcases L.at_ i d hr with ⟨v, h1, h2⟩ | ⟨_, c, h1, _⟩
      · refine ⟨v, h1, μ, r, s, R, L, ?_⟩
        have h' : GoS T X.K ex W μ H ((evE T.call T.G T.sub ce r s).out r fun y s => (augV op d y s).out r fun z s => .nx (r.set i (some z)) s) D := by
          cases h2 <;> exact h
        clear h
        cases hm : evE T.call T.G T.sub ce r s with
        | ok y s1 =>
          rw [hm] at h'
          simp only [Res.out] at h'
          intro μ1 H1 le1 R1 w hw
          refine ⟨μ1, s1, d, y, fun _ _ => False, R1, h2.mono le1, hw, ?_⟩
          cases hn : augV op d y s1 with
          | ok z s2 =>
            rw [hn] at h'
            exact fun μ2 H2 le2 R2 u hu => h' μ2 H2 _ (le1.trans le2) R2 (((L.mono le1).mono le2).set hu)
          | exc c s2 =>
            exfalso
            unfold augV at hn
            split at hn <;> (try split at hn) <;> cases hn
          | stuck => rw [hn] at h'; exact h'
        | exc c s1 =>
          rw [hm] at h'
          exact fun μ' H' le R' => h' μ' H' σ le R' (L.mono le)
        | stuck => rw [hm] at h'; exact h'
      · subst h1
        exact h.elim⟩
theorem ss_if (hc : ST T X ex W c cc) (ha : SSs T X ex W sts css) (hb : SSs T X ex W sts2 css2) : SS T X ex W (.If c sts sts2 pos) (.ife cc css css2) := ⟨(ps_if hc.pt ha.ps hb.ps).imp fun D σ H h => by
  obtain ⟨μ, r, s, R, L, h⟩ := h
  refine ⟨μ, r, s, R, L, ?_⟩
  simp only [evS] at h
  cases hm : evE T.call T.G T.sub cc r s with
  | ok v s1 =>
    rw [hm] at h
    simp only [Res.out, Res.bind] at h ⊢
    cases ht : truth v s1 with
    | ok k s2 =>
      rw [ht] at h
      intro μ1 H1 le1 R1
      cases k with
      | true => exact ⟨μ1, r, s2, R1, L.mono le1, GoS.later (o := evSs T.call T.G T.sub css r s2) h le1⟩
      | false => exact ⟨μ1, r, s2, R1, L.mono le1, GoS.later (o := evSs T.call T.G T.sub css2 r s2) h le1⟩
    | exc c s2 => exact absurd ht truth_noexc
    | stuck => rw [ht] at h; exact h.elim
  | exc c s1 =>
    rw [hm] at h
    exact fun μ' H' le R' => h μ' H' σ le R' (L.mono le)
  | stuck => rw [hm] at h; exact h⟩
theorem ss_ret (he : SE T X ex W e ce) : SS T X ex W (.Return (some e) pos) (.ret ce) := ⟨(ps_ret he.pe).imp fun D σ H h => by
  obtain ⟨μ, r, s, R, L, h⟩ := h
  refine ⟨μ, r, s, R, L, ?_⟩
  simp only [evS] at h
  cases hm : evE T.call T.G T.sub ce r s with
  | ok v s1 =>
    rw [hm] at h
    exact fun μ' H' le R' u hu => h μ' H' u le R' hu
  | exc c s1 =>
    rw [hm] at h
    exact fun μ' H' le R' => h μ' H' σ le R' (L.mono le)
  | stuck => rw [hm] at h; exact h⟩
theorem ss_retN : SS T X ex W (.Return none pos) .retN := ⟨ps_retN.imp fun D σ H h => by
  obtain ⟨μ, r, s, R, L, h⟩ := h
  exact h μ H .non Le.refl R .non⟩
theorem ss_drop (he : SE T X ex W e ce) (hs : swapsWith e none pos.line X.env = pure false := by rfl) : SS T X ex W (.Expr e pos) (.drop ce) := ⟨(ps_expr he.pe hs).imp fun D σ H h => by
  obtain ⟨μ, r, s, R, L, h⟩ := h
  refine ⟨μ, r, s, R, L, ?_⟩
  simp only [evS] at h
  cases hm : evE T.call T.G T.sub ce r s with
  | ok v s1 =>
    rw [hm] at h
    exact fun μ' H' le R' u hu => h μ' H' σ le R' (L.mono le)
  | exc c s1 =>
    rw [hm] at h
    exact fun μ' H' le R' => h μ' H' σ le R' (L.mono le)
  | stuck => rw [hm] at h; exact h⟩
theorem ss_pass : SS T X ex W (.Pass pos) .pass := ⟨ps_pass.imp fun D σ H h => by
  obtain ⟨μ, r, s, R, L, h⟩ := h
  exact h μ H σ Le.refl R L⟩
theorem ss_brk : SS T X ex W (.Break pos) .brk := ⟨ps_break.imp fun D σ H h => by
  obtain ⟨μ, r, s, R, L, h⟩ := h
  exact h μ H σ Le.refl R L⟩
theorem ss_cont : SS T X ex W (.Continue pos) .cont := ⟨ps_continue.imp fun D σ H h => by
  obtain ⟨μ, r, s, R, L, h⟩ := h
  exact h μ H σ Le.refl R L⟩

/-! ### loops -/
theorem for_sound {J : It} {f : Src} {ds : List DV} {μ0 : List Addr} {H0 : Hp} {g : TG} {tb : TS} {D : Ends} {body : DV → Loc → Store → Out} {σ : L2.St} {r : Loc} {s : Store} (K : PySem.W.Frag) (wk : Wk K J f ds μ0 H0)
    (hb : ∀ (D' : Ends) (μ : List Addr) (H : Hp) (σ : L2.St) (r : Loc) (s : Store) (x : V) (d : DV), Rel K μ H s → LR K ex μ H σ r → VR K μ H x d → GoS T K ex W μ H (body d r s) D' → g x σ H fun σ2 H2 => tb D' σ2 H2)
    (R : Rel K μ0 H0 s) (L : LR K ex μ0 H0 σ r) (h : GoS T K ex W μ0 H0 (forL f body ds r s) D) :
    ∃ Wv : Nat → Nat → L2.St → Hp → Prop, (∃ m, Wv 0 m σ H0) ∧ ∀ i m σ H, Wv i m σ H →
      (J.stop i H ∧ D.nx σ H) ∨ (J.go i H ∧ ∃ N : L2.St → Hp → Prop, (∀ σ' H', N σ' H' → ∃ m', m' < m ∧ Wv (i + 1) m' σ' H') ∧ ∀ x H', J.yld i H x H' → g x σ H' fun σ2 H2 => tb { D with nx := N, ct := N, bk := D.nx } σ2 H2) := by
  refine ⟨fun i m σ H => m = ds.length - i ∧ i ≤ ds.length ∧ ∃ μ r s, Le K μ0 H0 μ H ∧ Rel K μ H s ∧ LR K ex μ H σ r ∧ GoS T K ex W μ H (forL f body (ds.drop i) r s) D, ⟨_, rfl, Nat.zero_le _, μ0, r, s, Le.refl, R, L, h⟩, ?_⟩
  rintro i m σ H ⟨rfl, hi, μ, r, s, le, R, L, h⟩
  by_cases hlt : i < ds.length
  · refine .inr ?_
    have hd : ds[i]? = some ds[i] := List.getElem?_eq_getElem hlt
    rw [List.drop_eq_getElem_cons hlt] at h
    simp only [forL] at h
    split at h
    · rename_i hf
      obtain ⟨g1, g2⟩ := wk.go i _ μ H s le R hf hd
      refine ⟨g1, fun σ' H' => ∃ μ r s, Le K μ0 H0 μ H' ∧ Rel K μ H' s ∧ LR K ex μ H' σ' r ∧ GoS T K ex W μ H' (forL f body (ds.drop (i + 1)) r s) D, fun σ' H' hN => ⟨_, by omega, rfl, hlt, hN⟩, fun x H' hy => ?_⟩
      obtain ⟨l2, R2, rx⟩ := g2 x H' hy
      refine hb _ μ H' σ r s x _ R2 (L.mono l2) rx ?_
      cases hm : body ds[i] r s with
      | nx r1 s1 =>
        rw [hm] at h
        exact fun μ' H2 σ' le' R' L' => ⟨μ', r1, s1, (le.trans l2).trans le', R', L', GoS.later (o := forL f body (ds.drop (i + 1)) r1 s1) h (l2.trans le')⟩
      | ct r1 s1 =>
        rw [hm] at h
        exact fun μ' H2 σ' le' R' L' => ⟨μ', r1, s1, (le.trans l2).trans le', R', L', GoS.later (o := forL f body (ds.drop (i + 1)) r1 s1) h (l2.trans le')⟩
      | bk r1 s1 =>
        rw [hm] at h
        exact GoS.later (o := .nx r1 s1) h l2
      | rt v s1 =>
        rw [hm] at h
        exact GoS.later (o := .rt v s1) h l2
      | exc c r1 s1 =>
        rw [hm] at h
        exact GoS.later (o := .exc c r1 s1) h l2
      | stuck => rw [hm] at h; exact h
    · exact h.elim
  · refine .inl ?_
    have e : i = ds.length := by omega
    subst e
    rw [List.drop_length] at h
    simp only [forL] at h
    split at h
    · rename_i hf
      exact ⟨wk.stop _ μ H s le R hf (Nat.le_refl _), h μ H σ Le.refl R L⟩
    · exact h.elim
theorem ss_for {iter : Expr} (hp : PassesOwn (model X.prog X.w) X.A X.env X.xe) (hc : X.calm = true) (hi : SI T X ex W tg iter ci) (hg : SG T X ex tg ct) (hb : SSs T X ex W sts css)
    (hs : ∀ x, foldedSetIterable iter X.env x = pure x := by intro _; rfl) : SS T X ex W (.For tg iter sts [] pos) (.for_ ct ci css) := ⟨(ps_for hp hc hi.pi hg.pg hb.ps hs).imp fun D σ H h => by
  obtain ⟨μ, r, s, R, L, h⟩ := h
  simp only [evS] at h
  refine ⟨μ, r, s, R, L, ?_⟩
  cases hm : evI T.call T.G T.sub ci r s with
  | ok q s1 =>
    rw [hm] at h
    intro μ1 H1 le1 R1 J wk
    refine for_sound (T := T) (ex := ex) (W := W) X.K wk (fun D' μ H σ r s x d R L hx h => ?_) R1 (L.mono le1) (GoS.later h le1)
    refine ⟨μ, r, s, d, R, L, hx, ?_⟩
    cases hn : evT T.call T.G T.sub ct d r s with
    | ok r2 s2 =>
      rw [hn] at h
      exact fun μ2 H2 le2 R2 σ2 L2 => ⟨μ2, r2, s2, R2, L2, GoS.later (o := evSs T.call T.G T.sub css r2 s2) h le2⟩
    | exc c s2 => exact absurd hn (evT_noexc _ _ _ _ _ _)
    | stuck => rw [hn] at h; exact h
  | exc c s1 =>
    rw [hm] at h
    exact fun μ' H' le R' => h μ' H' σ le R' (L.mono le)
  | stuck => rw [hm] at h; exact h⟩
/-! ### through a dict -/
theorem wk_keys {K : PySem.W.Frag} {a : Addr} {o : Obj} {ws : List (Key × V)} {ks : List (Key × DV)} {μ0 : List Addr} {H0 : Hp} (h : H0 a = some (.frz o (.dK ws))) (hk : ws.map (·.1) = ks.map (·.1)) : Wk K (Itk a o ws) .free (ks.map fun z => keyD z.1) μ0 H0 where
  go := fun i d μ H s le R hf hd => by
    have e : (ws.map (·.1))[i]? = (ks.map (·.1))[i]? := by rw [hk]
    rw [List.getElem?_map, List.getElem?_map] at e
    rw [List.getElem?_map] at hd
    cases hz : ks[i]? with
    | none => rw [hz] at hd; cases hd
    | some z =>
      rw [hz] at hd e
      cases hd
      cases hw : ws[i]? with
      | none => rw [hw] at e; cases e
      | some w =>
        rw [hw] at e
        have e := Option.some.inj e
        refine ⟨⟨le.frz _ _ _ h, (List.getElem?_eq_some_iff.mp hw).1⟩, fun x H' hy => ?_⟩
        obtain ⟨rfl, k, v, q, rfl⟩ := hy
        rw [hw] at q
        cases q
        refine ⟨Le.refl, R, ?_⟩
        have e : k = z.1 := e
        show VR K μ H' (kV k) (keyD z.1)
        rw [← e]
        cases k with
        | inl i => exact .int i
        | inr x => exact .str x
  stop := fun i μ H s le R hf hd => by
    have n := congrArg List.length hk
    rw [List.length_map, List.length_map] at n
    rw [List.length_map, ← n] at hd
    exact ⟨le.frz _ _ _ h, hd⟩
/-- what follows a walk through a locked dict -/
theorem unlock_sound {K : PySem.W.Frag} {μ : List Addr} {H : Hp} {l : Nat} {a : Addr} {ob : Obj} {ws : List (Key × V)} {o : Out} {D : Ends} (hm : μ[l]? = some a) (hH : H a = some (.dK ws)) (h : GoS T K ex W μ H (o.unlock l) D) :
    GoS T K ex W μ (L2.upd H a (.frz ob (.dK ws))) o ⟨fun σ' H' => H' a = some (.frz ob (.dK ws)) ∧ D.nx σ' (L2.upd H' a (.dK ws)), fun v H' => H' a = some (.frz ob (.dK ws)) ∧ D.rt v (L2.upd H' a (.dK ws)), fun σ' H' => H' a = some (.frz ob (.dK ws)) ∧ D.bk σ' (L2.upd H' a (.dK ws)), fun σ' H' => H' a = some (.frz ob (.dK ws)) ∧ D.ct σ' (L2.upd H' a (.dK ws))⟩ := by
  have up : ∀ μ' H', Le K μ (L2.upd H a (.frz ob (.dK ws))) μ' H' → H' a = some (.frz ob (.dK ws)) ∧ Le K μ H μ' (L2.upd H' a (.dK ws)) ∧ LeW K μ' H' μ' (L2.upd H' a (.dK ws)) := fun μ' H' le => by
    have q := le.frz _ _ _ (upd_same (H := H) (o := .frz ob (.dK ws)))
    have w : LeW K μ' H' μ' (L2.upd H' a (.dK ws)) := le_setW q trivial
    refine ⟨q, ⟨⟨le.pre, fun x xs t => w.tup x xs (le.tup x xs (t.setU hH trivial))⟩, fun x o2 u z => ?_⟩, w⟩
    have ne : x ≠ a := ne_of z hH fun e => nomatch e
    rw [upd_ne ne]
    exact le.frz x o2 u (by rw [upd_ne ne]; exact z)
  have rel : ∀ μ' H' s' k2, Le K μ (L2.upd H a (.frz ob (.dK ws))) μ' H' → Rel K μ' H' s' → s'[l]? = some (.fdct k2) → Rel K μ' (L2.upd H' a (.dK ws)) (s'.set l (.dct k2)) := fun μ' H' s' k2 le R hs => by
    obtain ⟨q, _, w⟩ := up μ' H' le
    have hm' := le.pre _ _ hm
    obtain ⟨o2, w2, e1, e2, e3, e4⟩ := R.at_ l a _ hm' hs
    rw [q] at e1
    cases e1
    exact R.setC hm' hs trivial trivial ⟨ws, upd_same, e2, e3.monoW w, e4⟩
  cases o with
  | nx r s' =>
    simp only [Out.unlock] at h
    split at h
    · rename_i k2 hs
      exact fun μ' H' σ' le R L => ⟨(up μ' H' le).1, h μ' _ σ' (up μ' H' le).2.1 (rel μ' H' s' k2 le R hs) (L.monoW (up μ' H' le).2.2)⟩
    · exact h.elim
  | rt v s' =>
    simp only [Out.unlock] at h
    split at h
    · rename_i k2 hs
      exact fun μ' H' u le R r => ⟨(up μ' H' le).1, h μ' _ u (up μ' H' le).2.1 (rel μ' H' s' k2 le R hs) (r.monoW (up μ' H' le).2.2)⟩
    · exact h.elim
  | _ => exact h.elim
theorem ss_forD (i : Nat) {x : Str} {p : Pos} (hp : PassesOwn (model X.prog X.w) X.A X.env X.xe) (hc : X.calm = true) (hg : SG T X ex tg ct) (hb : SSs T X ex W sts css) (hN : X.N[i]? = some x := by rfl)
    (hv : Vis X.env.scope x := by first | exact Or.inl rfl | exact Or.inr (Or.inl rfl) | exact Or.inr (Or.inr rfl)) (hd : (x == ("__debug__" : Str)) = false := by decide) (hcd : (x == ("__classdict__" : Str)) = false := by decide)
    (hs : ∀ y, foldedSetIterable (.Name x p) X.env y = pure y := by intro _; rfl) : SS T X ex W (.For tg (.Name x p) sts [] pos) (.forD ct i css) := ⟨(ps_lock (ps_for hp hc (pi_keys (pe_var hN hv hd hcd)) hg.pg hb.ps hs)).imp fun D σ H h => by
  obtain ⟨μ, r, s, R, L, h⟩ := h
  simp only [evS] at h
  cases hr : r[i]? with
  | none => rw [hr] at h; exact h.elim
  | some q =>
    rw [hr] at h
    cases q with
    | none => exact h.elim
    | some d =>
      cases d with
      | ref l =>
        simp only at h
        cases hc0 : s[l]? with
        | none => rw [hc0] at h; exact h.elim
        | some c =>
          rw [hc0] at h
          cases c with
          | dct ks =>
            simp only at h
            rcases L.at_ i _ hr with ⟨v, h1, h2⟩ | ⟨_, _, h1, _⟩
            · cases h2 with
              | @ref _ a hm =>
                obtain ⟨ws, d0, k1, k2, k3⟩ := R.at_ _ _ _ hm hc0
                refine ⟨a, .dK ws, d0, trivial, fun ob => ?_⟩
                have w : LeW X.K μ H μ (L2.upd H a (.frz ob (.dK ws))) := le_setW d0 trivial
                have R2 := R.setC (w := .frz ob (.dK ws)) hm hc0 trivial trivial (c' := .fdct ks) ⟨ob, ws, upd_same, k1, k2.monoW w, k3⟩
                refine ⟨_, h1, a, ob, rfl, .inl ⟨ws, upd_same, ?_⟩⟩
                refine for_sound (T := T) (ex := ex) (W := W) X.K (wk_keys upd_same k1) (fun D' μ H σ r s x d R L hx h => ?_) R2 (L.monoW w) (unlock_sound hm d0 h)
                refine ⟨μ, r, s, d, R, L, hx, ?_⟩
                cases hn : evT T.call T.G T.sub ct d r s with
                | ok r2 s2 =>
                  rw [hn] at h
                  exact fun μ2 H2 le2 R2 σ2 L2 => ⟨μ2, r2, s2, R2, L2, GoS.later (o := evSs T.call T.G T.sub css r2 s2) h le2⟩
                | exc c s2 => exact absurd hn (evT_noexc _ _ _ _ _ _)
                | stuck => rw [hn] at h; exact h
            · cases h1
          | _ => exact h.elim
      | _ => exact h.elim⟩
theorem ss_while (hp : PassesOwn (model X.prog X.w) X.A X.env X.xe) (hc : ST T X ex W c cc) (hb : SSs T X ex W sts css) : SS T X ex W (.While c sts [] pos) (.while_ cc css) := ⟨(ps_while hp hc.pt hb.ps).imp fun D σ H h => by
  obtain ⟨μ, r, s, R, L, h⟩ := h
  simp only [evS] at h
  refine ⟨fun m σ H => ∃ μ r s, Rel X.K μ H s ∧ LR X.K ex μ H σ r ∧ GoS T X.K ex W μ H (whileL (fun r s => (evE T.call T.G T.sub cc r s).bind fun x s => truth x s) (fun r s => evSs T.call T.G T.sub css r s) m r s) D, ⟨turns, μ, r, s, R, L, h⟩, ?_⟩
  rintro m σ H ⟨μ, r, s, R, L, h⟩
  cases m with
  | zero => exact h.elim
  | succ m =>
    refine ⟨μ, r, s, R, L, ?_⟩
    simp only [whileL] at h
    cases hm : (evE T.call T.G T.sub cc r s).bind fun x s => truth x s with
    | ok k s1 =>
      rw [hm] at h
      simp only [Res.out] at h
      intro μ1 H1 le1 R1
      cases k with
      | true =>
        refine ⟨fun σ' H' => ∃ μ r s, Rel X.K μ H' s ∧ LR X.K ex μ H' σ' r ∧ GoS T X.K ex W μ H' (whileL (fun r s => (evE T.call T.G T.sub cc r s).bind fun x s => truth x s) (fun r s => evSs T.call T.G T.sub css r s) m r s) D, fun σ' H' hN => ⟨m, Nat.lt_succ_self m, hN⟩, μ1, r, s1, R1, L.mono le1, ?_⟩
        simp only [cond] at h
        cases hn : evSs T.call T.G T.sub css r s1 with
        | nx r2 s2 =>
          rw [hn] at h
          exact fun μ2 H2 σ2 le2 R2 L2 => ⟨μ2, r2, s2, R2, L2, GoS.later (o := whileL _ _ m r2 s2) h (le1.trans le2)⟩
        | ct r2 s2 =>
          rw [hn] at h
          exact fun μ2 H2 σ2 le2 R2 L2 => ⟨μ2, r2, s2, R2, L2, GoS.later (o := whileL _ _ m r2 s2) h (le1.trans le2)⟩
        | bk r2 s2 =>
          rw [hn] at h
          exact GoS.later (o := .nx r2 s2) h le1
        | rt v s2 =>
          rw [hn] at h
          exact GoS.later (o := .rt v s2) h le1
        | exc c r2 s2 =>
          rw [hn] at h
          exact GoS.later (o := .exc c r2 s2) h le1
        | stuck => rw [hn] at h; exact h
      | false =>
        simp only [cond] at h ⊢
        exact h μ1 H1 σ le1 R1 (L.mono le1)
    | exc c s1 =>
      rw [hm] at h
      exact fun μ' H' le R' => h μ' H' σ le R' (L.mono le)
    | stuck => rw [hm] at h; exact h⟩
end

/-! ### defs -/
theorem VRs.start {K : PySem.W.Frag} {μ : List Addr} {H : Hp} {vs : List V} {ds : List DV} {N : List Str} (h : VRs K μ H vs ds) (hl : ds.length ≤ N.length) : LR K none μ H (L2.start N vs) (Ip.start N.length ds) := by
  have e := h.length
  refine ⟨?_, fun i d hd => .inl ?_⟩
  · unfold L2.start Ip.start
    rw [List.length_append, List.length_append, List.length_map, List.length_map, List.length_replicate, List.length_replicate, e]
  · unfold Ip.start at hd
    unfold L2.start
    rw [List.getElem?_append] at hd ⊢
    rw [List.length_map] at hd ⊢
    rw [e]
    split at hd
    · rename_i hi
      rw [if_pos hi]
      rw [List.getElem?_map] at hd ⊢
      cases hc : ds[i]? with
      | none => rw [hc] at hd; cases hd
      | some d' =>
        rw [hc] at hd
        cases hd
        obtain ⟨v, hv, rv⟩ := h.get hc
        exact ⟨v, by rw [hv]; rfl, rv⟩
    · rw [List.getElem?_replicate] at hd
      split at hd <;> cases hd
/-- the def number f by its body -/
theorem fn_ok {P : Program} {w : World} {K : PySem.W.Frag} {mg : Str → Option Value} {base : Heap} {x : Str} {st : Stmt} {ad : Addr} {fd : FuncData} {N ps : List Str} {k f : Nat} {D : Nat → Option Def} {G : Nat → Option DV} {sub : Nat → Nat → Bool} {cls : Nat → Option Addr} {body : CSs}
    (F : Fun K x x st ad fd) (S : FnScope N ps (defScope st)) (hd : D f = some ⟨N.length, ps.length, body⟩) (hle : ps.length ≤ N.length)
    (hbody : ∀ (cdv : Value) (A : Around) (outer : List Env) (s : Shared) (H : Hp) (E : XK), Room k (A.deeper (envOfC x (defScope st) s.heap.objs.size ad cdv)) →
      SSs ⟨callAt D G sub k, G, sub, cls⟩ (cxOf (L2.CX P w) P w K mg base N x (defScope st) ad cdv A outer s H E) none (fun c d _ H => E c d H) (defBody st) body) :
    FnOk P w K mg base (L2.CX P w) (k + 1) ad fd ps (spC ⟨callAt D G sub (k + 1), G, sub, cls⟩ K f ps.length) := by
  refine F.okX S (fun vs H Q E h => ?_) (fun cdv A outer s H vs Q E hr h => ?_)
  · obtain ⟨μ, s0, ds, R, hv, hl, _⟩ := h
    rw [hv.length, hl]
  · obtain ⟨μ, s0, ds, R, hv, hl, h⟩ := h
    refine ⟨_, (hbody cdv A outer s H E hr).ps, μ, Ip.start N.length ds, s0, R, hv.start (by rw [hl]; exact hle), ?_⟩
    simp only [callAt, hd] at h
    rw [if_pos hl] at h
    unfold Out.fin at h
    cases hm : evSs (callAt D G sub k) G sub body (Ip.start N.length ds) s0 with
    | nx r1 s1 =>
      rw [hm] at h
      exact fun μ' H' σ' le R' L' => h μ' H' le R' _ .non
    | rt v s1 =>
      rw [hm] at h
      exact fun μ' H' u le R' hu => h μ' H' le R' u hu
    | bk r1 s1 => rw [hm] at h; exact h.elim
    | ct r1 s1 => rw [hm] at h; exact h.elim
    | exc c r1 s1 =>
      rw [hm] at h
      exact fun μ' H' σ' le R' L' => h μ' H' le R'
    | stuck => rw [hm] at h; exact h

/-! ### the law -/
theorem fn_zero {P : Program} {w : World} {K : PySem.W.Frag} {mg : Str → Option Value} {base : Heap} {CX : CXT} {ad : Addr} {fd : FuncData} {ps : List Str} {f np : Nat} {D : Nat → Option Def} {G : Nat → Option DV} {sub : Nat → Nat → Bool} {cls : Nat → Option Addr} :
    FnOk P w K mg base CX 0 ad fd ps (spC ⟨callAt D G sub 0, G, sub, cls⟩ K f np) :=
  ⟨fun vs H Q E ⟨_, _, _, _, _, _, h⟩ => h.elim, fun _ _ _ _ _ _ _ _ _ _ _ _ _ ⟨_, _, _, _, _, _, h⟩ => h.elim⟩
theorem ints_vrs {K : PySem.W.Frag} {μ : List Addr} {H : Hp} : ∀ ns : List Int, VRs K μ H (ns.map V.int) (ns.map DV.int)
  | [] => .nil
  | n :: ns => .cons (.int n) (ints_vrs ns)
/-- the law's promise from the small machine's run -/
theorem law_sp {K : PySem.W.Frag} {H : Hp} {a : Addr} {ns : List Int} {T : Tb} {f : Nat} (hl : ns.length ≤ 63) (ho : Only H) (h : SqL K H a (ns.map V.int))
    (run : ∃ s', T.call f [.ref 0] [.frz (ns.map DV.int)] = .ok (.bl true) s') : spC T K f 1 [.ref a] H (fun v _ => v = .bl true) fun _ _ _ => False := by
  obtain ⟨s', run⟩ := run
  refine ⟨[a], [.frz (ns.map DV.int)], [.ref 0], ⟨rfl, fun n m b xs ys h1 h2 h3 h4 t1 t2 => ?_, fun n b c h1 h2 => ?_⟩, .cons (.ref rfl) .nil, rfl, ?_⟩
  · cases n with
    | zero => cases h3; exact t1.elim
    | succ n => simp at h3
  · cases n with
    | zero =>
      cases h1
      cases h2
      refine ⟨ns.map V.int, ?_, ints_vrs ns, by rw [List.length_map]; exact Nat.le_trans hl (by decide)⟩
      rcases h with (h | ⟨o, h⟩) | h
      · rcases ho a with q | ⟨o, xs, q⟩
        · rw [q] at h; cases h
        · rw [q] at h; cases h
      · exact .inl ⟨o, h⟩
      · exact .inr h
    | succ n => simp at h2
  · rw [run]
    exact fun μ' H' le R v hv => by
      cases hv
      rfl
theorem cx_none {P : Program} {w : World} {H : Hp} {s : Shared} {e : Value} {s' : Shared} (h : L2.CX P w [] H s (fun _ _ _ => False) e s') : False := by
  obtain ⟨_, _, _, _, _, _, _, _, _, _, _, _, z⟩ := h
  exact z
end Ip
end PtIpStmt2
section PtIpEqs
set_option Elab.async false
set_option linter.all false
set_option maxRecDepth 100000
set_option autoImplicit true
/-! the equations of the small machine, one a construct -/
namespace Ip
open PySem
theorem nr {α : Type} {a b : α} (h : a = b) : a = b := by
  cases h
  exact Eq.refl a
theorem qE_slot {call : Nat → List DV → Store → Res DV} {G : Nat → Option DV} {sub : Nat → Nat → Bool} {i r s} : evE call G sub (.slot i) r s = match r[i]? with
      | some (some (.exc _)) => .stuck
      | some (some v) => .ok v s
      | _ => .stuck := nr rfl
theorem qE_isx {call : Nat → List DV → Store → Res DV} {G : Nat → Option DV} {sub : Nat → Nat → Bool} {i c r s} : evE call G sub (.isx i c) r s = match r[i]? with
      | some (some (.exc d)) => match c with
        | .own c => .ok (.bl (sub d c)) s
        | .ty n => if n = "ValueError" then .ok (.bl true) s else .stuck
      | _ => .stuck := nr rfl
theorem qE_k {call : Nat → List DV → Store → Res DV} {G : Nat → Option DV} {sub : Nat → Nat → Bool} {c u0 s} : evE call G sub (.k c) u0 s = .ok c.dv s := nr rfl
theorem qE_glob {call : Nat → List DV → Store → Res DV} {G : Nat → Option DV} {sub : Nat → Nat → Bool} {g u0 s} : evE call G sub (.glob g) u0 s = match G g with
      | some v => .ok v s
      | none => .stuck := nr rfl
theorem qE_bin {call : Nat → List DV → Store → Res DV} {G : Nat → Option DV} {sub : Nat → Nat → Bool} {op a b r s} : evE call G sub (.bin op a b) r s = (evE call G sub a r s).bind fun x s => (evE call G sub b r s).bind fun y s => binV op x y s := nr rfl
theorem qE_neg {call : Nat → List DV → Store → Res DV} {G : Nat → Option DV} {sub : Nat → Nat → Bool} {a r s} : evE call G sub (.neg a) r s = (evE call G sub a r s).bind fun x s => match x with
      | .int i => .ok (.int (-i)) s
      | _ => .stuck := nr rfl
theorem qE_not {call : Nat → List DV → Store → Res DV} {G : Nat → Option DV} {sub : Nat → Nat → Bool} {a r s} : evE call G sub (.not a) r s = (evE call G sub a r s).bind fun x s => (truth x s).bind fun b s => .ok (.bl (!b)) s := nr rfl
theorem qE_and {call : Nat → List DV → Store → Res DV} {G : Nat → Option DV} {sub : Nat → Nat → Bool} {a b r s} : evE call G sub (.and a b) r s = (evE call G sub a r s).bind fun x s => (truth x s).bind fun c s => cond c (evE call G sub b r s) (.ok x s) := nr rfl
theorem qE_or {call : Nat → List DV → Store → Res DV} {G : Nat → Option DV} {sub : Nat → Nat → Bool} {a b r s} : evE call G sub (.or a b) r s = (evE call G sub a r s).bind fun x s => (truth x s).bind fun c s => cond c (.ok x s) (evE call G sub b r s) := nr rfl
theorem qE_cmp {call : Nat → List DV → Store → Res DV} {G : Nat → Option DV} {sub : Nat → Nat → Bool} {op a b r s} : evE call G sub (.cmp op a b) r s = (evE call G sub a r s).bind fun x s => (evE call G sub b r s).bind fun y s => (cmpV op x y s).bind fun c s => .ok (.bl c) s := nr rfl
theorem qE_chain {call : Nat → List DV → Store → Res DV} {G : Nat → Option DV} {sub : Nat → Nat → Bool} {op op2 a b c r s} : evE call G sub (.chain op op2 a b c) r s = (evE call G sub a r s).bind fun x s => (evE call G sub b r s).bind fun y s => (cmpV op x y s).bind fun k s =>
        cond k ((evE call G sub c r s).bind fun z s => (cmpV op2 y z s).bind fun k s => .ok (.bl k) s) (.ok (.bl false) s) := nr rfl
theorem qE_ife {call : Nat → List DV → Store → Res DV} {G : Nat → Option DV} {sub : Nat → Nat → Bool} {t a b r s} : evE call G sub (.ife t a b) r s = (evE call G sub t r s).bind fun x s => (truth x s).bind fun c s => cond c (evE call G sub a r s) (evE call G sub b r s) := nr rfl
theorem qE_ix {call : Nat → List DV → Store → Res DV} {G : Nat → Option DV} {sub : Nat → Nat → Bool} {a b r s} : evE call G sub (.ix a b) r s = (evE call G sub a r s).bind fun x s => (evE call G sub b r s).bind fun y s => itemV x y s := nr rfl
theorem qE_slc {call : Nat → List DV → Store → Res DV} {G : Nat → Option DV} {sub : Nat → Nat → Bool} {a lo hi r s} : evE call G sub (.slc a lo hi) r s = (evE call G sub a r s).bind fun x s => (evO call G sub lo r s).bind fun l s => (evO call G sub hi r s).bind fun h s => sliceV x l h s := nr rfl
theorem qE_rev {call : Nat → List DV → Store → Res DV} {G : Nat → Option DV} {sub : Nat → Nat → Bool} {a r s} : evE call G sub (.rev a) r s = (evE call G sub a r s).bind fun x s => match x with
      | .ref l => match cellL s l with
        | some xs => .ok (.ref s.length) (s ++ [.lst xs.reverse])
        | none => .stuck
      | _ => .stuck := nr rfl
theorem qE_tup {call : Nat → List DV → Store → Res DV} {G : Nat → Option DV} {sub : Nat → Nat → Bool} {es r s} : evE call G sub (.tup es) r s = (evEs call G sub es r s).bind fun xs s => if xs.length ≤ sizeLine then .ok (.tup xs) s else .stuck := nr rfl
theorem qE_lst {call : Nat → List DV → Store → Res DV} {G : Nat → Option DV} {sub : Nat → Nat → Bool} {es r s} : evE call G sub (.lst es) r s = (evEs call G sub es r s).bind fun xs s => if xs.length ≤ sizeLine then .ok (.ref s.length) (s ++ [.lst xs]) else .stuck := nr rfl
theorem qE_call {call : Nat → List DV → Store → Res DV} {G : Nat → Option DV} {sub : Nat → Nat → Bool} {f es r s} : evE call G sub (.call f es) r s = (evEs call G sub es r s).bind fun xs s => call f xs s := nr rfl
theorem qE_bi {call : Nat → List DV → Store → Res DV} {G : Nat → Option DV} {sub : Nat → Nat → Bool} {b es r s} : evE call G sub (.bi b es) r s = (evEs call G sub es r s).bind fun xs s => biV b xs s := nr rfl
theorem qE_isi {call : Nat → List DV → Store → Res DV} {G : Nat → Option DV} {sub : Nat → Nat → Bool} {a cs r s} : evE call G sub (.isi a cs) r s = (evE call G sub a r s).bind fun x s => match cs with
      | [c] => match clIs x s c with
        | some b => .ok (.bl b) s
        | none => .stuck
      | _ => .stuck := nr rfl
theorem qE_meth {call : Nat → List DV → Store → Res DV} {G : Nat → Option DV} {sub : Nat → Nat → Bool} {m o es r s} : evE call G sub (.meth m o es) r s = (evE call G sub o r s).bind fun x s => match x with
      | .ref l => match cellL s l with
        | some _ => (evEs call G sub es r s).bind fun xs s => mtV m (.ref l) xs s
        | none => .stuck
      | _ => .stuck := nr rfl
theorem qE_lc {call : Nat → List DV → Store → Res DV} {G : Nat → Option DV} {sub : Nat → Nat → Bool} {t it ifs e own r s} : evE call G sub (.lc t it ifs e own) r s = (evI call G sub it r s).bind fun q s => lcL s.length q.1
        (fun x s => (evT call G sub t x (wipe r own) s).bind fun r s => (evAll call G sub ifs r s).bind fun b s => cond b ((evE call G sub e r s).bind fun v s => .ok (some v) s) (.ok none s)) q.2 (s ++ [.lst []]) := nr rfl
theorem qE_smeth {call : Nat → List DV → Store → Res DV} {G : Nat → Option DV} {sub : Nat → Nat → Bool} {m o es r s} : evE call G sub (.smeth m o es) r s = (evE call G sub o r s).bind fun x s => match x with
      | .str z => (evEs call G sub es r s).bind fun xs s => smV m z xs s
      | _ => .stuck := nr rfl
theorem qE_get2 {call : Nat → List DV → Store → Res DV} {G : Nat → Option DV} {sub : Nat → Nat → Bool} {d k x r s} : evE call G sub (.get2 d k x) r s = (evE call G sub d r s).bind fun y s => match y with
      | .ref l => optR (dctAt s l) fun _ => (evE call G sub k r s).bind fun z s => (evE call G sub x r s).bind fun w s => optR (dctAt s l) fun kvs => optR (key? z) fun k => .ok ((getD kvs k).getD w) s
      | _ => .stuck := nr rfl
theorem qE_setd {call : Nat → List DV → Store → Res DV} {G : Nat → Option DV} {sub : Nat → Nat → Bool} {d k x r s} : evE call G sub (.setd d k x) r s = (evE call G sub d r s).bind fun y s => match y with
      | .ref l => optR (dctAt s l) fun _ => (evE call G sub k r s).bind fun z s => (evE call G sub x r s).bind fun w s => match s[l]? with
        | some (.dct kvs) => optR (key? z) fun k => if kvs.length < sizeLine then match getD kvs k with
            | some v => .ok v s
            | none => .ok w (s.set l (.dct (putD kvs k w)))
          else .stuck
        | _ => .stuck
      | _ => .stuck := nr rfl
theorem qE_dnew {call : Nat → List DV → Store → Res DV} {G : Nat → Option DV} {sub : Nat → Nat → Bool} {u0 s} : evE call G sub (.dnew) u0 s = .ok (.ref s.length) (s ++ [.dct []]) := nr rfl
theorem qEs_nil {call : Nat → List DV → Store → Res DV} {G : Nat → Option DV} {sub : Nat → Nat → Bool} {u0 s} : evEs call G sub (.nil) u0 s = .ok [] s := nr rfl
theorem qEs_cons {call : Nat → List DV → Store → Res DV} {G : Nat → Option DV} {sub : Nat → Nat → Bool} {e es r s} : evEs call G sub (.cons e es) r s = (evE call G sub e r s).bind fun x s => (evEs call G sub es r s).bind fun xs s => .ok (x :: xs) s := nr rfl
theorem qAll_nil {call : Nat → List DV → Store → Res DV} {G : Nat → Option DV} {sub : Nat → Nat → Bool} {u0 s} : evAll call G sub (.nil) u0 s = .ok true s := nr rfl
theorem qAll_cons {call : Nat → List DV → Store → Res DV} {G : Nat → Option DV} {sub : Nat → Nat → Bool} {e es r s} : evAll call G sub (.cons e es) r s = (evE call G sub e r s).bind fun x s => (truth x s).bind fun c s => cond c (evAll call G sub es r s) (.ok false s) := nr rfl
theorem qO_no {call : Nat → List DV → Store → Res DV} {G : Nat → Option DV} {sub : Nat → Nat → Bool} {u0 s} : evO call G sub (.no) u0 s = .ok none s := nr rfl
theorem qO_some {call : Nat → List DV → Store → Res DV} {G : Nat → Option DV} {sub : Nat → Nat → Bool} {e r s} : evO call G sub (.some e) r s = (evE call G sub e r s).bind fun x s => match x with
      | .int i => .ok (some i) s
      | _ => .stuck := nr rfl
theorem qI_seq {call : Nat → List DV → Store → Res DV} {G : Nat → Option DV} {sub : Nat → Nat → Bool} {e r s} : evI call G sub (.seq e) r s = (evE call G sub e r s).bind fun x s => match x with
      | .tup xs => .ok (.free, xs) s
      | .ref l => match cellL s l with
        | some xs => .ok (.cell l xs, xs) s
        | none => .stuck
      | .str z => .ok (.free, z.cps.toList.map fun c => .str ⟨#[c]⟩) s
      | _ => .stuck := nr rfl
theorem qI_range1 {call : Nat → List DV → Store → Res DV} {G : Nat → Option DV} {sub : Nat → Nat → Bool} {a r s} : evI call G sub (.range1 a) r s = (evE call G sub a r s).bind fun x s => match x with
      | .int n => if -(2 ^ 62) ≤ n ∧ n < 2 ^ 62 then .ok (.free, (List.range n.toNat).map fun (i : Nat) => .int (0 + (i : Int))) s else .stuck
      | _ => .stuck := nr rfl
theorem qI_range2 {call : Nat → List DV → Store → Res DV} {G : Nat → Option DV} {sub : Nat → Nat → Bool} {a b r s} : evI call G sub (.range2 a b) r s = (evE call G sub a r s).bind fun x s => (evE call G sub b r s).bind fun y s => match x, y with
      | .int m, .int n => if (-(2 ^ 62) ≤ m ∧ m < 2 ^ 62) ∧ -(2 ^ 62) ≤ n ∧ n < 2 ^ 62 then .ok (.free, (List.range (n - m).toNat).map fun (i : Nat) => .int (m + (i : Int))) s else .stuck
      | _, _ => .stuck := nr rfl
theorem qI_range3 {call : Nat → List DV → Store → Res DV} {G : Nat → Option DV} {sub : Nat → Nat → Bool} {a b c r s} : evI call G sub (.range3 a b c) r s = (evE call G sub a r s).bind fun x s => (evE call G sub b r s).bind fun y s => (evE call G sub c r s).bind fun z s => match x, y, z with
      | .int m, .int n, .int d => if ((-(2 ^ 62) ≤ m ∧ m < 2 ^ 62) ∧ -(2 ^ 62) ≤ n ∧ n < 2 ^ 62) ∧ d = -1 then .ok (.free, (List.range (m - n).toNat).map fun (i : Nat) => .int (m + (i : Int) * -1)) s else .stuck
      | _, _, _ => .stuck := nr rfl
theorem qI_zip {call : Nat → List DV → Store → Res DV} {G : Nat → Option DV} {sub : Nat → Nat → Bool} {a b r s} : evI call G sub (.zip a b) r s = (evE call G sub a r s).bind fun x s => (evE call G sub b r s).bind fun y s => match x, y with
      | .tup xs, .tup ys => .ok (.free, (xs.zip ys).map fun p => .tup [p.1, p.2]) s
      | _, _ => .stuck := nr rfl
theorem qI_enumK {call : Nat → List DV → Store → Res DV} {G : Nat → Option DV} {sub : Nat → Nat → Bool} {a k r s} : evI call G sub (.enumK a k) r s = (evE call G sub a r s).bind fun x s => (evE call G sub k r s).bind fun y s => match x, y with
      | .tup xs, .int k => if -(2 ^ 62) ≤ k ∧ k < 2 ^ 62 then .ok (.free, xs.mapIdx fun i x => .tup [.int (k + (i : Nat)), x]) s else .stuck
      | .str z, .int k => if -(2 ^ 62) ≤ k ∧ k < 2 ^ 62 then .ok (.free, (z.cps.toList.map fun c => DV.str ⟨#[c]⟩).mapIdx fun i x => .tup [.int (k + (i : Nat)), x]) s else .stuck
      | _, _ => .stuck := nr rfl
theorem qI_enum {call : Nat → List DV → Store → Res DV} {G : Nat → Option DV} {sub : Nat → Nat → Bool} {a r s} : evI call G sub (.enum a) r s = (evE call G sub a r s).bind fun x s => match x with
      | .tup xs => .ok (.free, xs.mapIdx fun i x => .tup [.int (0 + (i : Nat)), x]) s
      | .str z => .ok (.free, (z.cps.toList.map fun c => DV.str ⟨#[c]⟩).mapIdx fun i x => .tup [.int (0 + (i : Nat)), x]) s
      | _ => .stuck := nr rfl
theorem qI_rev {call : Nat → List DV → Store → Res DV} {G : Nat → Option DV} {sub : Nat → Nat → Bool} {a r s} : evI call G sub (.rev a) r s = (evE call G sub a r s).bind fun x s => match x with
      | .tup xs => .ok (.free, xs.reverse) s
      | _ => .stuck := nr rfl
theorem qT_name {call : Nat → List DV → Store → Res DV} {G : Nat → Option DV} {sub : Nat → Nat → Bool} {i v r s} : evT call G sub (.name i) v r s = if i < r.length then .ok (r.set i (some v)) s else .stuck := nr rfl
theorem qT_tup {call : Nat → List DV → Store → Res DV} {G : Nat → Option DV} {sub : Nat → Nat → Bool} {ts v r s} : evT call G sub (.tup ts) v r s = match v with
      | .tup xs => evTs call G sub ts xs r s
      | .ref l => match cellL s l with
        | some xs => evTs call G sub ts xs r s
        | none => .stuck
      | _ => .stuck := nr rfl
theorem qT_sub {call : Nat → List DV → Store → Res DV} {G : Nat → Option DV} {sub : Nat → Nat → Bool} {a b v r s} : evT call G sub (.sub a b) v r s = (evE call G sub a r s).quiet.bind fun x s => (evE call G sub b r s).quiet.bind fun y s => optR (setV x y v s) fun s => .ok r s := nr rfl
theorem qTs_nil {call : Nat → List DV → Store → Res DV} {G : Nat → Option DV} {sub : Nat → Nat → Bool} {xs r s} : evTs call G sub (.nil) xs r s = match xs with
      | [] => .ok r s
      | _ :: _ => .stuck := nr rfl
theorem qTs_cons {call : Nat → List DV → Store → Res DV} {G : Nat → Option DV} {sub : Nat → Nat → Bool} {t ts xs r s} : evTs call G sub (.cons t ts) xs r s = match xs with
      | x :: xs => (evT call G sub t x r s).bind fun r s => evTs call G sub ts xs r s
      | [] => .stuck := nr rfl
theorem qS_asg {call : Nat → List DV → Store → Res DV} {G : Nat → Option DV} {sub : Nat → Nat → Bool} {t e r s} : evS call G sub (.asg t e) r s = (evE call G sub e r s).out r fun v s => (evT call G sub t v r s).out r fun r s => .nx r s := nr rfl
theorem qS_par {call : Nat → List DV → Store → Res DV} {G : Nat → Option DV} {sub : Nat → Nat → Bool} {i j a b r s} : evS call G sub (.par i j a b) r s = (evE call G sub a r s).out r fun x s => (evE call G sub b r s).out r fun y s => if i < r.length ∧ j < r.length then .nx ((r.set i (some x)).set j (some y)) s else .stuck := nr rfl
theorem qS_aug {call : Nat → List DV → Store → Res DV} {G : Nat → Option DV} {sub : Nat → Nat → Bool} {i op e r s} : evS call G sub (.aug i op e) r s = match r[i]? with
      | some (some (.exc _)) => .stuck
      | some (some x) => (evE call G sub e r s).out r fun y s => (augV op x y s).out r fun z s => .nx (r.set i (some z)) s
      | _ => .stuck := nr rfl
theorem qS_ife {call : Nat → List DV → Store → Res DV} {G : Nat → Option DV} {sub : Nat → Nat → Bool} {c a b r s} : evS call G sub (.ife c a b) r s = (evE call G sub c r s).out r fun x s => (truth x s).out r fun c s => cond c (evSs call G sub a r s) (evSs call G sub b r s) := nr rfl
theorem qS_for {call : Nat → List DV → Store → Res DV} {G : Nat → Option DV} {sub : Nat → Nat → Bool} {t it b r s} : evS call G sub (.for_ t it b) r s = (evI call G sub it r s).out r fun q s => forL q.1 (fun x r s => (evT call G sub t x r s).out r fun r s => evSs call G sub b r s) q.2 r s := nr rfl
theorem qS_forD {call : Nat → List DV → Store → Res DV} {G : Nat → Option DV} {sub : Nat → Nat → Bool} {t i b r s} : evS call G sub (.forD t i b) r s = match r[i]? with
      | some (some (.ref l)) => match s[l]? with
        | some (.dct kvs) => (forL .free (fun x r s => (evT call G sub t x r s).out r fun r s => evSs call G sub b r s) (kvs.map fun kv => keyD kv.1) r (s.set l (.fdct kvs))).unlock l
        | _ => .stuck
      | _ => .stuck := nr rfl
theorem qS_while {call : Nat → List DV → Store → Res DV} {G : Nat → Option DV} {sub : Nat → Nat → Bool} {c b r s} : evS call G sub (.while_ c b) r s = whileL (fun r s => (evE call G sub c r s).bind fun x s => truth x s) (fun r s => evSs call G sub b r s) turns r s := nr rfl
theorem qS_ret {call : Nat → List DV → Store → Res DV} {G : Nat → Option DV} {sub : Nat → Nat → Bool} {e r s} : evS call G sub (.ret e) r s = (evE call G sub e r s).out r fun v s => .rt v s := nr rfl
theorem qS_retN {call : Nat → List DV → Store → Res DV} {G : Nat → Option DV} {sub : Nat → Nat → Bool} {u0 s} : evS call G sub (.retN) u0 s = .rt .non s := nr rfl
theorem qS_drop {call : Nat → List DV → Store → Res DV} {G : Nat → Option DV} {sub : Nat → Nat → Bool} {e r s} : evS call G sub (.drop e) r s = (evE call G sub e r s).out r fun _ s => .nx r s := nr rfl
theorem qS_pass {call : Nat → List DV → Store → Res DV} {G : Nat → Option DV} {sub : Nat → Nat → Bool} {r s} : evS call G sub (.pass) r s = .nx r s := nr rfl
theorem qS_brk {call : Nat → List DV → Store → Res DV} {G : Nat → Option DV} {sub : Nat → Nat → Bool} {r s} : evS call G sub (.brk) r s = .bk r s := nr rfl
theorem qS_cont {call : Nat → List DV → Store → Res DV} {G : Nat → Option DV} {sub : Nat → Nat → Bool} {r s} : evS call G sub (.cont) r s = .ct r s := nr rfl
theorem qS_raise {call : Nat → List DV → Store → Res DV} {G : Nat → Option DV} {sub : Nat → Nat → Bool} {c r s} : evS call G sub (.raise c) r s = .exc c r s := nr rfl
theorem qS_try {call : Nat → List DV → Store → Res DV} {G : Nat → Option DV} {sub : Nat → Nat → Bool} {b c i h r s} : evS call G sub (.try_ b c i h) r s = (evSs call G sub b r s).catch fun d r s => cond (sub d c) (match i with
        | none => (evSs call G sub h r s).hush
        | some i => (evSs call G sub h (r.set i (some (.exc d))) s).unset i) (.exc d r s) := nr rfl
theorem qS_pick {call : Nat → List DV → Store → Res DV} {G : Nat → Option DV} {sub : Nat → Nat → Bool} {i e kvs es r s} : evS call G sub (.pick i e kvs es) r s = (evE call G sub e r s).out r fun x s => match x with
      | .str z => match kvs.lookup z with
        | some f => if i < r.length then ((evEs call G sub es (r.set i none) s).bind fun xs s => call f xs s).out (r.set i none) fun v s => .rt v s else .stuck
        | none => .stuck
      | _ => .stuck := nr rfl
theorem qSs_nil {call : Nat → List DV → Store → Res DV} {G : Nat → Option DV} {sub : Nat → Nat → Bool} {r s} : evSs call G sub (.nil) r s = .nx r s := nr rfl
theorem qSs_cons {call : Nat → List DV → Store → Res DV} {G : Nat → Option DV} {sub : Nat → Nat → Bool} {st ss r s} : evSs call G sub (.cons st ss) r s = (evS call G sub st r s).then fun r s => evSs call G sub ss r s := nr rfl
end Ip
end PtIpEqs
section PtIpMath
set_option Elab.async false
set_option linter.all false
set_option maxRecDepth 100000
namespace Ip
open PySem
section
variable {α β : Type}
theorem bind_ok {a : α} {s : Store} {f : α → Store → Res β} : (Res.ok a s).bind f = f a s := rfl
theorem bind_exc {c : Nat} {s : Store} {f : α → Store → Res β} : (Res.exc c s : Res α).bind f = .exc c s := rfl
theorem out_ok {a : α} {s : Store} {r : Loc} {f : α → Store → Out} : (Res.ok a s).out r f = f a s := rfl
theorem out_exc {c : Nat} {s : Store} {r : Loc} {f : α → Store → Out} : (Res.exc c s : Res α).out r f = .exc c r s := rfl
theorem then_nx {r : Loc} {s : Store} {f : Loc → Store → Out} : (Out.nx r s).then f = f r s := rfl
theorem then_rt {v : DV} {s : Store} {f : Loc → Store → Out} : (Out.rt v s).then f = .rt v s := rfl
theorem then_exc {c : Nat} {r : Loc} {s : Store} {f : Loc → Store → Out} : (Out.exc c r s).then f = .exc c r s := rfl
theorem then_bk {r : Loc} {s : Store} {f : Loc → Store → Out} : (Out.bk r s).then f = .bk r s := rfl
theorem then_ct {r : Loc} {s : Store} {f : Loc → Store → Out} : (Out.ct r s).then f = .ct r s := rfl
end
/-! only the first place is looked into: what follows waits. A place on whose value a later place's type hangs is not looked into by simp without dsimp; so what waits is held by such a place. -/
def Hold {α : Type} (_ : α) : Type := Unit
def Hold2 {α β : Type} (_ : α) (_ : β) : Type := Unit
section
variable {α β : Type}
def bindK (m : Res α) (f : α → Store → Res β) (_ : Hold f) : Res β := m.bind f
def outK (m : Res α) (r : Loc) (f : α → Store → Out) (_ : Hold f) : Out := m.out r f
def thenK (m : Out) (f : Loc → Store → Out) (_ : Hold f) : Out := m.then f
def condK (c : Bool) (a b : α) (_ : Hold2 a b) : α := cond c a b
def optRK (o : Option α) (f : α → Res β) (_ : Hold f) : Res β := optR o f
noncomputable def forLK (f : Src) (b : DV → Loc → Store → Out) (l : List DV) (r : Loc) (s : Store) (_ : Hold b) : Out := forL f b l r s
noncomputable def lcLK (p : Nat) (f : Src) (b : DV → Store → Res (Option DV)) (l : List DV) (s : Store) (_ : Hold b) : Res DV := lcL p f b l s
noncomputable def whileLK (t : Loc → Store → Res Bool) (b : Loc → Store → Out) (n : Nat) (r : Loc) (s : Store) (_ : Hold2 t b) : Out := whileL t b n r s
def catchK (m : Out) (f : Nat → Loc → Store → Out) (_ : Hold f) : Out := m.catch f
theorem catch_K {m : Out} {f : Nat → Loc → Store → Out} : m.catch f = catchK m f () := nr rfl
theorem catchK_nx {r : Loc} {s : Store} {f : Nat → Loc → Store → Out} : catchK (.nx r s) f () = .nx r s := nr rfl
theorem catchK_rt {v : DV} {s : Store} {f : Nat → Loc → Store → Out} : catchK (.rt v s) f () = .rt v s := nr rfl
theorem catchK_exc {c : Nat} {r : Loc} {s : Store} {f : Nat → Loc → Store → Out} : catchK (.exc c r s) f () = f c r s := nr rfl
theorem unset_rt {v : DV} {s : Store} {i : Nat} : (Out.rt v s).unset i = .rt v s := nr rfl
theorem hush_rt {v : DV} {s : Store} : (Out.rt v s).hush = .rt v s := nr rfl
theorem hush_nx {r : Loc} {s : Store} : (Out.nx r s).hush = .nx r s := nr rfl
theorem hush_ct {r : Loc} {s : Store} : (Out.ct r s).hush = .ct r s := nr rfl
theorem bind_K {m : Res α} {f : α → Store → Res β} : m.bind f = bindK m f () := nr rfl
theorem out_K {m : Res α} {r : Loc} {f : α → Store → Out} : m.out r f = outK m r f () := nr rfl
theorem then_K {m : Out} {f : Loc → Store → Out} : m.then f = thenK m f () := nr rfl
theorem cond_K {c : Bool} {a b : α} : cond c a b = condK c a b () := nr rfl
theorem optR_K {o : Option α} {f : α → Res β} : optR o f = optRK o f () := nr rfl
theorem forL_K {f : Src} {b : DV → Loc → Store → Out} {l : List DV} {r : Loc} {s : Store} : forL f b l r s = forLK f b l r s () := nr rfl
theorem lcL_K {p : Nat} {f : Src} {b : DV → Store → Res (Option DV)} {l : List DV} {s : Store} : lcL p f b l s = lcLK p f b l s () := nr rfl
theorem whileL_K {t : Loc → Store → Res Bool} {b : Loc → Store → Out} {n : Nat} {r : Loc} {s : Store} : whileL t b n r s = whileLK t b n r s () := nr rfl
theorem bindK_ok {a : α} {s : Store} {f : α → Store → Res β} : bindK (.ok a s) f () = f a s := nr rfl
theorem outK_ok {a : α} {s : Store} {r : Loc} {f : α → Store → Out} : outK (.ok a s) r f () = f a s := nr rfl
theorem bindK_exc {c : Nat} {s : Store} {f : α → Store → Res β} : bindK (.exc c s) f () = .exc c s := nr rfl
theorem outK_exc {c : Nat} {s : Store} {r : Loc} {f : α → Store → Out} : outK (.exc c s) r f () = .exc c r s := nr rfl
theorem thenK_nx {r : Loc} {s : Store} {f : Loc → Store → Out} : thenK (.nx r s) f () = f r s := nr rfl
theorem thenK_rt {v : DV} {s : Store} {f : Loc → Store → Out} : thenK (.rt v s) f () = .rt v s := nr rfl
theorem thenK_exc {c : Nat} {r : Loc} {s : Store} {f : Loc → Store → Out} : thenK (.exc c r s) f () = .exc c r s := nr rfl
theorem thenK_bk {r : Loc} {s : Store} {f : Loc → Store → Out} : thenK (.bk r s) f () = .bk r s := nr rfl
theorem thenK_ct {r : Loc} {s : Store} {f : Loc → Store → Out} : thenK (.ct r s) f () = .ct r s := nr rfl
theorem condK_t {a b : α} : condK true a b () = a := nr rfl
theorem condK_f {a b : α} : condK false a b () = b := nr rfl
theorem optRK_some {a : α} {f : α → Res β} : optRK (some a) f () = f a := nr rfl
theorem cond_t {a b : α} : cond true a b = a := rfl
theorem cond_f {a b : α} : cond false a b = b := rfl
theorem optR_some {a : α} {f : α → Res β} : optR (some a) f = f a := rfl
theorem quiet_ok {a : α} {s : Store} : (Res.ok a s).quiet = .ok a s := rfl
end
theorem dv_int {i : Int} : (Kc.int i).dv = .int i := nr rfl
theorem dv_bl {b : Bool} : (Kc.bl b).dv = .bl b := nr rfl
theorem dv_str {x : Str} : (Kc.str x).dv = .str x := nr rfl
theorem dv_non : Kc.non.dv = .non := nr rfl
theorem fin_rt {v : DV} {s : Store} : (Out.rt v s).fin = .ok v s := rfl
theorem fin_nx {r : Loc} {s : Store} : (Out.nx r s).fin = .ok .non s := rfl
theorem fin_exc {c : Nat} {r : Loc} {s : Store} : (Out.exc c r s).fin = .exc c s := rfl
theorem itemV_ref {n : Nat} {i : Int} {s : Store} : itemV (.ref n) (.int i) s = optR (cellL s n) fun xs => optR (L2.atI xs i) fun v => .ok v s := rfl
theorem itemV_tup {xs : List DV} {i : Int} {s : Store} : itemV (.tup xs) (.int i) s = optR (L2.atI xs i) fun v => .ok v s := rfl
theorem at_0 {α : Type} {a : α} {l : List α} : L2.atI (a :: l) 0 = some a := by simp [L2.atI, L2.ixN]
theorem at_1 {α : Type} {a b : α} {l : List α} : L2.atI (a :: b :: l) 1 = some b := by
  have : (1 : Int) < ((a :: b :: l).length : Int) := by simp only [List.length_cons]; omega
  unfold L2.atI L2.ixN
  rw [if_pos (by decide), if_pos this]
  rfl
theorem at_2 {α : Type} {a b c : α} {l : List α} : L2.atI (a :: b :: c :: l) 2 = some c := by
  have : (2 : Int) < ((a :: b :: c :: l).length : Int) := by simp only [List.length_cons]; omega
  unfold L2.atI L2.ixN
  rw [if_pos (by decide), if_pos this]
  rfl
theorem at_3 {α : Type} {a b c d : α} {l : List α} : L2.atI (a :: b :: c :: d :: l) 3 = some d := by
  have : (3 : Int) < ((a :: b :: c :: d :: l).length : Int) := by simp only [List.length_cons]; omega
  unfold L2.atI L2.ixN
  rw [if_pos (by decide), if_pos this]
  rfl
theorem setV_4 {s : Store} {n : Nat} {a b c d v : DV} (h : s[n]? = some (.lst [a, b, c, d])) :
    setV (.ref n) (.int 1) v s = some (s.set n (.lst [a, v, c, d])) ∧ setV (.ref n) (.int 2) v s = some (s.set n (.lst [a, b, v, d])) ∧ setV (.ref n) (.int 3) v s = some (s.set n (.lst [a, b, c, v])) := by
  refine ⟨?_, ?_, ?_⟩ <;> simp only [setV, h] <;> rfl
theorem deq_int {i j : Int} : deq (.int i) (.int j) = (i == j) := rfl
theorem cmpable_int {i : Int} : cmpable (.int i) = true := rfl
theorem cmp_eq_int {i j : Int} {s : Store} : cmpV .eq (.int i) (.int j) s = .ok (i == j) s := rfl
theorem cmp_ne_int {i j : Int} {s : Store} : cmpV .ne (.int i) (.int j) s = .ok (!(i == j)) s := rfl
theorem cmp_lt_int {i j : Int} {s : Store} : cmpV .lt (.int i) (.int j) s = .ok (decide (i < j)) s := rfl
theorem cmp_le_int {i j : Int} {s : Store} : cmpV .le (.int i) (.int j) s = .ok (decide (i ≤ j)) s := rfl
theorem cmp_gt_int {i j : Int} {s : Store} : cmpV .gt (.int i) (.int j) s = .ok (decide (j < i)) s := rfl
theorem cmp_ge_int {i j : Int} {s : Store} : cmpV .ge (.int i) (.int j) s = .ok (decide (j ≤ i)) s := rfl
theorem truth_bl {b : Bool} {s : Store} : truth (.bl b) s = .ok b s := rfl
theorem bin_add {i j : Int} {s : Store} : binV .add (.int i) (.int j) s = .ok (.int (i + j)) s := rfl
theorem bin_sub {i j : Int} {s : Store} : binV .sub (.int i) (.int j) s = .ok (.int (i - j)) s := rfl
theorem bin_mul {i j : Int} {s : Store} (h : mulOk i j = true) : binV .mul (.int i) (.int j) s = .ok (.int (i * j)) s := by
  simp only [binV, binI, h, if_true]
theorem mulOk_r {i j : Int} (h : j.natAbs < 2 ^ 64) : mulOk i j = true := by
  unfold mulOk
  rw [Bool.or_eq_true, Bool.or_eq_true]
  exact .inl (.inr (decide_eq_true h))
theorem mulOk_l {i j : Int} (h : i.natAbs < 2 ^ 64) : mulOk i j = true := by
  unfold mulOk
  rw [Bool.or_eq_true, Bool.or_eq_true]
  exact .inl (.inl (decide_eq_true h))
theorem bin_mod {i j : Int} {s : Store} (h : 0 < j) : binV .mod (.int i) (.int j) s = .ok (.int (i % j)) s := by
  simp only [binV, binI, if_pos h]
theorem bin_fdiv {i j : Int} {s : Store} (h : 0 < j) (h2 : j.natAbs.log2 < 9000) : binV .fdiv (.int i) (.int j) s = .ok (.int (i / j)) s := by
  simp only [binV, binI, if_pos (show 0 < j ∧ j.natAbs.log2 < 9000 from ⟨h, h2⟩)]
theorem bi_int_int {i : Int} {s : Store} : biV .int [.int i] s = .ok (.int i) s := rfl
theorem bi_abs_int {i : Int} {s : Store} : biV .abs [.int i] s = .ok (.int (if i < 0 then -i else i)) s := rfl
theorem cellL_of {s : Store} {n : Nat} {xs : List DV} (h : s[n]? = some (.lst xs)) : cellL s n = some xs := by
  unfold cellL
  rw [h]
theorem cellF_of {s : Store} {n : Nat} {xs : List DV} (h : s[n]? = some (.frz xs)) : cellL s n = some xs := by
  unfold cellL
  rw [h]
theorem item_ref {s : Store} {n : Nat} {xs : List DV} {i : Int} {v : DV} (h : cellL s n = some xs) (hv : L2.atI xs i = some v) : itemV (.ref n) (.int i) s = .ok v s := by
  simp only [itemV, h, hv, optR]
theorem item_tup {s : Store} {xs : List DV} {i : Int} {v : DV} (hv : L2.atI xs i = some v) : itemV (.tup xs) (.int i) s = .ok v s := by
  simp only [itemV, hv, optR]
theorem len_ref {s : Store} {n : Nat} {xs : List DV} (h : cellL s n = some xs) : biV .len [.ref n] s = .ok (.int xs.length) s := by
  simp only [biV, h]
theorem setV_ref {s : Store} {n : Nat} {xs : List DV} {i : Int} {j : Nat} {v : DV} (h : s[n]? = some (.lst xs)) (hj : L2.ixN xs.length i = some j) : setV (.ref n) (.int i) v s = some (s.set n (.lst (xs.set j v))) := by
  simp only [setV, h, hj]
theorem list_ref {s : Store} {n : Nat} {xs : List DV} (h : cellL s n = some xs) : biV .list [.ref n] s = .ok (.ref s.length) (s ++ [.lst xs]) := by
  simp only [biV, h]
theorem tuple_ref {s : Store} {n : Nat} {xs : List DV} (h : cellL s n = some xs) : biV .tuple [.ref n] s = .ok (.tup xs) s := by
  simp only [biV, h]
theorem lt_of_get {α : Type} {l : List α} {n : Nat} {a : α} (h : l[n]? = some a) : n < l.length := (List.getElem?_eq_some_iff.mp h).1
theorem get_set {α : Type} {l : List α} {n : Nat} {a b : α} (h : l[n]? = some a) : (l.set n b)[n]? = some b := List.getElem?_set_self (lt_of_get h)
theorem get_set_ne {α : Type} {l : List α} {n m : Nat} {b : α} (h : n ≠ m) : (l.set n b)[m]? = l[m]? := List.getElem?_set_ne h

/-! ### loops by a word -/
/-- a for whose turns keep a word: every turn goes on -/
theorem forL_word {f : Src} {body : DV → Loc → Store → Out} (Pv : List DV → Loc → Store → Prop) : ∀ {all done rest : List DV} {r : Loc} {s : Store}, all = done ++ rest → Pv done r s → (∀ d r s, Pv d r s → f.ok s) →
    (∀ d x e r s, all = d ++ x :: e → Pv d r s → ∃ r' s', (body x r s = .nx r' s' ∨ body x r s = .ct r' s') ∧ Pv (d ++ [x]) r' s') → ∃ r' s', forL f body rest r s = .nx r' s' ∧ Pv all r' s'
  | all, done, [], r, s, e, h, hf, hs => by
    rw [List.append_nil] at e
    subst e
    refine ⟨r, s, ?_, h⟩
    simp only [forL]
    rw [if_pos (hf _ _ _ h)]
  | all, done, x :: rest, r, s, e, h, hf, hs => by
    obtain ⟨r1, s1, h1, h2⟩ := hs done x rest r s e h
    obtain ⟨r2, s2, h3, h4⟩ := forL_word Pv (rest := rest) (r := r1) (s := s1) (by rw [e, List.append_assoc]; rfl) h2 hf hs
    refine ⟨r2, s2, ?_, h4⟩
    simp only [forL]
    rw [if_pos (hf _ _ _ h)]
    rcases h1 with h1 | h1 <;> rw [h1] <;> exact h3
theorem for_word {f : Src} {body : DV → Loc → Store → Out} {all : List DV} {r : Loc} {s : Store} (Pv : List DV → Loc → Store → Prop) (h0 : Pv [] r s) (hf : ∀ d r s, Pv d r s → f.ok s)
    (hs : ∀ d x e r s, all = d ++ x :: e → Pv d r s → ∃ r' s', (body x r s = .nx r' s' ∨ body x r s = .ct r' s') ∧ Pv (d ++ [x]) r' s') : ∃ r' s', forL f body all r s = .nx r' s' ∧ Pv all r' s' :=
  forL_word Pv (done := []) rfl h0 hf hs
/-- a for that ends as told -/
theorem evS_for {call : Nat → List DV → Store → Res DV} {G : Nat → Option DV} {sub : Nat → Nat → Bool} {t : CT} {it : CI} {b : CSs} {r : Loc} {s s1 : Store} {f : Src} {xs : List DV} {o : Out}
    (hi : evI call G sub it r s = .ok (f, xs) s1) (h : forL f (fun x r s => (evT call G sub t x r s).out r fun r s => evSs call G sub b r s) xs r s1 = o) : evS call G sub (.for_ t it b) r s = o := by
  simp only [evS]
  rw [hi]
  exact h
/-! ### while, turn by turn -/
theorem while_go {t : Loc → Store → Res Bool} {b : Loc → Store → Out} {n : Nat} {r r' : Loc} {s s1 s' : Store} (h1 : t r s = .ok true s1) (h2 : b r s1 = .nx r' s') : whileL t b (n + 1) r s = whileL t b n r' s' := by
  simp only [whileL]
  rw [h1]
  simp only [Res.out, cond]
  rw [h2]
theorem while_end {t : Loc → Store → Res Bool} {b : Loc → Store → Out} {n : Nat} {r : Loc} {s s1 : Store} (h1 : t r s = .ok false s1) : whileL t b (n + 1) r s = .nx r s1 := by
  simp only [whileL]
  rw [h1]
  rfl
theorem len_tup {xs : List DV} {s : Store} : biV .len [.tup xs] s = .ok (.int xs.length) s := rfl
theorem abs_nat {i : Int} {s : Store} : biV .abs [.int i] s = .ok (.int (i.natAbs : Int)) s := by
  have : (if i < 0 then -i else i) = (i.natAbs : Int) := by split <;> omega
  show Res.ok (DV.int (if i < 0 then -i else i)) s = _
  rw [this]
end Ip
end PtIpMath
section PtIpExc
set_option Elab.async false
set_option linter.all false
set_option maxRecDepth 100000
/-! errors of the program's own classes: raise, try .. except X as e, isinstance of what was caught; ints by name -/
namespace Ip
open PySem PySem.Spec PyProof.Rows L2

/-- what the written part says of a class below ValueError -/
structure OwnC (K : PySem.W.Frag) (mg : Str → Option Value) (x : Str) (C : Addr) : Prop where
  g : mg x = some (.ref C)
  k : PySem.W.keepIn K (.ref C) = true
  e : PySem.W.excIn K C [.type "ValueError", .type "Exception", .type "BaseException", .type "object"] "ValueError.__new__" = true
  b : PySem.W.subIn K (.ref C) (.type "BaseException") = some true
  t : PySem.W.typeIn K (.ref C) = some (.type "type")
  v : PySem.W.subIn K (.ref C) (.type "ValueError") = some true
  i : ExcC K C
/-- all classes -/
structure ClsT (K : PySem.W.Frag) (mg : Str → Option Value) (sub : Nat → Nat → Bool) (cls : Nat → Option Addr) : Prop where
  own : ∀ c C, cls c = some C → ∃ x, OwnC K mg x C
  sb : ∀ c C e D, cls c = some C → cls e = some D → PySem.W.subIn K (.ref D) (.ref C) = some (sub e c)
  refl : ∀ c C, cls c = some C → sub c c = true
section
variable {K : PySem.W.Frag} {mg : Str → Option Value} {sub : Nat → Nat → Bool} {cls : Nat → Option Addr} {c e : Nat} {C D : Addr}
theorem ClsT.exm (M : ClsT K mg sub cls) (hc : cls c = some C) (he : cls e = some D) : PySem.W.exmOne K (.ref D) (.ref C) = some (sub e c) := by
  obtain ⟨x, O⟩ := M.own c C hc
  exact PySem.W.exm_ref O.b O.i.hd O.t (M.sb c C e D hc he)
theorem ClsT.kit (M : ClsT K mg sub cls) (hc : cls c = some C) (he : cls e = some D) : PySem.W.kitOne K (.ref D) (.ref C) = some (sub e c) := by
  obtain ⟨x, O⟩ := M.own c C hc
  have h := M.sb c C e D hc he
  by_cases q : D = C
  · subst q
    have h2 := M.sb c D c D hc hc
    rw [M.refl c D hc, h] at h2
    rw [h2]
    unfold PySem.W.kitOne
    rw [if_pos (beq_self_eq_true _)]
  · unfold PySem.W.kitOne
    rw [if_neg (fun z => q (Value.ref.inj (beq_iff_eq.mp z)))]
    obtain ⟨cd, hcd, _⟩ := PySem.W.any_some O.i.hd
    show (if ((PySem.W.clsIn K C).isSome && PySem.W.typeIn K (.ref C) == some (.type "type")) = true then PySem.W.subIn K (.ref D) (.ref C) else none) = some (sub e c)
    have e2 : ((PySem.W.clsIn K C).isSome && PySem.W.typeIn K (.ref C) == some (.type "type")) = true := by rw [hcd, O.t] <;> rfl
    rw [if_pos e2]
    exact h
theorem kit_meta : PySem.W.kitMeta "ValueError" = true := by decide +kernel
theorem ClsT.ve (M : ClsT K mg sub cls) (he : cls e = some D) : PySem.W.kitOne K (.ref D) (.type "ValueError") = some true := by
  obtain ⟨x, O⟩ := M.own e D he
  unfold PySem.W.kitOne
  have q : (Value.ref D == Value.type "ValueError") = false := Bool.eq_false_iff.mpr fun z => by
    have z := beq_iff_eq.mp z
    cases z
  rw [q, if_neg Bool.false_ne_true]
  show (if PySem.W.kitMeta "ValueError" = true then PySem.W.subIn K (.ref D) (.type "ValueError") else none) = some true
  rw [if_pos kit_meta]
  exact O.v
end

section
variable {T : Tb} {X : Cx} {ex : Option (Addr × Nat)} {W : WX} {a b : Expr} {pos : Pos} {ct : CT} {ci : CI} {st : Stmt} {sts : List Stmt} {cs : CS} {css : CSs}
theorem ss_raise (c : Nat) {C : Addr} {x m : Str} {j : Nat} {p p2 p3 : Pos} (hcls : T.cls c = some C) (O : OwnC X.K X.mg x C) (tk : Takes X W) (hc : X.calm = true := by rfl) (hg : Gl X x := by rfl) (hd : (x == ("__debug__" : Str)) = false := by decide) :
    SS T X ex W (.Raise (some (.Call (.Name x p) [.Constant (.str m) j p2] [] p3)) none pos) (.raise c) :=
  ⟨(ps_raise hc tk (pmk_own PySem.F.excBase_ValueError O.e O.g O.k (raises_own O.b O.t) hg hd)).imp fun D σ H h => by
    obtain ⟨μ, r, s, R, L, h⟩ := h
    exact h μ H σ Le.refl R L C hcls⟩
theorem LR.setx {K : PySem.W.Frag} {μ : List Addr} {H : Hp} {σ : L2.St} {r : Loc} {i e : Nat} {a : Addr} (h : LR K none μ H σ r) : LR K (some (a, e)) μ H (σ.set i (some (.ref a))) (r.set i (some (.exc e))) := by
  refine ⟨by rw [List.length_set, List.length_set]; exact h.len, fun j d hd => ?_⟩
  by_cases hij : i = j
  · subst hij
    have hlt : i < (r.set i (some (.exc e))).length := (List.getElem?_eq_some_iff.mp hd).1
    rw [List.length_set] at hlt
    rw [List.getElem?_set_self hlt] at hd
    cases hd
    exact .inr ⟨a, e, rfl, rfl, by rw [List.getElem?_set_self (by rw [← h.len]; exact hlt)]⟩
  · rw [List.getElem?_set_ne hij] at hd
    rw [List.getElem?_set_ne hij]
    rcases h.at_ j d hd with h | ⟨_, _, _, h2, _⟩
    · exact .inl h
    · cases h2
theorem LR.unx {K : PySem.W.Frag} {μ : List Addr} {H : Hp} {σ : L2.St} {r : Loc} {ex : Option (Addr × Nat)} (h : LR K ex μ H σ r) (hx : noX r = true) : LR K none μ H σ r := ⟨h.len, fun i d q => by
  rcases h.at_ i d q with h | ⟨a, c, h1, _, _⟩
  · exact .inl h
  · subst h1
    have := List.all_eq_true.mp hx _ (List.mem_of_getElem? q)
    cases this⟩
theorem ss_try_as (i c : Nat) {C : Addr} {x n : Str} {np p1 : Pos} {body suite : List Stmt} {b₀ : Stmt} {cb ch : CSs} (M : ClsT X.K X.mg T.sub T.cls) (hcls : T.cls c = some C) (O : OwnC X.K X.mg x C) (tk : Takes X W) (hN : X.N.Nodup)
    (hb : ∀ (W : WX) (pn : List (Addr × Obj)) (xe : Value → Shared → Prop), Takes (X.tr pn xe) W → PassesOwn (model X.prog X.w) X.A X.env xe → SSs T (X.tr pn xe) none W body cb)
    (hsu : ∀ (a : Addr) (oe : Obj) (D : Addr) (e : Nat) (pn : List (Addr × Obj)), T.cls e = some D → Zc (.ref D) none oe → (∃ vs, oe.data = .fields vs) → SSs T (X.suite a ((a, oe) :: pn)) (some (a, e)) (fun _ _ _ _ => False) (b₀ :: suite) ch)
    (hs : X.stack = X.env :: X.outer := by rfl) (hf : X.env.frame = some X.env.locals := by rfl) (hi : X.N[i]? = some n := by rfl) (hln : X.env.kindOf n = some .local := by rfl) (hg : Gl X x := by rfl) (hd : (x == ("__debug__" : Str)) = false := by decide) :
    SS T X none W (.Try body [.ExceptHandler (some (.Name x np)) (some n) (b₀ :: suite) p1] [] [] pos) (.try_ cb c (some i) ch) :=
  ⟨(ps_try_as (c := .ref C) (tb := fun W => tSs T X.K none W cb) (ts := fun a cls d D σ H => ∃ (e : Nat) (D' : Addr), cls = .ref D' ∧ d = none ∧ T.cls e = some D' ∧ tSs T X.K (some (a, e)) (fun _ _ _ _ => False) ch D σ H) hs hf hN hi hln ⟨hg, hd, .inl O.g⟩ tk
    (fun W pn xe tk hp => (hb W pn xe tk hp).ps)
    (fun a oe cls d pn hz hf => ⟨fun pins s σ H D I q => by
      obtain ⟨e, D', rfl, rfl, he, q⟩ := q
      exact (hsu a oe D' e pn he hz hf).ps.run pins s σ H D I q⟩)).imp fun D σ H h => by
    obtain ⟨μ, r, s, R, L, h⟩ := h
    refine ⟨μ, r, s, R, L, ?_⟩
    simp only [evS] at h
    cases hm : evSs T.call T.G T.sub cb r s with
    | nx r1 s1 => rw [hm] at h; exact h
    | rt v s1 => rw [hm] at h; exact h
    | bk r1 s1 => rw [hm] at h; exact h
    | ct r1 s1 => rw [hm] at h; exact h
    | stuck => rw [hm] at h; exact h
    | exc d r1 s1 =>
      rw [hm] at h
      intro μ' H' σ' le R' L' D' hD
      simp only [Out.catch] at h
      refine ⟨T.sub d c, M.exm hcls hD, fun hb a ha => ?_, fun hb => ?_⟩
      · rw [hb] at h
        refine ⟨d, D', rfl, rfl, hD, μ', _, s1, R', L'.setx, ?_⟩
        simp only [cond] at h
        cases hn : evSs T.call T.G T.sub ch (r1.set i (some (.exc d))) s1 with
        | nx r2 s2 =>
          rw [hn] at h
          simp only [Out.unset] at h
          split at h
          · rename_i hx
            exact fun μ2 H2 σ2 le2 R2 L2 => h μ2 H2 _ (le.trans le2) R2 (L2.del.unx hx)
          · exact h.elim
        | bk r2 s2 =>
          rw [hn] at h
          simp only [Out.unset] at h
          split at h
          · rename_i hx
            exact fun μ2 H2 σ2 le2 R2 L2 => h μ2 H2 _ (le.trans le2) R2 (L2.del.unx hx)
          · exact h.elim
        | ct r2 s2 =>
          rw [hn] at h
          simp only [Out.unset] at h
          split at h
          · rename_i hx
            exact fun μ2 H2 σ2 le2 R2 L2 => h μ2 H2 _ (le.trans le2) R2 (L2.del.unx hx)
          · exact h.elim
        | rt v s2 =>
          rw [hn] at h
          exact fun μ2 H2 u le2 R2 hu => h μ2 H2 u (le.trans le2) R2 hu
        | exc e r2 s2 => rw [hn] at h; exact h.elim
        | stuck => rw [hn] at h; exact h.elim
      · rw [hb] at h
        exact h μ' H' σ' le R' L' D' hD⟩
theorem ss_try_only (c : Nat) {C : Addr} {x : Str} {np p1 : Pos} {body suite : List Stmt} {b₀ : Stmt} {cb ch : CSs} (M : ClsT X.K X.mg T.sub T.cls) (hcls : T.cls c = some C) (O : OwnC X.K X.mg x C) (tk : Takes X W)
    (hb : ∀ (W : WX) (pn : List (Addr × Obj)) (xe : Value → Shared → Prop), Takes (X.tr pn xe) W → PassesOwn (model X.prog X.w) X.A X.env xe → SSs T (X.tr pn xe) none W body cb)
    (hsu : ∀ (a : Addr) (oe : Obj) (pn : List (Addr × Obj)), SSs T (X.suite a ((a, oe) :: pn)) none (fun _ _ _ _ => False) (b₀ :: suite) ch)
    (hs : X.stack = X.env :: X.outer := by rfl) (hf : X.env.frame = some X.env.locals := by rfl) (hg : Gl X x := by rfl) (hd : (x == ("__debug__" : Str)) = false := by decide) :
    SS T X none W (.Try body [.ExceptHandler (some (.Name x np)) none (b₀ :: suite) p1] [] [] pos) (.try_ cb c none ch) :=
  ⟨(ps_try_only (c := .ref C) (tb := fun W => tSs T X.K none W cb) (ts := fun a cls d D σ H => tSs T X.K none (fun _ _ _ _ => False) ch D σ H) hs hf ⟨hg, hd, .inl O.g⟩ tk
    (fun W pn xe tk hp => (hb W pn xe tk hp).ps)
    (fun a oe cls d pn hz hf => (hsu a oe pn).ps)).imp fun D σ H h => by
    obtain ⟨μ, r, s, R, L, h⟩ := h
    refine ⟨μ, r, s, R, L, ?_⟩
    simp only [evS] at h
    cases hm : evSs T.call T.G T.sub cb r s with
    | nx r1 s1 => rw [hm] at h; exact h
    | rt v s1 => rw [hm] at h; exact h
    | bk r1 s1 => rw [hm] at h; exact h
    | ct r1 s1 => rw [hm] at h; exact h
    | stuck => rw [hm] at h; exact h
    | exc d r1 s1 =>
      rw [hm] at h
      intro μ' H' σ' le R' L' D' hD
      simp only [Out.catch] at h
      refine ⟨T.sub d c, M.exm hcls hD, fun hb a ha => ?_, fun hb => ?_⟩
      · rw [hb] at h
        refine ⟨μ', r1, s1, R', L', ?_⟩
        simp only [cond] at h
        cases hn : evSs T.call T.G T.sub ch r1 s1 with
        | nx r2 s2 =>
          rw [hn] at h
          exact fun μ2 H2 σ2 le2 R2 L2 => h μ2 H2 _ (le.trans le2) R2 L2
        | bk r2 s2 =>
          rw [hn] at h
          exact fun μ2 H2 σ2 le2 R2 L2 => h μ2 H2 _ (le.trans le2) R2 L2
        | ct r2 s2 =>
          rw [hn] at h
          exact fun μ2 H2 σ2 le2 R2 L2 => h μ2 H2 _ (le.trans le2) R2 L2
        | rt v s2 =>
          rw [hn] at h
          exact fun μ2 H2 u le2 R2 hu => h μ2 H2 u (le.trans le2) R2 hu
        | exc e r2 s2 => rw [hn] at h; exact h.elim
        | stuck => rw [hn] at h; exact h.elim
      · rw [hb] at h
        exact h μ' H' σ' le R' L' D' hD⟩
/-! ### isinstance of what was caught -/
theorem se_isx (i c : Nat) {C D a : Addr} {e : Nat} {oe : Obj} {pn : List (Addr × Obj)} {x n : Str} {p p1 p2 : Pos} (M : ClsT X.K X.mg T.sub T.cls) (hcls : T.cls c = some C) (O : OwnC X.K X.mg x C) (he : T.cls e = some D) (hz : Zc (.ref D) none oe) (hf : ∃ vs, oe.data = .fields vs)
    (hm : X.mg "isinstance" = none) (hN : X.N[i]? = some n := by rfl) (hv : Vis X.env.scope n := by first | exact Or.inl rfl | exact Or.inr (Or.inl rfl) | exact Or.inr (Or.inr rfl)) (hd : (n == ("__debug__" : Str)) = false := by decide) (hcd : (n == ("__classdict__" : Str)) = false := by decide)
    (hg : Gl X "isinstance" := by rfl) (hg2 : Gl X x := by rfl) (hxd : (x == ("__debug__" : Str)) = false := by decide)
    (hst : starEach [.Name n p1, .Name x p2] X.env = (false, eval (.Name n p1) X.env) :: starEach [.Name x p2] X.env := by rfl) :
    SE T (X.suite a ((a, oe) :: pn)) (some (a, e)) W (.Call (.Name "isinstance" p) [.Name n p1, .Name x p2] [] pos) (.isx i (.own c)) := by
  obtain ⟨x', O'⟩ := M.own e D he
  refine ⟨(pe_callB (X := X.suite a ((a, oe) :: pn)) (call_isE O'.i hz hf) hg hm boot_isinstance (pa_cons (pe_var hN hv hd hcd) (pa_cons (pe_glob (X := X.suite a ((a, oe) :: pn)) (v := .ref C) hg2 O.g rfl hxd) pa_nil) hst) (by decide) (by decide) hst rfl).imp fun σ H Q h => ?_⟩
  obtain ⟨μ, r, s, R, L, h⟩ := h
  simp only [evE] at h
  cases hr : r[i]? with
  | none => rw [hr] at h; exact h.elim
  | some o =>
    rw [hr] at h
    cases o with
    | none => exact h.elim
    | some d =>
      cases d with
      | exc d =>
        rcases L.at_ i _ hr with ⟨v, _, h2⟩ | ⟨a', c', h1, h2, h3⟩
        · cases h2
        · cases h1
          cases h2
          exact ⟨.ref a, h3, .ref C, .ref C, T.sub e c, rfl, fun u r => r, M.kit hcls he, h.ok R _ (.bl _)⟩
      | _ => exact h.elim
theorem se_isv (i : Nat) {D a : Addr} {e : Nat} {oe : Obj} {pn : List (Addr × Obj)} {n : Str} {p p1 p2 : Pos} (M : ClsT X.K X.mg T.sub T.cls) (he : T.cls e = some D) (hz : Zc (.ref D) none oe) (hf : ∃ vs, oe.data = .fields vs)
    (hm : X.mg "isinstance" = none) (hm2 : X.mg "ValueError" = none) (hv2 : bootBuiltins "ValueError" = some (.type "ValueError")) (hN : X.N[i]? = some n := by rfl) (hv : Vis X.env.scope n := by first | exact Or.inl rfl | exact Or.inr (Or.inl rfl) | exact Or.inr (Or.inr rfl)) (hd : (n == ("__debug__" : Str)) = false := by decide) (hcd : (n == ("__classdict__" : Str)) = false := by decide)
    (hg : Gl X "isinstance" := by rfl) (hg2 : Gl X "ValueError" := by rfl)
    (hst : starEach [.Name n p1, .Name "ValueError" p2] X.env = (false, eval (.Name n p1) X.env) :: starEach [.Name "ValueError" p2] X.env := by rfl) :
    SE T (X.suite a ((a, oe) :: pn)) (some (a, e)) W (.Call (.Name "isinstance" p) [.Name n p1, .Name "ValueError" p2] [] pos) (.isx i (.ty "ValueError")) := by
  obtain ⟨x', O'⟩ := M.own e D he
  refine ⟨(pe_callB (X := X.suite a ((a, oe) :: pn)) (call_isE O'.i hz hf) hg hm boot_isinstance (pa_cons (pe_var hN hv hd hcd) (pa_cons (pe_bltn (X := X.suite a ((a, oe) :: pn)) (v := .ty "ValueError") hg2 hm2 hv2 rfl (by decide) (by decide)) pa_nil) hst) (by decide) (by decide) hst rfl).imp fun σ H Q h => ?_⟩
  obtain ⟨μ, r, s, R, L, h⟩ := h
  simp only [evE] at h
  cases hr : r[i]? with
  | none => rw [hr] at h; exact h.elim
  | some o =>
    rw [hr] at h
    cases o with
    | none => exact h.elim
    | some d =>
      cases d with
      | exc d =>
        rcases L.at_ i _ hr with ⟨v, _, h2⟩ | ⟨a', c', h1, h2, h3⟩
        · cases h2
        · cases h1
          cases h2
          simp only [if_true] at h
          exact ⟨.ref a, h3, .ty "ValueError", .type "ValueError", true, rfl, fun u r => r, M.ve he, h.ok R _ (.bl _)⟩
      | _ => exact h.elim
/-! ### an int by name -/
theorem se_globI (g : Nat) {x : Str} {i : Int} {p : Pos} (hG : T.G g = some (.int i)) (hm : ∃ t, X.mg x = some (.int i t)) (hg : Gl X x := by rfl) (hd : (x == ("__debug__" : Str)) = false := by decide) : SE T X ex W (.Name x p) (.glob g) := by
  obtain ⟨t, hm⟩ := hm
  exact ⟨(pe_glob (v := .int i) hg hm ⟨t, rfl⟩ hd).imp fun σ H Q h => by
    obtain ⟨μ, r, s, R, L, h⟩ := h
    simp only [evE, hG] at h
    exact h.ok R _ (.int i)⟩
theorem se_globS (g : Nat) {x : Str} {i : Str} {p : Pos} (hG : T.G g = some (.str i)) (hm : ∃ t, X.mg x = some (.str i t)) (hg : Gl X x := by rfl) (hd : (x == ("__debug__" : Str)) = false := by decide) : SE T X ex W (.Name x p) (.glob g) := by
  obtain ⟨t, hm⟩ := hm
  exact ⟨(pe_glob (v := .str i) hg hm ⟨t, rfl⟩ hd).imp fun σ H Q h => by
    obtain ⟨μ, r, s, R, L, h⟩ := h
    simp only [evE, hG] at h
    exact h.ok R _ (.str i)⟩
/-! ### gcd -/
theorem se_gcd {x : Str} {p : Pos} {e : Expr} {es : List Expr} {cs : CEs} (hm : X.mg x = some (.builtin "math.gcd")) (ha : SEs T X ex W (e :: es) cs) (hg : Gl X x := by rfl) (hdb : (x == ("__debug__" : Str)) = false := by decide)
    (he : starEach (e :: es) X.env = (false, eval e X.env) :: starEach es X.env := by rfl) (hpl : (backTo pos (starEach es X.env)).any (·.1) = false := by rfl) : SE T X ex W (.Call (.Name x p) (e :: es) [] pos) (.bi .gcd cs) :=
  ⟨(pe_callBfun cr_gcd hg hm ha.pa hdb he hpl).imp fun σ H Q h => by
    obtain ⟨μ, r, s, R, L, h⟩ := h
    refine ⟨μ, r, s, R, L, h.bind.map fun μ1 H1 s1 xs le1 R1 h1 vs hv => ?_⟩
    match hv with
    | .nil => exact h1.elim
    | .cons hx .nil => cases hx <;> exact h1.elim
    | .cons hx (.cons hy .nil) =>
      cases hx with
      | int i =>
        cases hy with
        | int j => exact ⟨i, j, rfl, h1.ok R1 _ (.int _)⟩
        | _ => exact h1.elim
      | _ => cases hy <;> exact h1.elim
    | .cons hx (.cons hy (.cons hz hr)) => cases hx <;> (first | exact h1.elim | (cases hy <;> exact h1.elim))⟩
end
/-! ### the classes by a list, the law whatever the classes are -/
def clsOf (l : List Addr) : Nat → Option Addr := fun i => l[i]?
def spO (call : Nat → List DV → Store → Res DV) (K : PySem.W.Frag) (f np : Nat) : Sp := fun vs H Q _ => ∃ μ s ds d s', Rel K μ H s ∧ VRs K μ H vs ds ∧ ds.length = np ∧ call f ds s = .ok d s' ∧ ∀ μ' H', Le K μ H μ' H' → Rel K μ' H' s' → ∀ v, VR K μ' H' v d → Q v H'
theorem spO_spC {T : Tb} {K : PySem.W.Frag} {f np : Nat} (vs : List V) (H : Hp) (Q : VK) (E : XK) (h : spO T.call K f np vs H Q E) : spC T K f np vs H Q E := by
  obtain ⟨μ, s, ds, d, s', R, hv, hl, e, h⟩ := h
  refine ⟨μ, s, ds, R, hv, hl, ?_⟩
  rw [e]
  exact h
theorem law_spO {K : PySem.W.Frag} {H : Hp} {a : Addr} {ns : List Int} {call : Nat → List DV → Store → Res DV} {f : Nat} (hl : ns.length ≤ 63) (ho : Only H) (h : SqL K H a (ns.map V.int))
    (run : ∃ s', call f [.ref 0] [.frz (ns.map DV.int)] = .ok (.bl true) s') : spO call K f 1 [.ref a] H (fun v _ => v = .bl true) fun _ _ _ => False := by
  obtain ⟨s', run⟩ := run
  refine ⟨[a], [.frz (ns.map DV.int)], [.ref 0], .bl true, s', ⟨rfl, fun n m b xs ys h1 h2 h3 h4 t1 t2 => ?_, fun n b c h1 h2 => ?_⟩, .cons (.ref rfl) .nil, rfl, run, fun μ' H' le R v hv => by
    cases hv
    rfl⟩
  · cases n with
    | zero => cases h3; exact t1.elim
    | succ n => simp at h3
  · cases n with
    | zero =>
      cases h1
      cases h2
      refine ⟨ns.map V.int, ?_, ints_vrs ns, by rw [List.length_map]; exact Nat.le_trans hl (by decide)⟩
      rcases h with (h | ⟨o, h⟩) | h
      · rcases ho a with q | ⟨o, xs, q⟩
        · rw [q] at h; cases h
        · rw [q] at h; cases h
      · exact .inl ⟨o, h⟩
      · exact .inr h
    | succ n => simp at h2
end Ip
end PtIpExc
section PtIpComp
set_option Elab.async false
set_option linter.all false
set_option maxRecDepth 100000
/-! comprehensions -/
namespace Ip
open PySem PySem.Spec PyProof.Rows L2

theorem wipe_set_none {σ : L2.St} {i : Nat} {x : Option V} : ∀ vs : List Nat, (L2.wipe (σ.set i x) vs).set i none = (L2.wipe σ vs).set i none
  | [] => by simp only [L2.wipe, List.set_set]
  | v :: vs => by
    simp only [L2.wipe]
    by_cases h : v = i
    · subst h
      rw [wipe_set_none vs]
    · rw [List.set_comm _ _ h, wipe_set_none vs, List.set_comm _ _ h]
theorem wipe_set {σ : L2.St} {i : Nat} {x : Option V} : ∀ {vs : List Nat}, i ∈ vs → L2.wipe (σ.set i x) vs = L2.wipe σ vs
  | v :: vs, h => by
    simp only [L2.wipe]
    rcases List.mem_cons.mp h with rfl | h
    · exact wipe_set_none vs
    · rw [wipe_set h]
theorem wipe_sub {σ : L2.St} {vs : List Nat} : ∀ {ws : List Nat}, (∀ w ∈ ws, w ∈ vs) → L2.wipe (L2.wipe σ ws) vs = L2.wipe σ vs
  | [], _ => rfl
  | w :: ws, h => by
    simp only [L2.wipe]
    rw [wipe_set (h w List.mem_cons_self)]
    exact wipe_sub fun u hu => h u (List.mem_cons_of_mem _ hu)

def tGw (T : Tb) (K : PySem.W.Frag) (ex : Option (Addr × Nat)) (c : CT) (vs : List Nat) : TG := fun v σ H Q =>
  ∃ μ r s d, Rel K μ H s ∧ LR K ex μ H σ r ∧ VR K μ H v d ∧ Go K μ H (evT T.call T.G T.sub c d r s) (fun _ _ => False) (fun μ' H' _ r' => ∀ σ', LR K ex μ' H' σ' r' → L2.wipe σ' vs = L2.wipe σ vs → Q σ' H')
def tGsw (T : Tb) (K : PySem.W.Frag) (ex : Option (Addr × Nat)) (c : CTs) (vs : List Nat) : TGs := fun us σ H Q =>
  ∃ μ r s ds, Rel K μ H s ∧ LR K ex μ H σ r ∧ VRs K μ H us ds ∧ Go K μ H (evTs T.call T.G T.sub c ds r s) (fun _ _ => False) (fun μ' H' _ r' => ∀ σ', LR K ex μ' H' σ' r' → L2.wipe σ' vs = L2.wipe σ vs → Q σ' H')
/-- a target of a comprehension: only its own names -/
structure SGw (T : Tb) (X : Cx) (ex : Option (Addr × Nat)) (vs : List Nat) (e : Expr) (c : CT) : Prop where
  pg : PG X e (tGw T X.K ex c vs)
structure SGsw (T : Tb) (X : Cx) (ex : Option (Addr × Nat)) (vs : List Nat) (es : List Expr) (c : CTs) : Prop where
  pg : PGs X es (tGsw T X.K ex c vs)
def tIf (T : Tb) (K : PySem.W.Frag) (ex : Option (Addr × Nat)) (c : CEs) : TT := fun σ H Q =>
  ∃ μ r s, Rel K μ H s ∧ LR K ex μ H σ r ∧ Go K μ H (evAll T.call T.G T.sub c r s) (fun _ _ => False) (fun _ H' _ b => Q b H')
structure SIf (T : Tb) (X : Cx) (ex : Option (Addr × Nat)) (es : List Expr) (c : CEs) : Prop where
  pts : PTs X es (tIf T X.K ex c)
section
variable {T : Tb} {X : Cx} {ex : Option (Addr × Nat)} {W : WX} {e : Expr} {es : List Expr} {ct : CT} {cts : CTs} {ce : CE} {pos : Pos} {vs : List Nat}
theorem sgw_name (i : Nat) {x : Str} (hN : X.N.Nodup) (hv : i ∈ vs := by decide) (hi : X.N[i]? = some x := by rfl) (hx : L2.Loc X.env.scope x := by first | exact Or.inl rfl | exact Or.inr rfl) (hf : X.fn x = true ∨ X.env.scope.names.lookup x = some .local := by first | exact .inl rfl | exact .inr rfl) :
    SGw T X ex vs (.Name x pos) (.name i) := ⟨(pg_name hN hi hx hf).imp fun v σ H Q h => by
  obtain ⟨μ, r, s, d, R, L, hd, h⟩ := h
  simp only [evT] at h
  split at h
  · exact h.ok R _ (L.set hd) (wipe_set hv)
  · exact h.elim⟩
theorem sgsw_nil : SGsw T X ex vs [] .nil := ⟨pgs_nil.imp fun us σ H Q h => by
  obtain ⟨μ, r, s, ds, R, L, hv, h⟩ := h
  cases hv with
  | nil => exact ⟨rfl, h.ok R _ L rfl⟩
  | cons _ _ => exact h.elim⟩
theorem sgsw_cons (h1 : SGw T X ex vs e ct) (h2 : SGsw T X ex vs es cts) (hs : (assignEach (e :: es) X.env).map (·.2) = assign e X.env :: (assignEach es X.env).map (·.2) := by rfl) : SGsw T X ex vs (e :: es) (.cons ct cts) := ⟨(pgs_cons h1.pg h2.pg hs).imp fun us σ H Q h => by
  obtain ⟨μ, r, s, ds, R, L, hv, h⟩ := h
  cases hv with
  | nil => exact h.elim
  | cons h3 h4 =>
    exact ⟨_, _, rfl, μ, r, s, _, R, L, h3, h.bind.map fun μ1 H1 s1 r1 le1 R1 q σ1 L1 w1 => ⟨μ1, r1, s1, _, R1, L1, h4.mono le1, q.map fun _ _ _ _ _ _ z σ2 L2 w2 => z σ2 L2 (w2.trans w1)⟩⟩⟩
theorem sgw_tup {k n : Nat} (hc : X.calm = true) (h : SGsw T X ex vs es cts) (hlen : ∀ xs r s r' s', evTs T.call T.G T.sub cts xs r s = .ok r' s' → xs.length = n)
    (hn : (assignEach es X.env).length = n := by rfl) (hst : (assignEach es X.env).findIdx? (·.1) = none := by rfl) : SGw T X ex vs (.Tuple es k pos) (.tup cts) :=
  ⟨⟨fun pins s0 σ H v u Q I rv h' => by
    obtain ⟨μ, r, s, d, R, L, hv, hg⟩ := h'
    have key : ∀ (us : List V) (ds : List DV), VRs X.K μ H us ds → Go X.K μ H (evTs T.call T.G T.sub cts ds r s) (fun _ _ => False) (fun μ' H' _ r' => ∀ σ', LR X.K ex μ' H' σ' r' → L2.wipe σ' vs = L2.wipe σ vs → Q σ' H') → us.length = n ∧ tGsw T X.K ex cts vs us σ H Q := fun us ds hv hg => by
      refine ⟨?_, μ, r, s, ds, R, L, hv, hg⟩
      rw [hv.length]
      cases hm : evTs T.call T.G T.sub cts ds r s with
      | ok r' s' => exact hlen _ _ _ _ _ hm
      | exc c s' => exact absurd hm (evTs_noexc _ _ _ _ _ _)
      | stuck => rw [hm] at hg; exact hg.elim
    cases hv with
    | tup h1 h2 =>
      obtain ⟨k1, k2⟩ := key _ _ h2 hg
      exact (pg_tup hc h.pg hn hst).run pins s0 σ H _ u Q I rv ⟨_, _, rfl, h1.sq, k1, k2⟩
    | ref hm =>
      simp only [evT] at hg
      split at hg
      · rename_i xs hc'
        obtain ⟨us, c1, c2⟩ := R.cellL hm hc'
        obtain ⟨k1, k2⟩ := key _ _ c2 hg
        exact (pg_lst hc h.pg hn hst).run pins s0 σ H _ u Q I rv ⟨_, _, rfl, c1, k1, k2⟩
      · exact hg.elim
    | _ => exact hg.elim⟩⟩
theorem _root_.L2.PTs.imp {X : Cx} {es : List Expr} {t t' : TT} (h : PTs X es t) (f : ∀ σ H Q, t' σ H Q → t σ H Q) : PTs X es t' := ⟨fun pins s σ H Q I q => h.run pins s σ H Q I (f σ H Q q)⟩
theorem sif_nil : SIf T X ex [] .nil := ⟨pts_nil.imp fun σ H Q h => by
  obtain ⟨μ, r, s, R, L, h⟩ := h
  exact h.ok R⟩
theorem sif_one (h1 : ST T X ex (fun _ _ _ _ => False) e ce) : SIf T X ex [e] (.cons ce .nil) := ⟨(pts_one h1.pt).imp fun σ H Q h => by
  obtain ⟨μ, r, s, R, L, h⟩ := h
  refine ⟨μ, r, s, R, L, ?_⟩
  simp only [evAll] at h
  cases hm : evE T.call T.G T.sub ce r s with
  | ok v s1 =>
    rw [hm] at h
    simp only [Res.bind] at h ⊢
    cases ht : truth v s1 with
    | ok b s2 =>
      rw [ht] at h
      cases b <;> exact h
    | exc c s2 => exact absurd ht truth_noexc
    | stuck => rw [ht] at h; exact h
  | exc c s1 => rw [hm] at h; exact fun μ' H' le R' => (h μ' H' le R').elim
  | stuck => rw [hm] at h; exact h⟩
/-- [e for t in it if ..] -/
theorem lc_imp {σ : L2.St} {H : Hp} {Q : VK} {K : PySem.W.Frag} {ci : CI} {cis : CEs} {own : List Nat} (h : tE T K ex W (.lc ct ci cis ce own) σ H Q) :
    tLc (tI T K ex W ci) (tGw T K ex ct own) (tIf T K ex cis) (tE T K ex (fun _ _ _ _ => False) ce) own σ H Q := by
  obtain ⟨μ, r, s, R, L, h⟩ := h
  simp only [evE] at h
  generalize hb : (fun (x : DV) (s : Store) => (evT T.call T.G T.sub ct x (Ip.wipe r own) s).bind fun r s => (evAll T.call T.G T.sub cis r s).bind fun b s => cond b ((evE T.call T.G T.sub ce r s).bind fun v s => Res.ok (some v) s) (.ok none s)) = body at h
  refine ⟨μ, r, s, R, L, ?_⟩
  cases hm : evI T.call T.G T.sub ci r s with
  | exc c s1 => rw [hm] at h; exact h
  | stuck => rw [hm] at h; exact h
  | ok q s1 =>
    rw [hm] at h
    simp only [Res.bind] at h
    intro μ1 H1 le1 R1 J wk D hD
    have le2 : Le K μ1 H1 (μ1 ++ [D]) (L2.upd H1 D (.lst [])) := le_new hD
    have h := Go.later h (le1.trans le2)
    have R2 : Rel K (μ1 ++ [D]) (L2.upd H1 D (.lst [])) (s1 ++ [.lst []]) := R1.new hD .nil (Nat.zero_le _)
    have pD : (μ1 ++ [D])[s1.length]? = some D := by rw [← R1.len]; exact get_app_n
    refine ⟨fun i m H => m = q.2.length - i ∧ i ≤ q.2.length ∧ ∃ μ s, Le K (μ1 ++ [D]) (L2.upd H1 D (.lst [])) μ H ∧ Rel K μ H s ∧ LR K ex μ H σ r ∧ Go K μ H (lcL s1.length q.1 body (q.2.drop i) s) (fun c H' => ∀ C, T.cls c = some C → W (.ref C) none σ H') (fun μ' H' _ d => ∀ v, VR K μ' H' v d → Q v H'),
      ⟨_, rfl, Nat.zero_le _, μ1 ++ [D], _, Le.refl, R2, (L.mono le1).mono le2, h⟩, ?_⟩
    rintro i m H2 ⟨rfl, hi, μ2, s2, le3, R3, L3, h2⟩
    by_cases hlt : i < q.2.length
    · refine .inr ?_
      have hd : q.2[i]? = some q.2[i] := List.getElem?_eq_getElem hlt
      rw [List.drop_eq_getElem_cons hlt] at h2
      simp only [lcL] at h2
      split at h2
      · rename_i hf
        obtain ⟨g1, g2⟩ := wk.go i _ μ2 H2 s2 (le2.trans le3) R3 hf hd
        refine ⟨g1, fun H' => ∃ μ s, Le K (μ1 ++ [D]) (L2.upd H1 D (.lst [])) μ H' ∧ Rel K μ H' s ∧ LR K ex μ H' σ r ∧ Go K μ H' (lcL s1.length q.1 body (q.2.drop (i + 1)) s) (fun c H' => ∀ C, T.cls c = some C → W (.ref C) none σ H') (fun μ' H' _ d => ∀ v, VR K μ' H' v d → Q v H'),
          fun H' hN => ⟨_, by omega, rfl, hlt, hN⟩, fun x H3 hy => ?_⟩
        obtain ⟨l4, R4, rx⟩ := g2 x H3 hy
        have L4 := L3.mono l4
        refine ⟨μ2, Ip.wipe r own, s2, q.2[i], R4, L4.wipe own, rx, ?_⟩
        have hbx : body q.2[i] s2 = (evT T.call T.G T.sub ct q.2[i] (Ip.wipe r own) s2).bind fun r s => (evAll T.call T.G T.sub cis r s).bind fun b s => cond b ((evE T.call T.G T.sub ce r s).bind fun v s => Res.ok (some v) s) (.ok none s) := by rw [← hb]
        rw [hbx] at h2
        cases h5 : evT T.call T.G T.sub ct q.2[i] (Ip.wipe r own) s2 with
        | exc c s3 => exact absurd h5 (evT_noexc _ _ _ _ _ _)
        | stuck => rw [h5] at h2; exact h2.elim
        | ok r5 s5 =>
          rw [h5] at h2
          simp only [Res.bind] at h2
          intro μ5 H5 le5 R5 σ5 L5 w5
          refine ⟨w5.trans (wipe_sub fun _ h => h), μ5, r5, s5, R5, L5, ?_⟩
          have h2 := Go.later h2 (l4.trans le5)
          cases h6 : evAll T.call T.G T.sub cis r5 s5 with
          | exc c s6 => rw [h6] at h2; exact h2.elim
          | stuck => rw [h6] at h2; exact h2.elim
          | ok b s6 =>
            rw [h6] at h2
            intro μ6 H6 le6 R6
            have h2 := Go.later h2 le6
            have L6 := (L4.mono le5).mono le6
            have lx := ((le3.trans l4).trans le5).trans le6
            cases b with
            | false =>
              simp only [cond, Res.quiet, Res.bind] at h2
              simp only [Bool.false_eq_true, if_false]
              exact ⟨μ6, s6, lx, R6, L6, h2⟩
            | true =>
              simp only [if_true]
              simp only [cond] at h2
              refine ⟨μ6, r5, s6, R6, L5.mono le6, ?_⟩
              cases h7 : evE T.call T.G T.sub ce r5 s6 with
              | exc c s7 => rw [h7] at h2; exact h2.elim
              | stuck => rw [h7] at h2; exact h2.elim
              | ok y s7 =>
                rw [h7] at h2
                simp only [Res.quiet, Res.bind] at h2
                intro μ7 H7 le7 R7 v hv
                have h2 := Go.later h2 le7
                split at h2
                · rename_i acc hacc
                  split at h2
                  · rename_i hz
                    have pm : μ7[s1.length]? = some D := (lx.trans le7).pre _ _ pD
                    obtain ⟨us, u1, u2, u3⟩ := R7.at_ _ _ _ pm hacc
                    have R8 := R7.set pm hacc u1 (u2.append (.cons hv .nil)) (by rw [List.length_append]; exact hz)
                    have le8 : Le K μ7 H7 μ7 (L2.upd H7 D (.lst (us ++ [v]))) := le_set u1
                    exact ⟨us, u1, by rw [u2.length]; exact hz, μ7, _, (lx.trans le7).trans le8, R8, (L6.mono le7).mono le8, Go.later h2 le8⟩
                  · exact h2.elim
                · exact h2.elim
      · exact h2.elim
    · refine .inl ?_
      have e : i = q.2.length := by omega
      subst e
      rw [List.drop_length] at h2
      simp only [lcL] at h2
      split at h2
      · rename_i hf
        exact ⟨wk.stop _ μ2 H2 s2 (le2.trans le3) R3 hf (Nat.le_refl _), h2.ok R3 _ (.ref (le3.pre _ _ pD))⟩
      · exact h2.elim
theorem se_lc (own : List (Str × Nat)) {elt tg iter : Expr} {ifs : List Expr} {scope : Scope} {ci : CI} {cis : CEs} (hc : X.calm = true) (hN : X.N.Nodup) (hi : SI T X ex W tg iter ci) (hB : BlkOk X.N X.env.scope scope own)
    (hg : ∀ (s : Shared) (H : Hp) (C : Addr) (cl : List (Str × Addr)) (fp : List Addr), SGw T (X.blk s H scope (compEnvC scope cl C X.env) fp) ex (own.map (·.2)) tg ct)
    (ht : ∀ (s : Shared) (H : Hp) (C : Addr) (cl : List (Str × Addr)) (fp : List Addr), SIf T (X.blk s H scope (compEnvC scope cl C X.env) fp) ex ifs cis)
    (he : ∀ (s : Shared) (H : Hp) (C : Addr) (cl : List (Str × Addr)) (fp : List Addr), SE T (X.blk s H scope (compEnvC scope cl C X.env) fp) ex (fun _ _ _ _ => False) elt ce)
    (hs : ∀ x, foldedSetIterable iter X.env x = pure x := by intro _; rfl) : SE T X ex W (.ListComp elt [⟨tg, iter, ifs, 0⟩] scope pos) (.lc ct ci cis ce (own.map (·.2))) :=
  ⟨(pe_lc (own := own) hc hN hi.pi hB (fun s H C cl fp => (hg s H C cl fp).pg) (fun s H C cl fp => (ht s H C cl fp).pts) (fun s H C cl fp => (he s H C cl fp).pe) hs).imp fun σ H Q h => lc_imp h⟩
/-- y = [e for t in it if ..] -/
theorem ss_setLc (i : Nat) (own : List (Str × Nat)) {y : Str} {py spos : Pos} {elt tg iter : Expr} {ifs : List Expr} {scope : Scope} {ci : CI} {cis : CEs} (hc : X.calm = true) (hN : X.N.Nodup) (hi : SI T X ex W tg iter ci) (hB : BlkOk X.N X.env.scope scope own)
    (hg : ∀ (s : Shared) (H : Hp) (C : Addr) (cl : List (Str × Addr)) (fp : List Addr), SGw T (X.blk s H scope (compEnvC scope cl C X.env) fp) ex (own.map (·.2)) tg ct)
    (ht : ∀ (s : Shared) (H : Hp) (C : Addr) (cl : List (Str × Addr)) (fp : List Addr), SIf T (X.blk s H scope (compEnvC scope cl C X.env) fp) ex ifs cis)
    (he : ∀ (s : Shared) (H : Hp) (C : Addr) (cl : List (Str × Addr)) (fp : List Addr), SE T (X.blk s H scope (compEnvC scope cl C X.env) fp) ex (fun _ _ _ _ => False) elt ce)
    (hsw : swapsWith (.ListComp elt [⟨tg, iter, ifs, 0⟩] scope pos) (some (.Name y py)) spos.line X.env = pure true)
    (hy : X.N[i]? = some y := by rfl) (hl : X.env.scope.names.lookup y = some .local := by rfl)
    (hs : ∀ x, foldedSetIterable iter X.env x = pure x := by intro _; rfl) : SS T X ex W (.Assign [.Name y py] (.ListComp elt [⟨tg, iter, ifs, 0⟩] scope pos) spos) (.asg (.name i) (.lc ct ci cis ce (own.map (·.2)))) :=
  ⟨(ps_setLc (own := own) hc hN hy hl hsw hi.pi hB (fun s H C cl fp => (hg s H C cl fp).pg) (fun s H C cl fp => (ht s H C cl fp).pts) (fun s H C cl fp => (he s H C cl fp).pe) hs).imp fun D σ H h => by
    obtain ⟨μ, r, s, R, L, h⟩ := h
    show tLc _ _ _ _ _ σ H _
    refine lc_imp (T := T) (ex := ex) (W := W) (ct := ct) (cis := cis) (ce := ce) ⟨μ, r, s, R, L, ?_⟩
    simp only [evS, evT] at h
    cases hm : evE T.call T.G T.sub (.lc ct ci cis ce (own.map (·.2))) r s with
    | ok v s1 =>
      rw [hm] at h
      simp only [Res.out] at h
      intro μ1 H1 le1 R1 x hx
      by_cases hlt : i < r.length
      · rw [if_pos hlt] at h
        exact h μ1 H1 _ le1 R1 ((L.mono le1).set hx)
      · rw [if_neg hlt] at h
        exact h.elim
    | exc c s1 =>
      rw [hm] at h
      exact fun μ' H' le R' => h μ' H' σ le R' (L.mono le)
    | stuck => rw [hm] at h; exact h⟩
end
end Ip
end PtIpComp
section PtIpMore
set_option Elab.async false
set_option linter.all false
set_option maxRecDepth 100000
/-! texts, dicts, sorted, any, all -/
namespace Ip
open PySem PySem.Spec PyProof.Rows L2

theorem VRs.bools {K : PySem.W.Frag} {μ : List Addr} {H : Hp} : ∀ {vs : List V} {ds : List DV} {is : List Bool}, VRs K μ H vs ds → bools? ds = some is → vs = is.map V.bl
  | _, _, _, .nil, e => by cases e; rfl
  | _, _, is, .cons h hs, e => by
    cases h with
    | bl i =>
      simp only [bools?] at e
      split at e
      · rename_i js hj
        cases e
        rw [VRs.bools hs hj]
        rfl
      · cases e
    | _ => cases e
theorem VRs.of_ints {K : PySem.W.Frag} {μ : List Addr} {H : Hp} : ∀ is : List Int, VRs K μ H (is.map V.int) (is.map DV.int)
  | [] => .nil
  | i :: is => .cons (.int i) (VRs.of_ints is)
theorem VRs.of_strs {K : PySem.W.Frag} {μ : List Addr} {H : Hp} : ∀ is : List Str, VRs K μ H (is.map V.str) (is.map DV.str)
  | [] => .nil
  | i :: is => .cons (.str i) (VRs.of_strs is)
section
variable {T : Tb} {X : Cx} {ex : Option (Addr × Nat)} {W : WX} {a b c e : Expr} {ca cb cc : CE} {pos : Pos} {es rest : List Expr} {ces : CEs}
theorem bi_any (hc : X.calm = true) : CallR X (.builtin "any") (rBi X.K .any) := by
  intro pins s σ H xs us Q I r h
  obtain ⟨μ, s0, ds, Wn, R, hv, h⟩ := h
  match hv with
  | .nil => exact h.elim
  | .cons hx .nil =>
    cases hx with
    | ref hm =>
      simp only [biV] at h
      cases hcl : cellL s0 _ with
      | none => rw [hcl] at h; exact h.elim
      | some ys =>
        rw [hcl] at h
        simp only [optR] at h
        cases hb : bools? ys with
        | none => rw [hb] at h; exact h.elim
        | some bs =>
          rw [hb] at h
          obtain ⟨vs, c1, c2⟩ := R.cellL hm hcl
          have e1 := c2.bools hb
          subst e1
          exact cr_any hc pins s σ H _ us Q I r ⟨_, bs, rfl, c1, h.ok R _ (.bl _)⟩
    | _ => exact h.elim
  | .cons hx (.cons hy hr) => cases hx <;> exact h.elim
theorem bi_all (hc : X.calm = true) : CallR X (.builtin "all") (rBi X.K .all) := by
  intro pins s σ H xs us Q I r h
  obtain ⟨μ, s0, ds, Wn, R, hv, h⟩ := h
  match hv with
  | .nil => exact h.elim
  | .cons hx .nil =>
    cases hx with
    | ref hm =>
      simp only [biV] at h
      cases hcl : cellL s0 _ with
      | none => rw [hcl] at h; exact h.elim
      | some ys =>
        rw [hcl] at h
        simp only [optR] at h
        cases hb : bools? ys with
        | none => rw [hb] at h; exact h.elim
        | some bs =>
          rw [hb] at h
          obtain ⟨vs, c1, c2⟩ := R.cellL hm hcl
          have e1 := c2.bools hb
          subst e1
          exact cr_all hc pins s σ H _ us Q I r ⟨_, bs, rfl, c1, h.ok R _ (.bl _)⟩
    | _ => exact h.elim
  | .cons hx (.cons hy hr) => cases hx <;> exact h.elim

/-! ### sorted -/
theorem ins_perm (x : Int) : ∀ l : List Int, (ins x l).Perm (x :: l)
  | [] => List.Perm.refl _
  | y :: ys => by
    unfold ins
    split
    · exact List.Perm.refl _
    · exact ((ins_perm x ys).cons y).trans (List.Perm.swap x y ys)
theorem isort_perm : ∀ l : List Int, (isort l).Perm l
  | [] => List.Perm.refl _
  | x :: xs => (ins_perm x (isort xs)).trans ((isort_perm xs).cons x)
theorem ins_sorted (x : Int) : ∀ l : List Int, l.Pairwise (· ≤ ·) → (ins x l).Pairwise (· ≤ ·)
  | [], _ => List.pairwise_singleton _ _
  | y :: ys, h => by
    unfold ins
    rw [List.pairwise_cons] at h
    split
    · rename_i hx
      refine List.pairwise_cons.mpr ⟨fun z hz => ?_, List.pairwise_cons.mpr h⟩
      rcases List.mem_cons.mp hz with rfl | hz
      · exact hx
      · have := h.1 z hz
        omega
    · rename_i hx
      refine List.pairwise_cons.mpr ⟨fun z hz => ?_, ins_sorted x ys h.2⟩
      rcases List.mem_cons.mp ((ins_perm x ys).mem_iff.mp hz) with rfl | hz
      · omega
      · exact h.1 z hz
theorem isort_sorted : ∀ l : List Int, (isort l).Pairwise (· ≤ ·)
  | [] => List.Pairwise.nil
  | x :: xs => ins_sorted x _ (isort_sorted xs)
theorem sorted_unique {l m : List Int} (hp : l.Perm m) (hl : l.Pairwise (· ≤ ·)) (hm : m.Pairwise (· ≤ ·)) : l = m :=
  List.Perm.eq_of_pairwise (fun a b _ _ h1 h2 => Int.le_antisymm h1 h2) hl hm hp
theorem bi_sorted : CallR X (.builtin "sorted") (rBi X.K .sorted) := by
  intro pins s σ H xs us Q I r h
  obtain ⟨μ, s0, ds, Wn, R, hv, h⟩ := h
  match hv with
  | .nil => exact h.elim
  | .cons hx .nil =>
    cases hx with
    | ref hm =>
      simp only [biV] at h
      cases hcl : cellL s0 _ with
      | none => rw [hcl] at h; exact h.elim
      | some ys =>
        rw [hcl] at h
        simp only [optR] at h
        cases hb : ints? ys with
        | none => rw [hb] at h; exact h.elim
        | some bs =>
          rw [hb] at h
          simp only at h
          split at h
          · rename_i h64
            obtain ⟨vs, c1, c2⟩ := R.cellL hm hcl
            have e1 := c2.ints hb
            subst e1
            refine cr_sorted pins s σ H _ us Q I r ⟨_, bs, rfl, c1, h64, fun ns' p h1 h2 hp => ?_⟩
            have e2 : ns' = isort bs := sorted_unique (h1.trans (isort_perm bs).symm) h2 (isort_sorted bs)
            subst e2
            refine h (μ ++ [p]) _ (le_new hp) (R.new hp (VRs.of_ints _) ?_) _ (ref_new R)
            rw [List.length_map, (isort_perm bs).length_eq]
            exact small64 h64
          · exact h.elim
    | _ => exact h.elim
  | .cons hx (.cons hy hr) => cases hx <;> exact h.elim

/-! ### methods of texts -/
def rSM (K : PySem.W.Frag) (m : SM) : V → List V → Hp → VK → Prop := fun x xs H Q => ∃ μ s z ds Wn, Rel K μ H s ∧ x = .str z ∧ VRs K μ H xs ds ∧ Go K μ H (smV m z ds s) Wn (fun μ' H' _ d => ∀ v, VR K μ' H' v d → Q v H')
theorem sm_join : MtR X "str.join" (rSM X.K .join) := by
  intro pins s σ H x xs v us Q I rx rs h
  obtain ⟨μ, s0, z, ds, Wn, R, rfl, hv, h⟩ := h
  match hv with
  | .nil => exact h.elim
  | .cons hx .nil =>
    cases hx with
    | ref hm =>
      simp only [smV] at h
      cases hcl : cellL s0 _ with
      | none => rw [hcl] at h; exact h.elim
      | some ys =>
        rw [hcl] at h
        simp only [optR] at h
        cases hb : strs? ys with
        | none => rw [hb] at h; exact h.elim
        | some bs =>
          rw [hb] at h
          simp only at h
          split at h
          · rename_i hz
            obtain ⟨vs, c1, c2⟩ := R.cellL hm hcl
            have e1 := c2.strs hb
            subst e1
            exact mt_join pins s σ H _ _ v us Q I rx rs ⟨z, _, bs, rfl, rfl, .inl c1, hz, h.ok R _ (.str _)⟩
          · exact h.elim
    | _ => exact h.elim
  | .cons hx (.cons hy hr) => cases hx <;> exact h.elim
theorem sm_split : MtR X "str.split" (rSM X.K .split) := by
  intro pins s σ H x xs v us Q I rx rs h
  obtain ⟨μ, s0, z, ds, Wn, R, rfl, hv, h⟩ := h
  match hv with
  | .nil => exact h.elim
  | .cons hx .nil =>
    cases hx with
    | str y =>
      simp only [smV] at h
      split at h
      · rename_i hz
        refine mt_split pins s σ H _ _ v us Q I rx rs ⟨z, y, rfl, rfl, hz.1, hz.2.1, fun p hp => ?_⟩
        refine h (μ ++ [p]) _ (le_new hp) (R.new hp (VRs.of_strs _) ?_) _ (ref_new R)
        rw [List.length_map]
        exact hz.2.2
      · exact h.elim
    | _ => exact h.elim
  | .cons hx (.cons hy hr) => cases hx <;> exact h.elim
theorem sm_partition : MtR X "str.partition" (rSM X.K .partition) := by
  intro pins s σ H x xs v us Q I rx rs h
  obtain ⟨μ, s0, z, ds, Wn, R, rfl, hv, h⟩ := h
  match hv with
  | .nil => exact h.elim
  | .cons hx .nil =>
    cases hx with
    | str y =>
      simp only [smV] at h
      split at h
      · rename_i hz
        exact mt_partZ pins s σ H _ _ v us Q I rx rs ⟨z, y, rfl, rfl, hz.1, hz.2, fun p o hp hd => h μ _ (le_upd hp) (R.upd hp) _ (.tup (TupP.of upd_same hd) (.cons (.str _) (.cons (.str _) (.cons (.str _) .nil))))⟩
      · exact h.elim
    | _ => exact h.elim
  | .cons hx (.cons hy hr) => cases hx <;> exact h.elim
theorem sm_startswith : MtR X "str.startswith" (rSM X.K .startswith) := by
  intro pins s σ H x xs v us Q I rx rs h
  obtain ⟨μ, s0, z, ds, Wn, R, rfl, hv, h⟩ := h
  match hv with
  | .nil => exact h.elim
  | .cons hx .nil =>
    cases hx with
    | str y => exact mt_startswith pins s σ H _ _ v us Q I rx rs ⟨z, y, rfl, rfl, h.ok R _ (.bl _)⟩
    | _ => exact h.elim
  | .cons hx (.cons hy hr) => cases hx <;> exact h.elim
theorem sm_isascii : MtR X "str.isascii" (rSM X.K .isascii) := by
  intro pins s σ H x xs v us Q I rx rs h
  obtain ⟨μ, s0, z, ds, Wn, R, rfl, hv, h⟩ := h
  match hv with
  | .nil => exact mt_isascii pins s σ H _ _ v us Q I rx rs ⟨z, rfl, rfl, trivial, h.ok R _ (.bl _)⟩
  | .cons hx hr => exact h.elim
theorem sm_isdigit : MtR X "str.isdigit" (rSM X.K .isdigit) := by
  intro pins s σ H x xs v us Q I rx rs h
  obtain ⟨μ, s0, z, ds, Wn, R, rfl, hv, h⟩ := h
  match hv with
  | .nil => exact mt_isdigit pins s σ H _ _ v us Q I rx rs ⟨z, rfl, rfl, trivial, h.ok R _ (.bl _)⟩
  | .cons hx hr => exact h.elim
theorem se_sm1 (m : SM) {id : String} {name : Str} {apos : Pos} (slot : Slot "str" name id) (ty : typeOf (.builtin id) = pure (.type "method_descriptor")) (rule : MtR X id (rSM X.K m)) (ha : SE T X ex W a ca) (hb : SE T X ex W b cb)
    (hs : starEach [b] X.env = [(false, eval b X.env)] := by rfl) (hbase : attributeBase a name X.env (eval a X.env) = eval a X.env := by rfl) (hline : (apos.endLine == pos.line) = true := by rfl) :
    SE T X ex W (.Call (.Attribute a name apos) [b] [] pos) (.smeth m ca (.cons cb .nil)) := ⟨(pe_m1 slot ty rule ha.pe hb.pe hs hbase hline).imp fun σ H Q h => by
  obtain ⟨μ, r, s, R, L, h⟩ := h
  refine ⟨μ, r, s, R, L, h.bind.map fun μ1 H1 s1 x le1 R1 h1 v1 hv1 => ?_⟩
  cases hv1 with
  | str z =>
    refine ⟨⟨z, rfl⟩, μ1, r, s1, R1, L.mono le1, ?_⟩
    simp only [evEs] at h1
    rw [Res.bind_assoc] at h1
    refine h1.bind.map fun μ2 H2 s2 y le2 R2 h2 w hw => ?_
    exact ⟨μ2, s2, z, [y], _, R2, rfl, .cons hw .nil, h2⟩
  | _ => exact h1.elim⟩
theorem se_sm0 (m : SM) {id : String} {name : Str} {apos : Pos} (slot : Slot "str" name id) (ty : typeOf (.builtin id) = pure (.type "method_descriptor")) (rule : MtR X id (rSM X.K m)) (ha : SE T X ex W a ca)
    (hbase : attributeBase a name X.env (eval a X.env) = eval a X.env := by rfl) (hline : (apos.endLine == pos.line) = true := by rfl) :
    SE T X ex W (.Call (.Attribute a name apos) [] [] pos) (.smeth m ca .nil) := ⟨(pe_m0 slot ty rule ha.pe hbase hline).imp fun σ H Q h => by
  obtain ⟨μ, r, s, R, L, h⟩ := h
  refine ⟨μ, r, s, R, L, h.bind.map fun μ1 H1 s1 x le1 R1 h1 v1 hv1 => ?_⟩
  cases hv1 with
  | str z => exact ⟨⟨z, rfl⟩, μ1, s1, z, [], _, R1, rfl, .nil, h1⟩
  | _ => exact h1.elim⟩

/-- ord(x) -/
theorem bi_ord : CallR X (.builtin "ord") (rBi X.K .ord) := by
  intro pins s σ H xs us Q I r h
  obtain ⟨μ, s0, ds, Wn, R, hv, h⟩ := h
  match hv with
  | .nil => exact h.elim
  | .cons hx .nil =>
    cases hx with
    | str z =>
      simp only [biV] at h
      split at h
      · rename_i hz
        exact call_ord pins s σ H _ us Q I r ⟨z, rfl, hz, h.ok R _ (.int _)⟩
      · exact h.elim
    | _ => exact h.elim
  | .cons hx (.cons hy hr) => cases hx <;> exact h.elim
/-- x.index(y, i), where it is found -/
theorem se_index {c : Expr} {cc : CE} {apos : Pos} (tk : Takes X W) (ha : SE T X ex W a ca) (hb : SE T X ex W b cb) (hc : SE T X ex W c cc) (calm : X.calm = true := by rfl) (hbase : attributeBase a "index" X.env (eval a X.env) = eval a X.env := by rfl)
    (hfew : ((backTo pos (starEach [b, c] X.env)).all (fun x => !x.1) && (backToKw pos (keywordEach [] X.env)).all (fun x => x.1.isSome) && decide (([b, c] : List Expr).length + ([] : List Keyword).length + (if ([] : List Keyword).isEmpty then 0 else 1) < 30)) = true := by rfl)
    (hline : (apos.endLine == pos.line) = true := by rfl) (hs : starEach [b, c] X.env = (false, eval b X.env) :: starEach [c] X.env := by rfl) (hs2 : starEach [c] X.env = (false, eval c X.env) :: starEach [] X.env := by rfl) (hpl : (backTo pos (starEach [c] X.env)).any (·.1) = false := by rfl) :
    SE T X ex W (.Call (.Attribute a "index" apos) [b, c] [] pos) (.smeth .index ca (.cons cb (.cons cc .nil))) :=
  ⟨(pe_bmS PySem.F.plainAttrs_str PySem.F.slot_str_index PySem.F.type_str_index (mt_indexFromX calm tk) ha.pe (pa_cons hb.pe (pa_cons hc.pe pa_nil hs2) hs) hbase hfew hline hs hpl).imp fun σ H Q h => by
    obtain ⟨μ, r, s, R, L, h⟩ := h
    refine ⟨μ, r, s, R, L, h.bind.map fun μ1 H1 s1 x le1 R1 h1 v1 hv1 => ?_⟩
    cases hv1 with
    | str z =>
      refine ⟨rfl, μ1, r, s1, R1, L.mono le1, ?_⟩
      simp only [evEs] at h1
      rw [Res.bind_assoc] at h1
      refine h1.bind.map fun μ2 H2 s2 y le2 R2 h2 w hw => ?_
      rw [Res.bind_assoc] at h2
      refine ⟨μ2, r, s2, R2, (L.mono le1).mono le2, ?_⟩
      rw [Res.bind_assoc] at h2
      refine h2.bind.map fun μ3 H3 s3 i le3 R3 h3 u hu => ?_
      simp only [Res.bind] at h3
      cases hw with
      | str y =>
        cases hu with
        | int i =>
          simp only [smV] at h3
          split at h3
          · rename_i k hk
            refine ⟨z, y, i, rfl, rfl, fun k2 e => ?_, fun e => ?_⟩
            · rw [hk] at e
              cases e
              exact h3.ok R3 _ (.int _)
            · rw [hk] at e
              cases e
          · exact h3.elim
        | _ => exact h3.elim
      | _ => cases hu <;> exact h3.elim
    | _ => exact h1.elim⟩
/-! ### len(set(text)) -/
def tLenSetC (ta : TE) : TE := fun σ H Q => ta σ H fun x H1 => ∃ z : Str, x = .str z ∧ z.cps.size + 1 < scanBound ∧ Q (.int (IpS.metC (IpS.sgn z) z.cps.size).length) H1
theorem pe_lenSetC {ta : TE} {p p2 q pos : Pos} (hg : Gl X "len") (hm : X.mg "len" = none) (hg2 : Gl X "set") (hm2 : X.mg "set" = none) (ha : PE X a ta) (hc : X.calm = true := by rfl)
    (na : starEach [a] X.env = (false, eval a X.env) :: starEach [] X.env := by rfl) : PE X (.Call (.Name "len" p) [.Call (.Name "set" p2) [a] [] q] [] pos) (tLenSetC ta) := by
  refine ⟨fun pins s σ H Q I h => Call_ (ld_blt I hg hm boot_len (PyProof.Rows.callWith_builtin1 (PyProof.Rows.args_cons (Call_ (ld_blt I hg2 hm2 boot_set (PyProof.Rows.callWith_type1 (PyProof.Rows.args_cons (thn (ha.run pins s σ H _ I h) fun v t q => PyProof.Rows.args_nil ?_) na) na rfl))) rfl) rfl rfl))⟩
  obtain ⟨_, H1, I1, rv, z, rfl, few, q1⟩ := q
  obtain ⟨tk0, rfl⟩ := rv
  apply IpS.call_set_text (I1.ok.hd hc) few
  rintro h' tk ⟨o, es, ep, tb, ho, hex, hd, _, _, _, hf, hn⟩ keep
  have I2 := I1.kept (t' := tk) fun b u e => keep b u (Heap.lt_size e) e
  have le := IpS.metC_le (IpS.sgn z) z.cps.size
  exact PyProof.Rows.args_nil (call_len_set ho hex hd hf (by rw [hn]; unfold scanBound at few; omega) ⟨.int _, H1, I2.tok _, ⟨_, by rw [hn]⟩, q1⟩)
theorem se_lenset {p p2 q pos : Pos} (hm : X.mg "len" = none) (hm2 : X.mg "set" = none) (ha : SE T X ex W a ca) (hg : Gl X "len" := by rfl) (hg2 : Gl X "set" := by rfl) (hc : X.calm = true := by rfl)
    (na : starEach [a] X.env = (false, eval a X.env) :: starEach [] X.env := by rfl) : SE T X ex W (.Call (.Name "len" p) [.Call (.Name "set" p2) [a] [] q] [] pos) (.bi .lenset (.cons ca .nil)) := ⟨(pe_lenSetC hg hm hg2 hm2 ha.pe hc na).imp fun σ H Q h => by
  obtain ⟨μ, r, s, R, L, h⟩ := h
  simp only [evE, evEs] at h
  rw [Res.bind_assoc] at h
  refine ⟨μ, r, s, R, L, h.bind.map fun μ1 H1 s1 x le1 R1 h1 v1 hv1 => ?_⟩
  simp only [Res.bind] at h1
  cases hv1 with
  | str z =>
    simp only [biV] at h1
    split at h1
    · rename_i hl
      exact ⟨z, rfl, hl, h1.ok R1 _ (.int _)⟩
    · exact h1.elim
  | _ => exact h1.elim⟩
end
end Ip
end PtIpMore
section PtIpDict
set_option Elab.async false
set_option linter.all false
set_option maxRecDepth 100000
/-! dicts: dict(t) of a tuple of pairs, d.get(k, x) -/
namespace Ip
open PySem PySem.Spec PyProof.Rows L2
section
variable {K : PySem.W.Frag} {μ μ' : List Addr} {H H' : Hp}
/-- the pairs in a tuple -/
theorem pairs_kr : ∀ {vs : List V} {ds : List DV} {ks : List (Key × DV)}, VRs K μ H vs ds → pairs? ds = some ks →
    ∃ (ps : List Addr) (ws : List (Key × V)), vs = ps.map V.ref ∧ Paired (fun p z => SqT K H p [kV z.1, z.2]) ps ws ∧ KR K μ H ws ks
  | _, _, _, .nil, e => by
    cases e
    exact ⟨[], [], rfl, .nil, .nil⟩
  | _, _, _, .cons (d := d) (ds := ds) r t, e => by
    cases r with
    | @tup a us zs q1 q2 =>
      cases q2 with
      | nil => cases e
      | @cons k0 _ kd _ ra q3 =>
        cases q3 with
        | nil => cases e
        | @cons v0 _ vd _ rb q4 =>
          cases q4 with
          | cons _ _ => cases e
          | nil =>
            rw [show pairs? (.tup [kd, vd] :: ds) = (match key? kd, pairs? ds with | some k, some kvs => some ((k, vd) :: kvs) | _, _ => none) from rfl] at e
            cases hk : key? kd with
            | none => rw [hk] at e; cases e
            | some k =>
              cases hp : pairs? ds with
              | none => rw [hk, hp] at e; cases e
              | some ks0 =>
                rw [hk, hp] at e
                cases e
                obtain ⟨ps, ws, e1, e2, e3⟩ := pairs_kr t hp
                have := key_kV ra hk
                subst this
                subst e1
                exact ⟨_ :: ps, (k, _) :: ws, rfl, .cons q1.sq e2, .cons rb e3⟩
    | _ => cases e
end
section
variable {X : Cx}
theorem parts_of {pins : List (Addr × Obj)} {σ : L2.St} {H : Hp} {s : Shared} (I : Inv X pins σ H s) : ∀ {ps : List Addr} {ws : List (Key × V)}, Paired (fun p z => SqT X.K H p [kV z.1, z.2]) ps ws →
    ∃ (qs : List (Value × Value)) (rs : List (Key × Value)), KV ws rs ∧ rs.length = ps.length ∧ qs.length = ps.length ∧
      ∀ (j : Nat) (a b : Value), qs[j]? = some (a, b) → ∃ p k, ps[j]? = some p ∧ s.heap.IsTuple p #[a, b] ∧ rs[j]? = some (k, b) ∧ keyIs k a = true
  | _, _, .nil => ⟨[], [], .nil, rfl, rfl, fun j a b e => by simp at e⟩
  | _, _, .cons (a := p) (b := z) h t => by
    obtain ⟨qs, rs, r, l1, l2, hq⟩ := parts_of I t
    obtain ⟨its, rv, ht, _⟩ := I.tuple h
    obtain ⟨u, y, rfl, ru, ry⟩ := vals2 rv
    refine ⟨(u, y) :: qs, (z.1, y) :: rs, .cons ⟨rfl, ry⟩ r, by rw [List.length_cons, List.length_cons, l1], by rw [List.length_cons, List.length_cons, l2], fun j a b e => ?_⟩
    cases j with
    | zero =>
      cases e
      exact ⟨p, z.1, rfl, ht, rfl, kV_is (P := X.prog) (w := X.w) ru⟩
    | succ j => exact hq j a b e
/-- dict(t), t a tuple of pairs (key, value) -/
theorem cr_dictZ (hc : X.calm = true) : CallR X (.type "dict") (fun xs H Q => ∃ a ps ws, xs = [.ref a] ∧ TupP X.K H a (ps.map V.ref) ∧ Paired (fun p z => SqT X.K H p [kV z.1, z.2]) ps ws ∧ ws.length ≤ sizeLine ∧
    ∀ p, H p = none → Q (.ref p) (upd H p (.dK (mergeK [] ws)))) := by
  rintro pins s σ H xs us Q I r ⟨a, ps, ws, rfl, ht, hp, hz, q⟩
  rw [Vals.ref1 r]
  obtain ⟨its, rv, pl, _⟩ := tup_plain I ht
  rw [refs_at rv] at pl
  obtain ⟨qs, rs, rk, l1, l2, hq⟩ := parts_of I hp
  have P := PairArg.tuple (prog := X.prog) (w := X.w) a (ps.map Value.ref).toArray (fun j => ps.getD j 0) qs
  refine PySem.call_dict_pairs (knd := mixKind X.prog X.w) (kvs := rs) P (I.ok.hd hc) ⟨pl, by simp [l2], fun j k v e => ?_⟩ ⟨by rw [l1, l2], fun j k v e => ?_⟩ (by rw [l2, ← l1, ← rk.length]; exact hz) fun h' tk hd kp => ?_
  · obtain ⟨p, _, e1, e2, _⟩ := hq j k v e
    refine ⟨by simp [e1], .inl ?_⟩
    show s.heap.IsTuple (ps.getD j 0) _
    rw [List.getD_eq_getElem?_getD, e1]
    exact e2
  · obtain ⟨p, k', _, _, e3, e4⟩ := hq j k v e
    exact ⟨k', e3, e4⟩
  · have n : (mergeK [] ws).length ≤ sizeLine := by
      have := length_mergeK ws []
      rw [List.length_nil] at this
      omega
    exact ⟨.ref s.heap.objs.size, _, I.laid (o := .dK (mergeK [] ws)) (t' := tk) (fun b o e => kp b o (by simp) e) (Nat.le_refl _) ⟨n, beq_eq_false_iff_ne.mpr (Nat.ne_of_gt I.big), _, KV.merge rk .nil, hd⟩, rfl, q _ (I.hok.fresh (Nat.le_refl _))⟩
theorem bi_dict (hc : X.calm = true) : CallR X (.type "dict") (rBi X.K .dict) := by
  intro pins s σ H xs us Q I r h
  obtain ⟨μ, s0, ds, Wn, R, hv, h⟩ := h
  match hv with
  | .nil => exact h.elim
  | .cons hx .nil =>
    cases hx with
    | tup h1 h2 =>
      simp only [biV] at h
      cases hk : pairs? _ with
      | none => rw [hk] at h; exact h.elim
      | some ks =>
        rw [hk] at h
        obtain ⟨ps, ws, e1, e2, e3⟩ := pairs_kr h2 hk
        subst e1
        have hz : ws.length ≤ sizeLine := by
          obtain ⟨its, rv, _, hz⟩ := I.tuple h1.sq
          rw [List.length_map, e2.length] at hz
          exact hz
        refine cr_dictZ hc pins s σ H _ us Q I r ⟨_, ps, ws, rfl, h1, e2, hz, fun p hp => ?_⟩
        have e4 : KR X.K μ H (mergeK [] ws) (mergeD [] ks) := e3.fill .nil
        have n : (mergeD [] ks).length ≤ sizeLine := by
          rw [← e4.len]
          have := length_mergeK ws []
          rw [List.length_nil] at this
          omega
        exact h (μ ++ [p]) _ (le_new hp) (R.newD hp e4.both.1 e4.both.2 n) _ (ref_new R)
    | _ => exact h.elim
  | .cons hx (.cons hy hr) => cases hx <;> exact h.elim
variable {T : Tb} {ex : Option (Addr × Nat)} {W : WX} {a b c : Expr} {ca cb cc : CE} {pos apos : Pos}
theorem dct_rd {K : PySem.W.Frag} {μ : List Addr} {H : Hp} {s : Store} {l : Nat} {a : Addr} {ks : List (Key × DV)} (R : Rel K μ H s) (hm : μ[l]? = some a) (h : dctAt s l = some ks) : ∃ ws, Rd H a (.dK ws) ∧ KR K μ H ws ks := by
  unfold dctAt at h
  split at h
  · rename_i k0 hc
    cases h
    obtain ⟨ws, d, k1, k2, _⟩ := R.at_ _ _ _ hm hc
    exact ⟨ws, .inl d, .of k1 k2⟩
  · rename_i k0 hc
    cases h
    obtain ⟨o, ws, d, k1, k2, _⟩ := R.at_ _ _ _ hm hc
    exact ⟨ws, .inr ⟨o, d⟩, .of k1 k2⟩
  · cases h
/-- d.get(k, x) -/
theorem se_get2 (hu : X.A.units + 64 < cLine) (ha : SE T X ex W a ca) (hb : SE T X ex W b cb) (hc : SE T X ex W c cc) (m : M2 X a "get" apos b c pos) : SE T X ex W (.Call (.Attribute a "get" apos) [b, c] [] pos) (.get2 ca cb cc) :=
  ⟨(pe_dget2 (Nat.lt_of_le_of_lt (Nat.add_le_add_left (by decide) _) hu) ha.pe hb.pe hc.pe m).imp fun σ H Q h => by
    obtain ⟨μ, r, s, R, L, h⟩ := h
    refine ⟨μ, r, s, R, L, h.bind.map fun μ1 H1 s1 x le1 R1 h1 v hv => ?_⟩
    cases hv with
    | ref hm =>
      simp only at h1
      cases hc0 : dctAt s1 _ with
      | none => rw [hc0] at h1; exact h1.elim
      | some ks0 =>
        rw [hc0] at h1
        obtain ⟨ws0, d0, _⟩ := dct_rd R1 hm hc0
        refine ⟨_, rfl, .inl ⟨_, d0⟩, μ1, r, s1, R1, L.mono le1, Go.map (Go.bind h1) fun μ2 H2 s2 y le2 R2 h2 w hw => ?_⟩
        refine ⟨μ2, r, s2, R2, (L.mono le1).mono le2, h2.bind.map fun μ3 H3 s3 z le3 R3 h3 u hu => ?_⟩
        cases hc3 : dctAt s3 _ with
        | none => rw [hc3] at h3; exact h3.elim
        | some ks =>
          rw [hc3] at h3
          obtain ⟨ws, d3, kr⟩ := dct_rd R3 (le3.pre _ _ (le2.pre _ _ hm)) hc3
          simp only [optR] at h3
          cases hk : key? y with
          | none => rw [hk] at h3; exact h3.elim
          | some k =>
            rw [hk] at h3
            have := key_kV hw hk
            subst this
            exact ⟨_, .inl ⟨ws, k, d3, rfl, rfl⟩, h3.ok R3 _ (kr.find k hu)⟩
    | _ => exact h1.elim⟩
/-- {} -/
theorem se_dnew : SE T X ex W (.Dict [] [] pos) .dnew := ⟨pe_dnewK.imp fun σ H Q h => by
  obtain ⟨μ, r, s, R, L, h⟩ := h
  exact fun p hp => h (μ ++ [p]) _ (le_new hp) (R.newD hp rfl .nil (Nat.zero_le _)) _ (ref_new R)⟩
theorem KR.sees {ws : List (Key × V)} {ks : List (Key × DV)} {K : PySem.W.Frag} {μ : List Addr} {H : Hp} (h : KR K μ H ws ks) (k : Key) : (∀ v, valV ws k = some v → ∃ d, getD ks k = some d ∧ VR K μ H v d) ∧ (valV ws k = none → getD ks k = none) := by
  induction h with
  | nil => exact ⟨fun v e => (by cases e), fun _ => rfl⟩
  | @cons k0 v0 d0 ws0 ks0 q _ ih =>
    have e1 : valV ((k0, v0) :: ws0) k = if k0 = k then some v0 else valV ws0 k := by
      unfold valV
      rw [List.find?_cons]
      by_cases e : k0 = k <;> simp [e]
    have e2 : getD ((k0, d0) :: ks0) k = if k0 = k then some d0 else getD ks0 k := by
      unfold getD
      rw [List.find?_cons]
      by_cases e : k0 = k <;> simp [e]
    rw [e1, e2]
    by_cases e : k0 = k
    · rw [if_pos e, if_pos e]
      exact ⟨fun v h => ⟨d0, rfl, Option.some.inj h ▸ q⟩, fun h => by cases h⟩
    · rw [if_neg e, if_neg e]
      exact ih
/-- d.setdefault(k, x) -/
theorem se_setd (ha : SE T X ex W a ca) (hb : SE T X ex W b cb) (hc : SE T X ex W c cc) (m : M2 X a "setdefault" apos b c pos) : SE T X ex W (.Call (.Attribute a "setdefault" apos) [b, c] [] pos) (.setd ca cb cc) :=
  ⟨(pe_dsetd ha.pe hb.pe hc.pe m).imp fun σ H Q h => by
    obtain ⟨μ, r, s, R, L, h⟩ := h
    refine ⟨μ, r, s, R, L, h.bind.map fun μ1 H1 s1 x le1 R1 h1 v hv => ?_⟩
    cases hv with
    | ref hm =>
      simp only at h1
      cases hc0 : dctAt s1 _ with
      | none => rw [hc0] at h1; exact h1.elim
      | some ks0 =>
        rw [hc0] at h1
        obtain ⟨ws0, d0, _⟩ := dct_rd R1 hm hc0
        refine ⟨_, rfl, .inl ⟨_, d0⟩, μ1, r, s1, R1, L.mono le1, Go.map (Go.bind h1) fun μ2 H2 s2 y le2 R2 h2 w hw => ?_⟩
        refine ⟨μ2, r, s2, R2, (L.mono le1).mono le2, h2.bind.map fun μ3 H3 s3 z le3 R3 h3 u hu => ?_⟩
        split at h3
        · rename_i ks hc3
          have hm3 := le3.pre _ _ (le2.pre _ _ hm)
          obtain ⟨ws, d3, k1, k2, k3⟩ := R3.at_ _ _ _ hm3 hc3
          cases hk : key? y with
          | none => rw [hk] at h3; exact h3.elim
          | some k =>
            rw [hk] at h3
            simp only [optR] at h3
            have := key_kV hw hk
            subst this
            have kr := KR.of k1 k2
            obtain ⟨f1, f2⟩ := kr.sees k
            have hz : ws.length = ks.length := kr.len
            split at h3
            · rename_i hlt
              refine ⟨ws, k, d3, rfl, by rw [hz]; exact hlt, fun v hv => ?_, fun hn => ?_⟩
              · obtain ⟨d, hd, rv⟩ := f1 v hv
                rw [hd] at h3
                exact h3.ok R3 _ rv
              · rw [f2 hn] at h3
                have q := kr.put (k := k) hu
                have n := length_putD ks k z
                have le := le_setU (K := X.K) (μ := μ3) (w := .dK (putK ws k u)) d3 trivial fun _ _ z => nomatch z
                exact h3 μ3 _ le (R3.setD hm3 hc3 d3 q.both.1 q.both.2 (by omega)) _ (hu.mono le)
            · exact h3.elim
        · exact h3.elim
    | _ => exact h1.elim⟩
end
end Ip
end PtIpDict
section PtIpPick
set_option Elab.async false
set_option linter.all false
set_option maxRecDepth 100000
/-! tables of defs, constants that are tuples, max and min of a tuple -/
namespace Ip
open PySem PySem.Spec PyProof.Rows L2
section
variable {T : Tb} {X : Cx} {ex : Option (Addr × Nat)} {W : WX} {a b c e : Expr} {ca cb cc ce : CE} {pos : Pos} {es rest : List Expr} {ces : CEs}
/-! ### a constant that is a tuple -/
/-- a tuple of constants of the top -/
def KTup (K : PySem.W.Frag) (a : Addr) (vs : List V) : Prop := ∃ (o : Obj) (its : Array Value) (n : Nat), K.lookup a = some o ∧ o.cls = .type "tuple" ∧ o.dict = none ∧ o.data = .seq its n ∧ its.size ≤ sizeLine ∧ Vals vs its.toList
theorem se_globT (g : Nat) {x : Str} {xs : List Str} {p : Pos} (hG : T.G g = some (.tup (xs.map DV.str))) (hm : ∃ a, X.mg x = some (.ref a) ∧ KTup X.K a (xs.map V.str)) (hg : Gl X x := by rfl) (hd : (x == ("__debug__" : Str)) = false := by decide) : SE T X ex W (.Name x p) (.glob g) := by
  obtain ⟨a, hm, hk⟩ := hm
  exact ⟨(pe_glob (v := .ref a) hg hm rfl hd).imp fun σ H Q h => by
    obtain ⟨μ, r, s, R, L, h⟩ := h
    simp only [evE, hG] at h
    exact h.ok R _ (.tup (.const hk) (VRs.of_strs xs))⟩
/-! a constant of the top: tuples in tuples -/
mutual
inductive KC (K : PySem.W.Frag) : V → DV → Prop
  | non : KC K .non .non
  | bl (b : Bool) : KC K (.bl b) (.bl b)
  | int (i : Int) : KC K (.int i) (.int i)
  | str (x : Str) : KC K (.str x) (.str x)
  | tup {a : Addr} {vs : List V} {ds : List DV} : KTup K a vs → KCs K vs ds → KC K (.ref a) (.tup ds)
inductive KCs (K : PySem.W.Frag) : List V → List DV → Prop
  | nil : KCs K [] []
  | cons {v : V} {vs : List V} {d : DV} {ds : List DV} : KC K v d → KCs K vs ds → KCs K (v :: vs) (d :: ds)
end
mutual
theorem KC.vr {K : PySem.W.Frag} {μ : List Addr} {H : Hp} : ∀ {v : V} {d : DV}, KC K v d → VR K μ H v d
  | _, _, .non => .non
  | _, _, .bl b => .bl b
  | _, _, .int i => .int i
  | _, _, .str x => .str x
  | _, _, .tup h hs => .tup (.const h) (KCs.vr hs)
theorem KCs.vr {K : PySem.W.Frag} {μ : List Addr} {H : Hp} : ∀ {vs : List V} {ds : List DV}, KCs K vs ds → VRs K μ H vs ds
  | _, _, .nil => .nil
  | _, _, .cons h hs => .cons (KC.vr h) (KCs.vr hs)
end
theorem se_globC (g : Nat) {x : Str} {d : DV} {p : Pos} (hG : T.G g = some d) (hm : ∃ a, X.mg x = some (.ref a) ∧ KC X.K (.ref a) d) (hg : Gl X x := by rfl) (hd : (x == ("__debug__" : Str)) = false := by decide) : SE T X ex W (.Name x p) (.glob g) := by
  obtain ⟨a, hm, hk⟩ := hm
  exact ⟨(pe_glob (v := .ref a) hg hm rfl hd).imp fun σ H Q h => by
    obtain ⟨μ, r, s, R, L, h⟩ := h
    simp only [evE, hG] at h
    exact h.ok R _ hk.vr⟩
/-! ### max, min of a tuple of ints -/
theorem reads_ints {h : Heap} : ∀ {ns : List Int} {us : List Value}, Vals (ns.map V.int) us → ∃ as, ReadsAll h us (ns.map PyData.int) as
  | [], _, .nil => ⟨_, .nil⟩
  | n :: ns, _, .cons r t => by
    obtain ⟨k, rfl⟩ := r
    obtain ⟨as, q⟩ := reads_ints t
    exact ⟨_, .cons (.int n k) q⟩
theorem alike_ints (ns : List Int) : PySem.W.AlikeAll (ns.map PyData.int) := by
  refine ⟨fun x hx y hy => ?_, fun x hx => ?_⟩
  · obtain ⟨i, _, rfl⟩ := List.mem_map.mp hx
    obtain ⟨j, _, rfl⟩ := List.mem_map.mp hy
    rfl
  · obtain ⟨i, _, rfl⟩ := List.mem_map.mp hx
    intro e
    cases e
theorem depth_ints : ∀ ns : List Int, PyData.depthAll (ns.map PyData.int) = 0
  | [] => rfl
  | n :: ns => by
    simp only [List.map_cons, PyData.depthAll, PyData.depth, depth_ints ns]
    rfl
theorem bi_max1 (hc : X.calm = true) (hu : X.A.units + 64 < cLine) : CallR X (.builtin "max") (rBi X.K .max1) := by
  intro pins s σ H xs us Q I r h
  obtain ⟨μ, s0, ds, Wn, R, hv, h⟩ := h
  match hv with
  | .nil => exact h.elim
  | .cons hx .nil =>
    cases hx with
    | tup h1 h2 =>
      simp only [biV] at h
      cases hb : ints? _ with
      | none => rw [hb] at h; exact h.elim
      | some is =>
        rw [hb] at h
        simp only [optR] at h
        cases is with
        | nil => exact h.elim
        | cons i is =>
          have e1 := h2.ints hb
          subst e1
          obtain ⟨its, rv, hl, _⟩ := I.tuple h1.sq
          rw [Vals.ref1 r]
          obtain ⟨as, hr⟩ := reads_ints rv
          refine PySem.W.max_tuple_data (I.ok.hd hc) (vs := its.toArray) hl (by simpa using hr) (alike_ints (i :: is)) (by rw [show PyData.depthAll (PyData.int i :: is.map PyData.int) = 0 from depth_ints (i :: is)]; omega) fun j v h' tk bs _ hv hk => ?_
          rw [PySem.W.maxD_ints] at hv
          cases hv
          exact ⟨.int _, H, I.kept hk, ⟨_, rfl⟩, h.ok R _ (.int _)⟩
    | ref hm =>
      simp only [biV] at h
      cases hcl : cellL s0 _ with
      | none => rw [hcl] at h; exact h.elim
      | some ds =>
        rw [hcl] at h
        simp only [optR] at h
        cases hb : ints? ds with
        | none => rw [hb] at h; exact h.elim
        | some is =>
          rw [hb] at h
          simp only [optR] at h
          cases is with
          | nil => exact h.elim
          | cons i is =>
            obtain ⟨vs, c1, c2⟩ := R.cellL hm hcl
            have e1 := c2.ints hb
            subst e1
            obtain ⟨its, rv, hl, _⟩ := I.list c1
            rw [Vals.ref1 r]
            obtain ⟨as, hr⟩ := reads_ints rv
            refine PySem.W.max_list_data (I.ok.hd hc) (vs := its.toArray) hl.isList (by simpa using hr) (alike_ints (i :: is)) (by rw [show PyData.depthAll (PyData.int i :: is.map PyData.int) = 0 from depth_ints (i :: is)]; omega) fun j v h' tk bs _ hv hk => ?_
            rw [PySem.W.maxD_ints] at hv
            cases hv
            exact ⟨.int _, H, I.kept hk, ⟨_, rfl⟩, h.ok R _ (.int _)⟩
    | _ => exact h.elim
  | .cons hx (.cons hy hr) => cases hx <;> exact h.elim
theorem bi_min1 (hc : X.calm = true) (hu : X.A.units + 64 < cLine) : CallR X (.builtin "min") (rBi X.K .min1) := by
  intro pins s σ H xs us Q I r h
  obtain ⟨μ, s0, ds, Wn, R, hv, h⟩ := h
  match hv with
  | .nil => exact h.elim
  | .cons hx .nil =>
    cases hx with
    | tup h1 h2 =>
      simp only [biV] at h
      cases hb : ints? _ with
      | none => rw [hb] at h; exact h.elim
      | some is =>
        rw [hb] at h
        simp only [optR] at h
        cases is with
        | nil => exact h.elim
        | cons i is =>
          have e1 := h2.ints hb
          subst e1
          obtain ⟨its, rv, hl, _⟩ := I.tuple h1.sq
          rw [Vals.ref1 r]
          obtain ⟨as, hr⟩ := reads_ints rv
          refine PySem.W.min_tuple_data (I.ok.hd hc) (vs := its.toArray) hl (by simpa using hr) (alike_ints (i :: is)) (by rw [show PyData.depthAll (PyData.int i :: is.map PyData.int) = 0 from depth_ints (i :: is)]; omega) fun j v h' tk bs _ hv hk => ?_
          rw [PySem.W.minD_ints] at hv
          cases hv
          exact ⟨.int _, H, I.kept hk, ⟨_, rfl⟩, h.ok R _ (.int _)⟩
    | ref hm =>
      simp only [biV] at h
      cases hcl : cellL s0 _ with
      | none => rw [hcl] at h; exact h.elim
      | some ds =>
        rw [hcl] at h
        simp only [optR] at h
        cases hb : ints? ds with
        | none => rw [hb] at h; exact h.elim
        | some is =>
          rw [hb] at h
          simp only [optR] at h
          cases is with
          | nil => exact h.elim
          | cons i is =>
            obtain ⟨vs, c1, c2⟩ := R.cellL hm hcl
            have e1 := c2.ints hb
            subst e1
            obtain ⟨its, rv, hl, _⟩ := I.list c1
            rw [Vals.ref1 r]
            obtain ⟨as, hr⟩ := reads_ints rv
            refine PySem.W.min_list_data (I.ok.hd hc) (vs := its.toArray) hl.isList (by simpa using hr) (alike_ints (i :: is)) (by rw [show PyData.depthAll (PyData.int i :: is.map PyData.int) = 0 from depth_ints (i :: is)]; omega) fun j v h' tk bs _ hv hk => ?_
            rw [PySem.W.minD_ints] at hv
            cases hv
            exact ⟨.int _, H, I.kept hk, ⟨_, rfl⟩, h.ok R _ (.int _)⟩
    | _ => exact h.elim
  | .cons hx (.cons hy hr) => cases hx <;> exact h.elim
theorem bi_sum (hc : X.calm = true) : CallR X (.builtin "sum") (rBi X.K .sum) := by
  intro pins s σ H xs us Q I r h
  obtain ⟨μ, s0, ds, Wn, R, hv, h⟩ := h
  match hv with
  | .nil => exact h.elim
  | .cons hx .nil =>
    cases hx with
    | ref hm =>
      simp only [biV] at h
      cases hcl : cellL s0 _ with
      | none => rw [hcl] at h; exact h.elim
      | some ds =>
        rw [hcl] at h
        simp only [optR] at h
        cases hb : ints? ds with
        | none => rw [hb] at h; exact h.elim
        | some is =>
          rw [hb] at h
          obtain ⟨vs, c1, c2⟩ := R.cellL hm hcl
          have e1 := c2.ints hb
          subst e1
          exact cr_sum hc pins s σ H _ us Q I r ⟨_, is, rfl, c1, h.ok R _ (.int _)⟩
    | _ => exact h.elim
  | .cons hx (.cons hy hr) => cases hx <;> exact h.elim
/-! ### a table of defs: y = table[key]; return y(..) -/
def PickAt (T : Tb) (X : Cx) (k : Nat) (aT : Addr) (np : Nat) (z : Str) (f : Nat) : Prop := ∃ (ad : Addr) (fd : FuncData) (ps : List Str), KDct X.K X.w aT z (.ref ad) ∧
  FnOk X.prog X.w X.K X.mg X.base (L2.CX X.prog X.w) k ad fd ps (spC T X.K f np) ∧ ps.length = np ∧ PySem.W.keepIn X.K (.ref ad) = true ∧ Binds X.K fd ps []
theorem pick_nil {k : Nat} {aT : Addr} {np : Nat} : ∀ z f, ([] : List (Str × Nat)).lookup z = some f → PickAt T X k aT np z f := fun z f h => by cases h
theorem pick_cons {k : Nat} {aT : Addr} {np : Nat} {z0 : Str} {f0 : Nat} {kvs : List (Str × Nat)} (h : PickAt T X k aT np z0 f0) (hr : ∀ z f, kvs.lookup z = some f → PickAt T X k aT np z f) : ∀ z f, ((z0, f0) :: kvs).lookup z = some f → PickAt T X k aT np z f := fun z f q => by
  rw [List.lookup_cons] at q
  split at q
  · rename_i e
    cases q
    have e' : z = z0 := eq_of_beq e
    subst e'
    exact h
  · exact hr z f q
/-- a local that holds a def, called -/
theorem pe_callV {i : Nat} {k : Nat} {f : Addr} {fd : FuncData} {ps : List Str} {sp : Sp} {E : L2.St → XK} {x : Str} {p : Pos} {t : TA} (F : FnOk X.prog X.w X.K X.mg X.base (L2.CX X.prog X.w) k f fd ps sp) (hr : Room k X.A) (hk : PySem.W.keepIn X.K (.ref f) = true) (hb : Binds X.K fd ps []) (hx : ∀ σ, PassesAt (L2.CX X.prog X.w) X σ (E σ))
    (hN : X.N[i]? = some x) (hv : Vis X.env.scope x) (ha : PA X (e :: es) t)
    (hd : (x == ("__debug__" : Str)) = false := by decide) (hcd : (x == ("__classdict__" : Str)) = false := by decide)
    (he : starEach (e :: es) X.env = (false, eval e X.env) :: starEach es X.env := by rfl) (hpl : (backTo pos (starEach es X.env)).any (·.1) = false := by rfl) :
    PE X (.Call (.Name x p) (e :: es) [] pos) (fun σ H Q => σ[i]? = some (some (.ref f)) ∧ tCallS sp E t σ H Q) := by
  refine ⟨fun pins s σ H Q I h => ?_⟩
  obtain ⟨hs, ht⟩ := h
  refine wpAny_Call_Name_kw (thn ((pe_var (pos := p) hN hv hd hcd).run pins s σ H (fun v H1 => v = .ref f ∧ H1 = H) I ⟨.ref f, hs, rfl, rfl⟩) fun u s1 ⟨v, H1, I1, r1, q1⟩ => ?_)
  obtain ⟨rfl, rfl⟩ := q1
  cases r1
  refine PySem.W.callWith_K (h₀ := X.base) I.ok.mod.kin hk (thn (ha.run pos pins s1 σ _ _ I1 ht) fun us s2 ⟨vs, H2, I2, r, q⟩ => ⟨I2.kIn, ?_⟩) he hpl
  exact run_fnS F hr hb (hx σ) I2 r q
theorem LR.void {K : PySem.W.Frag} {μ : List Addr} {H : Hp} {σ : L2.St} {r : Loc} {i : Nat} {o : Option V} (h : LR K ex μ H σ r) : LR K ex μ H (σ.set i o) (r.set i none) := by
  refine ⟨by rw [List.length_set, List.length_set]; exact h.len, fun j e he => ?_⟩
  by_cases hij : i = j
  · subst hij
    have hlt : i < (r.set i none).length := (List.getElem?_eq_some_iff.mp he).1
    rw [List.length_set] at hlt
    rw [List.getElem?_set_self hlt] at he
    cases he
  · rw [List.getElem?_set_ne hij] at he
    rw [List.getElem?_set_ne hij]
    exact h.at_ j e he
theorem sss_pick (i : Nat) {k : Nat} {aT : Addr} {np : Nat} {tbl y : Str} {kvs : List (Str × Nat)} {ekey : Expr} {pt p2 p3 p4 p5 p6 py : Pos} (hN : X.N.Nodup) (hm : X.mg tbl = some (.ref aT)) (hk : ∀ z f, kvs.lookup z = some f → PickAt T X k aT np z f) (hr : Room k X.A) (tk : Takes X W)
    (he : SE T X ex W ekey ce) (ha : SEs T X ex W (e :: es) ces) (hlen : ∀ r s xs s', evEs T.call T.G T.sub ces r s = .ok xs s' → xs.length = np) (hi : X.N[i]? = some y := by rfl) (hx : L2.Loc X.env.scope y := by first | exact Or.inl rfl | exact Or.inr rfl)
    (hf : X.fn y = true ∨ X.env.scope.names.lookup y = some .local := by first | exact .inl rfl | exact .inr rfl) (hv : Vis X.env.scope y := by first | exact Or.inl rfl | exact Or.inr (Or.inl rfl) | exact Or.inr (Or.inr rfl)) (hg : Gl X tbl := by rfl) (hdb : (tbl == ("__debug__" : Str)) = false := by decide) (hp : PlainIx ekey := by exact fun _ _ => rfl)
    (hd : (y == ("__debug__" : Str)) = false := by decide) (hcd : (y == ("__classdict__" : Str)) = false := by decide) (hes : starEach (e :: es) X.env = (false, eval e X.env) :: starEach es X.env := by rfl) (hpl : (backTo p5 (starEach es X.env)).any (·.1) = false := by rfl)
    (hs : swapsWithSole [.Name y py] (.Subscript (.Name tbl pt) ekey p2) p3.line X.env = pure false := by rfl) (hw : swappedStores [.Name y py] (.Subscript (.Name tbl pt) ekey p2) X.env = pure none := by rfl)
    (h1 : (assignEach [.Name y py] X.env).map (·.2) = [assign (.Name y py) X.env] := by rfl) :
    SSs T X ex W [.Assign [.Name y py] (.Subscript (.Name tbl pt) ekey p2) p3, .Return (some (.Call (.Name y p4) (e :: es) [] p5)) p6] (.cons (.pick i ce kvs ces) .nil) := by
  have pk : PE X (.Call (.Name y p4) (e :: es) [] p5) (fun σ H Q => ∃ ad fd ps f, FnOk X.prog X.w X.K X.mg X.base (L2.CX X.prog X.w) k ad fd ps (spC T X.K f np) ∧ PySem.W.keepIn X.K (.ref ad) = true ∧ Binds X.K fd ps [] ∧ σ[i]? = some (some (.ref ad)) ∧ tCallS (spC T X.K f np) (WE W) (tEs T X.K ex W ces) σ H Q) :=
    ⟨fun pins s σ H Q I h => by
      obtain ⟨ad, fd, ps, f, FO, kp, bd, q⟩ := h
      exact (pe_callV FO hr kp bd (fun σ => passAt tk σ) hi hv ha.pa hd hcd hes hpl).run pins s σ H Q I q⟩
  refine ⟨(pss_cons (ps_asg (pe_ix ix_kdict (pe_glob (v := .ref aT) hg hm rfl hdb) he.pe hp) (pg_name hN hi hx hf) hs hw h1) (pss_one (ps_ret pk))).imp fun D σ H h => ?_⟩
  obtain ⟨μ, r, s, R, L, h⟩ := h
  simp only [evSs, evS] at h
  refine ⟨μ, r, s, R, L, ?_⟩
  cases hm1 : evE T.call T.G T.sub ce r s with
  | exc c s1 =>
    rw [hm1] at h
    exact fun μ' H' le R' => h μ' H' σ le R' (L.mono le)
  | stuck => rw [hm1] at h; exact h
  | ok x s1 =>
    rw [hm1] at h
    simp only [Res.out] at h
    intro μ1 H1 le1 R1 v hv1
    have L1 := L.mono le1
    cases hv1 with
    | str z =>
      simp only at h
      cases hz : kvs.lookup z with
      | none => rw [hz] at h; exact h.elim
      | some f =>
        rw [hz] at h
        simp only at h
        by_cases hlt : i < r.length
        · rw [if_pos hlt] at h
          obtain ⟨ad, fd, ps, kd, FO, _, kp, bd⟩ := hk z f hz
          refine ⟨aT, z, .ref ad, rfl, rfl, kd, ?_⟩
          refine ⟨ad, fd, ps, f, FO, kp, bd, List.getElem?_set_self (by rw [← L1.len]; exact hlt), ?_⟩
          refine ⟨μ1, r.set i none, s1, R1, L1.void, ?_⟩
          cases hm2 : evEs T.call T.G T.sub ces (r.set i none) s1 with
          | exc c s2 =>
            rw [hm2] at h
            exact fun μ' H' le R' => h μ' H' _ (le1.trans le) R' (L1.void.mono le)
          | stuck => rw [hm2] at h; exact h
          | ok xs s2 =>
            rw [hm2] at h
            simp only [Res.bind] at h
            intro μ2 H2 le2 R2 vs hvs
            refine ⟨μ2, s2, xs, R2, hvs, hlen _ _ _ _ hm2, ?_⟩
            cases hm3 : T.call f xs s2 with
            | exc c s3 =>
              rw [hm3] at h
              exact fun μ' H' le R' => h μ' H' _ ((le1.trans le2).trans le) R' ((L1.void.mono le2).mono le)
            | stuck => rw [hm3] at h; exact h
            | ok d s3 =>
              rw [hm3] at h
              exact fun μ' H' le R' u hu => h μ' H' u ((le1.trans le2).trans le) R' hu
        · rw [if_neg hlt] at h
          exact h.elim
    | _ => exact h.elim
end
end Ip
end PtIpPick
section PtIpText
set_option Elab.async false
set_option linter.all false
set_option maxRecDepth 100000
/-! f-strings -/
namespace Ip
open PySem PySem.Spec PyProof.Rows L2
section
variable {T : Tb} {X : Cx} {ex : Option (Addr × Nat)} {W : WX} {a b c e : Expr} {ca cb cc ce : CE} {pos : Pos} {es rest : List Expr} {ces : CEs}
/-- {x} -/
theorem se_fmtv (ha : SE T X ex W a ca) : SE T X ex W (.FormattedValue a (-1) none pos) (.bi .fmt (.cons ca .nil)) := ⟨(pe_fmt ha.pe).imp fun σ H Q h => by
  obtain ⟨μ, r, s, R, L, h⟩ := h
  simp only [evE, evEs] at h
  rw [Res.bind_assoc] at h
  refine ⟨μ, r, s, R, L, h.bind.map fun μ1 H1 s1 x le1 R1 h1 v1 hv1 => ?_⟩
  simp only [Res.bind] at h1
  cases hv1 with
  | str z =>
    simp only [biV] at h1
    split at h1
    · rename_i hl
      exact .inl ⟨z, rfl, Nat.le_trans hl (by decide), h1.ok R1 _ (.str _)⟩
    · exact h1.elim
  | int i =>
    simp only [biV] at h1
    split at h1
    · rename_i hl
      exact .inr ⟨i, rfl, hl.1, h1.ok R1 _ (.str _)⟩
    · exact h1.elim
  | _ => exact h1.elim⟩
/-- a part: always a short text -/
def StrE (T : Tb) (c : CE) : Prop := ∀ r s x s', evE T.call T.G T.sub c r s = .ok x s' → ∃ z, x = .str z ∧ z.length ≤ 100000
theorem strE_k {z : Str} (h : z.length ≤ 100000) : StrE T (.k (.str z)) := fun r s x s' q => by
  cases q
  exact ⟨z, rfl, h⟩
theorem strE_fmt : StrE T (.bi .fmt (.cons ca .nil)) := fun r s x s' q => by
  simp only [evE, evEs] at q
  cases hm : evE T.call T.G T.sub ca r s with
  | ok d s1 =>
    rw [hm] at q
    simp only [Res.bind] at q
    cases d with
    | str z =>
      simp only [biV] at q
      split at q
      · rename_i hl
        cases q
        exact ⟨z, rfl, hl⟩
      · cases q
    | int i =>
      simp only [biV] at q
      split at q
      · rename_i hl
        cases q
        exact ⟨_, rfl, hl.2⟩
      · cases q
    | _ => cases q
  | exc c s1 => rw [hm] at q; cases q
  | stuck => rw [hm] at q; cases q
structure SJ (T : Tb) (X : Cx) (ex : Option (Addr × Nat)) (W : WX) (es : List Expr) (cs : CEs) (n : Nat) : Prop where
  ok : ∃ ts, PJ X es ts ∧ ∀ (acc : Str) σ H (Q : Str → Hp → Prop) μ r s, Rel X.K μ H s → LR X.K ex μ H σ r → acc.length + 100000 * n ≤ sizeLine →
    Go X.K μ H (evEs T.call T.G T.sub cs r s) (fun c H' => ∀ C, T.cls c = some C → W (.ref C) none σ H') (fun μ' H' _ ds => ∀ zs, strs? ds = some zs → Q (zs.foldl (· ++ ·) acc) H') → tJs ts acc σ H Q
theorem sj_nil : SJ T X ex W [] .nil 0 := ⟨⟨[], .nil, fun acc σ H Q μ r s R L hz h => h.ok R [] rfl⟩⟩
theorem sj_cons {n : Nat} (ha : SE T X ex W e ce) (hs : StrE T ce) (hr : SJ T X ex W es ces n) : SJ T X ex W (e :: es) (.cons ce ces) (n + 1) := by
  obtain ⟨ts, hp, hk⟩ := hr.ok
  refine ⟨_, .cons ha.pe hp, fun acc σ H Q μ r s R L hz h => ?_⟩
  refine ⟨μ, r, s, R, L, ?_⟩
  simp only [evEs] at h
  cases hm : evE T.call T.G T.sub ce r s with
  | exc c s1 => rw [hm] at h; exact h
  | stuck => rw [hm] at h; exact h
  | ok x s1 =>
    rw [hm] at h
    obtain ⟨z, rfl, hl⟩ := hs _ _ _ _ hm
    intro μ1 H1 le1 R1 v hv
    cases hv
    have hz2 : (acc ++ z).length + 100000 * n ≤ sizeLine := by
      rw [Str.length_append]
      omega
    refine ⟨z, rfl, by omega, hk (acc ++ z) σ H1 Q μ1 r s1 R1 (L.mono le1) hz2 ?_⟩
    simp only [Res.bind] at h
    have h := Go.later (K := X.K) h le1
    cases hm2 : evEs T.call T.G T.sub ces r s1 with
    | exc c s2 => rw [hm2] at h; exact h
    | stuck => rw [hm2] at h; exact h
    | ok ds s2 =>
      rw [hm2] at h
      exact fun μ2 H2 le2 R2 zs hzs => h μ2 H2 le2 R2 (z :: zs) (by simp only [strs?, hzs])
theorem se_joined {v1 v2 : Expr} {n : Nat} (h : SJ T X ex W (v1 :: v2 :: rest) ces n) (hn : n ≤ 16 := by decide) : SE T X ex W (.JoinedStr (v1 :: v2 :: rest) pos) (.bi .cat ces) := by
  obtain ⟨ts, hp, hk⟩ := h.ok
  refine ⟨(pe_joined hp).imp fun σ H Q h => ?_⟩
  obtain ⟨μ, r, s, R, L, h⟩ := h
  refine hk Str.empty σ H _ μ r s R L (by
    have : (100000 : Nat) * n ≤ 1600000 := by omega
    have : (1600000 : Nat) ≤ sizeLine := by decide
    show 0 + 100000 * n ≤ sizeLine
    omega) ?_
  simp only [evE] at h
  cases hm : evEs T.call T.G T.sub ces r s with
  | exc c s1 => rw [hm] at h; exact h
  | stuck => rw [hm] at h; exact h
  | ok ds s1 =>
    rw [hm] at h
    intro μ1 H1 le1 R1 zs hzs
    have h := Go.later (K := X.K) h le1
    simp only [Res.bind, biV, hzs, optR] at h
    split at h
    · exact h.ok R1 _ (.str _)
    · exact h.elim
end
end Ip
end PtIpText
section PtIpLib
set_option Elab.async false
set_option linter.all false
set_option maxRecDepth 100000
/-! comprehensions and stores, by words -/
namespace Ip
open PySem
section
variable {call : Nat → List DV → Store → Res DV} {G : Nat → Option DV} {sub : Nat → Nat → Bool}
theorem get_snoc {s : Store} {c : Cell} : (s ++ [c])[s.length]? = some c := by
  rw [List.getElem?_append_right (Nat.le_refl _), Nat.sub_self]
  rfl
theorem set_snoc {s : Store} {c c' : Cell} : (s ++ [c]).set s.length c' = s ++ [c'] := by
  rw [List.set_append_right _ _ (Nat.le_refl _), Nat.sub_self]
  rfl
theorem get_more {s t : Store} {n : Nat} {c : Cell} (h : s[n]? = some c) : (s ++ t)[n]? = some c := by
  rw [List.getElem?_append_left (lt_of_get h)]
  exact h
theorem cell_app {s t : Store} {n : Nat} {xs : List DV} (h : cellL s n = some xs) : cellL (s ++ t) n = some xs := by
  unfold cellL at h ⊢
  cases e : s[n]? with
  | none => rw [e] at h; cases h
  | some c => rw [get_more e]; rw [e] at h; exact h
theorem cell_snoc {s : Store} {xs : List DV} : cellL (s ++ [.lst xs]) s.length = some xs := cellL_of get_snoc
theorem free_ok {s : Store} : Src.free.ok s := trivial
/-- a comprehension whose turns leave the store as it is -/
theorem lc_pure {f : Src} {s0 : Store} {body : DV → Store → Res (Option DV)} {g : DV → Option DV} (hf : ∀ acc, f.ok (s0 ++ [.lst acc])) : ∀ (xs acc : List DV), (∀ x ∈ xs, ∀ acc, body x (s0 ++ [.lst acc]) = .ok (g x) (s0 ++ [.lst acc])) → acc.length + xs.length ≤ sizeLine →
    lcL s0.length f body xs (s0 ++ [.lst acc]) = .ok (.ref s0.length) (s0 ++ [.lst (acc ++ xs.filterMap g)])
  | [], acc, _, _ => by
    simp only [lcL]
    rw [if_pos (hf acc), List.filterMap_nil, List.append_nil]
  | x :: xs, acc, hb, hz => by
    have hx := hb x List.mem_cons_self acc
    have hr := fun acc' h => lc_pure hf xs acc' (fun y hy => hb y (List.mem_cons_of_mem _ hy)) h
    rw [List.length_cons] at hz
    simp only [lcL]
    rw [if_pos (hf acc), hx]
    simp only [Res.quiet, Res.bind]
    cases hg : g x with
    | none =>
      rw [hr acc (by omega), List.filterMap_cons, hg]
    | some v =>
      simp only
      rw [get_snoc]
      simp only
      rw [if_pos (by omega), set_snoc, hr (acc ++ [v]) (by rw [List.length_append, List.length_singleton]; omega), List.filterMap_cons, hg, List.append_assoc]
      rfl
/-- [e for t in it] with one value a turn -/
theorem lc_run {t : CT} {it : CI} {ifs : CEs} {e : CE} {own : List Nat} {r : Loc} {s : Store} {f : Src} {xs : List DV} (g : DV → Option DV) (hi : evI call G sub it r s = .ok (f, xs) s) (hf : ∀ acc, f.ok (s ++ [.lst acc]))
    (hb : ∀ x ∈ xs, ∀ acc, ((evT call G sub t x (wipe r own) (s ++ [.lst acc])).bind fun r s => (evAll call G sub ifs r s).bind fun b s => cond b ((evE call G sub e r s).bind fun v s => Res.ok (some v) s) (.ok none s)) = .ok (g x) (s ++ [.lst acc])) (hz : xs.length ≤ sizeLine) :
    evE call G sub (.lc t it ifs e own) r s = .ok (.ref s.length) (s ++ [.lst (xs.filterMap g)]) := by
  rw [qE_lc, hi]
  simp only [Res.bind]
  have := lc_pure (s0 := s) (body := fun x s => (evT call G sub t x (wipe r own) s).bind fun r s => (evAll call G sub ifs r s).bind fun b s => cond b ((evE call G sub e r s).bind fun v s => Res.ok (some v) s) (.ok none s)) (g := g) hf xs [] hb (by rw [List.length_nil]; omega)
  rw [List.nil_append] at this
  exact this
end
/-! ### what is kept of a store -/
/-- all but the reader at d stands as it stood -/
def Kp (d : Nat) (s s' : Store) : Prop := s.length ≤ s'.length ∧ ∀ n, n < s.length → n ≠ d → s'[n]? = s[n]?
theorem Kp.refl {d : Nat} {s : Store} : Kp d s s := ⟨Nat.le_refl _, fun _ _ _ => rfl⟩
theorem Kp.trans {d : Nat} {s s' s2 : Store} (h : Kp d s s') (h2 : Kp d s' s2) : Kp d s s2 := ⟨Nat.le_trans h.1 h2.1, fun n hn hd => (h2.2 n (Nat.lt_of_lt_of_le hn h.1) hd).trans (h.2 n hn hd)⟩
theorem Kp.app {d : Nat} {s t : Store} : Kp d s (s ++ t) := ⟨by rw [List.length_append]; omega, fun n hn _ => List.getElem?_append_left hn⟩
theorem Kp.get {d n : Nat} {s s' : Store} {c : Cell} (h : Kp d s s') (hn : s[n]? = some c) (hd : n ≠ d) : s'[n]? = some c := (h.2 n (lt_of_get hn) hd).trans hn
theorem Kp.cell {d n : Nat} {s s' : Store} {xs : List DV} (h : Kp d s s') (hn : cellL s n = some xs) (hd : n ≠ d) : cellL s' n = some xs := by
  unfold cellL at hn ⊢
  cases e : s[n]? with
  | none => rw [e] at hn; cases hn
  | some c => rw [h.get e hd]; rw [e] at hn; exact hn
theorem Kp.take {d : Nat} {s s' : Store} (h : ∀ n, n ≠ d → s'[n]? = s[n]?) (hl : s'.length = s.length) : Kp d s s' := ⟨by omega, fun n _ hd => h n hd⟩
/-! ### a list walked by equal turns -/
theorem bin_cat {a b : Str} {s : Store} (h : a.length + b.length ≤ sizeLine) : binV .add (.str a) (.str b) s = .ok (.str (a ++ b)) s := by
  simp only [binV]
  rw [if_pos h]
theorem one_len {c : Nat} : (⟨#[c]⟩ : Str).length = 1 := rfl
end Ip
namespace Ip
open PySem
section
variable {f : Src} {body : DV → Loc → Store → Out} {x : DV} {xs : List DV} {r r' : Loc} {s s' : Store}
theorem forL_nil (h : f.ok s) : forL f body [] r s = .nx r s := by
  simp only [forL]
  rw [if_pos h]
theorem forL_nx (h : f.ok s) (hb : body x r s = .nx r' s') : forL f body (x :: xs) r s = forL f body xs r' s' := by
  simp only [forL]
  rw [if_pos h, hb]
theorem forL_ct (h : f.ok s) (hb : body x r s = .ct r' s') : forL f body (x :: xs) r s = forL f body xs r' s' := by
  simp only [forL]
  rw [if_pos h, hb]
theorem forL_exc {c : Nat} (h : f.ok s) (hb : body x r s = .exc c r' s') : forL f body (x :: xs) r s = .exc c r' s' := by
  simp only [forL]
  rw [if_pos h, hb]
theorem forL_rt {v : DV} (h : f.ok s) (hb : body x r s = .rt v s') : forL f body (x :: xs) r s = .rt v s' := by
  simp only [forL]
  rw [if_pos h, hb]
end
theorem lenset_ok {z : Str} {s : Store} (h : z.cps.size ≤ 1000) : biV .lenset [.str z] s = .ok (.int (IpS.metC (IpS.sgn z) z.cps.size).length) s := by
  simp only [biV]
  rw [if_pos (by unfold scanBound; omega)]
theorem len_str {z : Str} {s : Store} (h : z.length ≤ sizeLine) : biV .len [.str z] s = .ok (.int z.length) s := by
  simp only [biV]
  rw [if_pos h]
/-- a sign that was met before -/
def dupB (L : List Nat) : Bool := (List.range L.length).any fun k => decide (L.getD k 0 ∈ L.take k)
theorem met_any (val : Nat → Str) (c : Str) : ∀ i, (IpS.metC val i).any (· == c) = true ↔ ∃ a, a < i ∧ val a = c
  | 0 => by simp [IpS.metC]
  | i + 1 => by
    show (IpS.addC _ _).any _ = true ↔ _
    rw [IpS.addC_any, Bool.or_eq_true, met_any val c i, decide_eq_true_eq]
    constructor
    · rintro (⟨a, ha, e⟩ | e)
      · exact ⟨a, by omega, e⟩
      · exact ⟨i, by omega, e.symm⟩
    · rintro ⟨a, ha, e⟩
      by_cases h : a = i
      · subst h; exact .inr e.symm
      · exact .inl ⟨a, by omega, e⟩
theorem met_len (val : Nat → Str) : ∀ i, (IpS.metC val i).length = i ↔ ∀ b, b < i → ∀ a, a < b → val a ≠ val b
  | 0 => by simp [IpS.metC]
  | i + 1 => by
    show (IpS.addC _ _).length = _ ↔ _
    rw [IpS.addC_length]
    have hle := IpS.metC_le val i
    by_cases h : (IpS.metC val i).any (· == val i) = true
    · rw [if_pos h]
      obtain ⟨a, ha, e⟩ := (met_any val (val i) i).mp h
      constructor
      · intro q; omega
      · intro q; exact absurd e (q i (by omega) a ha)
    · rw [if_neg h]
      have ih := met_len val i
      constructor
      · intro q b hb a ha
        by_cases hbi : b = i
        · subst hbi
          exact fun e => h ((met_any val _ _).mpr ⟨a, ha, e⟩)
        · exact ih.mp (by omega) b (by omega) a ha
      · intro q
        have := ih.mpr fun b hb a ha => q b (by omega) a ha
        omega
theorem sgn_inj {z : Str} {a b : Nat} : IpS.sgn z a = IpS.sgn z b ↔ z.cps.getD a 0 = z.cps.getD b 0 := by
  unfold IpS.sgn
  constructor
  · intro h
    have h1 := congrArg Str.cps h
    simp only at h1
    have h2 := congrArg Array.toList h1
    simp only [List.cons.injEq, and_true] at h2
    exact h2
  · intro h; rw [h]
theorem getD_list {z : Str} {a : Nat} : z.cps.getD a 0 = z.cps.toList.getD a 0 := by
  rw [List.getD_eq_getElem?_getD, Array.getElem?_toList, Array.getD_eq_getD_getElem?]
theorem mem_take_iff {L : List Nat} {b c : Nat} (hb : b ≤ L.length) : c ∈ L.take b ↔ ∃ a, a < b ∧ L.getD a 0 = c := by
  rw [List.mem_iff_getElem?]
  constructor
  · rintro ⟨a, ha⟩
    rw [List.getElem?_take] at ha
    split at ha
    · rename_i h
      exact ⟨a, h, by rw [List.getD_eq_getElem?_getD, ha]; rfl⟩
    · cases ha
  · rintro ⟨a, ha, e⟩
    refine ⟨a, ?_⟩
    rw [List.getElem?_take, if_pos ha, List.getElem?_eq_getElem (by omega)]
    rw [List.getD_eq_getElem?_getD, List.getElem?_eq_getElem (by omega)] at e
    exact congrArg some e
theorem met_dup {z : Str} : (((IpS.metC (IpS.sgn z) z.cps.size).length : Int) == (z.length : Int)) = !dupB z.cps.toList := by
  have key : (IpS.metC (IpS.sgn z) z.cps.size).length = z.cps.size ↔ dupB z.cps.toList = false := by
    rw [met_len]
    unfold dupB
    rw [List.any_eq_false]
    constructor
    · intro h b hb hm
      rw [List.mem_range] at hb
      obtain ⟨a, ha, e⟩ := (mem_take_iff (Nat.le_of_lt hb)).mp (of_decide_eq_true hm)
      rw [Array.length_toList] at hb
      exact h b hb a ha (sgn_inj.mpr (by rw [getD_list, getD_list]; exact e))
    · intro h b hb a ha e
      refine h b (List.mem_range.mpr (by rw [Array.length_toList]; exact hb)) (decide_eq_true ?_)
      exact (mem_take_iff (by rw [Array.length_toList]; omega)).mpr ⟨a, ha, by rw [← getD_list, ← getD_list]; exact sgn_inj.mp e⟩
  cases hd : dupB z.cps.toList with
  | false =>
    have := key.mpr hd
    show _ = true
    rw [beq_iff_eq, this]
    rfl
  | true =>
    show _ = false
    rw [beq_eq_false_iff_ne]
    intro e
    have : (IpS.metC (IpS.sgn z) z.cps.size).length = z.cps.size := by exact_mod_cast e
    rw [key.mp this] at hd
    cases hd
end Ip
namespace Ip
open PySem
theorem cut_take {L : List Nat} {k : Nat} (h : k ≤ L.length) : cut L none (some (k : Int)) = L.take k := by
  unfold cut
  rw [HT.sIx_none, HT.sIx_nat, List.drop_zero, Nat.sub_zero, Nat.min_eq_left h]
theorem slice_str {z : Str} {lo hi : Option Int} {s : Store} (h : z.length ≤ sizeLine) : sliceV (.str z) lo hi s = .ok (.str ⟨(cut z.cps.toList lo hi).toArray⟩) s := by
  simp only [sliceV]
  rw [if_pos h]
theorem item_str {z : Str} {i : Int} {c : Nat} {s : Store} (h : z.length ≤ sizeLine) (hc : L2.atI z.cps.toList i = some c) : itemV (.str z) (.int i) s = .ok (.str ⟨#[c]⟩) s := by
  simp only [itemV]
  rw [if_pos h, hc]
theorem in_sign {c : Nat} {z : Str} {s : Store} : cmpV .in (.str ⟨#[c]⟩) (.str z) s = .ok (decide (c ∈ z.cps.toList)) s := by
  simp only [cmpV]
  rw [if_pos (show Str.length ⟨#[c]⟩ = 1 from rfl)]
  rfl
theorem notIn_sign {c : Nat} {z : Str} {s : Store} : cmpV .notIn (.str ⟨#[c]⟩) (.str z) s = .ok (!decide (c ∈ z.cps.toList)) s := by
  simp only [cmpV]
  rw [if_pos (show Str.length ⟨#[c]⟩ = 1 from rfl)]
  rfl
theorem pos_filter {α β : Type} {g : α → Option β} {p : α → Bool} : ∀ {l : List α}, (∀ x ∈ l, (g x).isSome = p x) → decide ((0 : Int) < ((l.filterMap g).length : Int)) = l.any p
  | [], _ => rfl
  | x :: l, h => by
    have ih := pos_filter (l := l) fun y hy => h y (List.mem_cons_of_mem _ hy)
    have hx := h x List.mem_cons_self
    rw [List.filterMap_cons, List.any_cons, ← hx]
    cases hg : g x with
    | none => 
      simp only [Option.isSome]
      rw [ih]
      rfl
    | some v => 
      simp only [List.length_cons, Option.isSome, Bool.true_or]
      exact decide_eq_true (by omega)
end Ip
namespace Ip
open PySem
theorem atI_ex {α : Type} {l : List α} {i : Int} (h0 : 0 ≤ i) (h1 : i < l.length) : ∃ a, L2.atI l i = some a ∧ a ∈ l := by
  obtain ⟨n, rfl⟩ : ∃ n : Nat, i = (n : Int) := ⟨i.toNat, by omega⟩
  have hn : n < l.length := by omega
  exact ⟨l[n], L2.atI_nat (List.getElem?_eq_getElem hn), List.getElem_mem hn⟩
theorem append_ok {n : Nat} {xs : List DV} {v : DV} {s : Store} (h : s[n]? = some (.lst xs)) (hz : xs.length < sizeLine) : mtV .append (.ref n) [v] s = .ok .non (s.set n (.lst (xs ++ [v]))) := by
  simp only [mtV, h, if_pos hz]
theorem cmpable_str {a : Str} (h : PyData.strOk a = true) : cmpable (.str a) = true := by
  simp [cmpable, pure?, pd, SeqAt.shaped, PyData.canLay0, PyData.depth, h]
theorem deq_str {a b : Str} : deq (.str a) (.str b) = decide (a = b) := by
  show PyData.eqv (.str a) (.str b) = _
  by_cases h : a = b
  · subst h
    simp [PyData.eqv]
  · rw [decide_eq_false h]
    simp [PyData.eqv, h]
theorem eq_str {a b : Str} {s : Store} (ha : PyData.strOk a = true) (hb : PyData.strOk b = true) : cmpV .eq (.str a) (.str b) s = .ok (decide (a = b)) s := by
  show (if (cmpable (.str a) && cmpable (.str b)) = true then _ else _) = _
  rw [if_pos (by rw [cmpable_str ha, cmpable_str hb]; rfl), deq_str]
theorem ne_str {a b : Str} {s : Store} (ha : PyData.strOk a = true) (hb : PyData.strOk b = true) : cmpV .ne (.str a) (.str b) s = .ok (!decide (a = b)) s := by
  show (if (cmpable (.str a) && cmpable (.str b)) = true then _ else _) = _
  rw [if_pos (by rw [cmpable_str ha, cmpable_str hb]; rfl), deq_str]
theorem eq_self {a : Str} {s : Store} (ha : PyData.strOk a = true) : cmpV .eq (.str a) (.str a) s = .ok true s := by
  rw [eq_str ha ha, decide_eq_true rfl]
theorem ne_self {a : Str} {s : Store} (ha : PyData.strOk a = true) : cmpV .ne (.str a) (.str a) s = .ok false s := by
  rw [ne_str ha ha, decide_eq_true rfl]
  rfl
theorem z_le (n : Nat) (h : n ≤ 1000) : (n ≤ sizeLine) = True := eq_true (Nat.le_trans h (by decide))
end Ip
namespace Ip
open PySem
/-! ### sizes -/
def Sm (n : Nat) (x : Int) : Prop := x.natAbs < 2 ^ n
theorem Sm.mono {n m : Nat} {x : Int} (h : Sm n x) (hm : n ≤ m) : Sm m x := Nat.lt_of_lt_of_le h (Nat.pow_le_pow_right (by decide) hm)
theorem Sm.mul {n m : Nat} {x y : Int} (h : Sm n x) (h2 : Sm m y) : Sm (n + m) (x * y) := by
  unfold Sm at *
  rw [Int.natAbs_mul, Nat.pow_add]
  exact Nat.mul_lt_mul'' h h2
theorem Sm.add {n : Nat} {x y : Int} (h : Sm n x) (h2 : Sm n y) : Sm (n + 1) (x + y) := by
  unfold Sm at *
  rw [Nat.pow_succ]
  omega
theorem Sm.neg {n : Nat} {x : Int} (h : Sm n x) : Sm n (-x) := by
  unfold Sm at *
  omega
theorem Sm.sub {n : Nat} {x y : Int} (h : Sm n x) (h2 : Sm n y) : Sm (n + 1) (x - y) := by
  rw [Int.sub_eq_add_neg]
  exact h.add h2.neg
theorem Sm.le {n : Nat} {x y : Int} (h : Sm n x) (h2 : y.natAbs ≤ x.natAbs) : Sm n y := Nat.lt_of_le_of_lt h2 h
theorem log2_lt {n m : Nat} (h : n < 2 ^ m) (hm : 0 < m) : n.log2 < m := by
  by_cases h0 : n = 0
  · subst h0
    exact hm
  · exact (Nat.log2_lt h0).mpr h
theorem Sm.log2 {n : Nat} {x : Int} (h : Sm n x) (hn : 0 < n) : x.natAbs.log2 < n := log2_lt h hn
theorem Sm.mulOk {n m : Nat} {x y : Int} (h : Sm n x) (h2 : Sm m y) (h0 : 0 < n) (h1 : 0 < m) (hs : n + m ≤ 1000000) : mulOk x y = true := by
  have := h.log2 h0
  have := h2.log2 h1
  unfold Ip.mulOk
  rw [Bool.or_eq_true]
  exact .inr (decide_eq_true (by omega))
theorem eqs {a b : Str} {c : Bool} (h : decide (a = b) = c) (ha : PyData.strOk a = true) (hb : PyData.strOk b = true) (s : Store) : cmpV .eq (.str a) (.str b) s = .ok c s := by
  rw [eq_str ha hb, h]
end Ip
end PtIpLib
section PtIpNum
set_option Elab.async false
set_option linter.all false
set_option maxRecDepth 100000
/-! ints as texts -/
namespace Ip
open PySem TL
/-- the signs of a natural number as it is written -/
def isNat (l : List Nat) : Bool := !l.isEmpty && l.all (fun c => decide (48 ≤ c) && decide (c ≤ 57)) && (decide (l.headD 0 ≠ 48) || decide (l = [48]))
def isInt (l : List Nat) : Bool := match l with
  | 45 :: r => decide (r ≠ [48]) && isNat r
  | _ => isNat l
def valI (l : List Nat) : Int := match l with
  | 45 :: r => -((NumText.digitsVal r : Nat) : Int)
  | _ => ((NumText.digitsVal l : Nat) : Int)
/-- an int, written -/
def strI (i : Int) : List Nat := if i < 0 then 45 :: numL i.natAbs else numL i.natAbs
theorem tl_int (i : Int) : tl (Str.ofString (toString i)) = strI i := by
  unfold strI
  by_cases h : i < 0
  · rw [if_pos h, PyProof.Rows.toString_neg h]
    have e : (0 - i : Int) = ((i.natAbs : Nat) : Int) := by omega
    rw [e]
    have : Str.ofString ("-" ++ toString ((i.natAbs : Nat) : Int)) = Str.ofString "-" ++ Str.ofString (toString ((i.natAbs : Nat) : Int)) := by
      apply ext_tl
      rw [tl_append, tl_ofString, tl_ofString, tl_ofString, String.toList_append, List.map_append]
    rw [this, tl_append, tl_num]
    rfl
  · rw [if_neg h]
    have e : i = ((i.natAbs : Nat) : Int) := by omega
    conv => lhs; rw [e]
    exact tl_num _
theorem isNat_iff {l : List Nat} : isNat l = true ↔ l ≠ [] ∧ (∀ c ∈ l, 48 ≤ c ∧ c ≤ 57) ∧ (l.headD 0 ≠ 48 ∨ l = [48]) := by
  unfold isNat
  rw [Bool.and_eq_true, Bool.and_eq_true, Bool.or_eq_true, List.all_eq_true]
  simp only [Bool.and_eq_true, decide_eq_true_eq, Bool.not_eq_true', List.isEmpty_eq_false_iff, and_assoc]
theorem isNat_digits {l : List Nat} (h : isNat l = true) : NumText.AllDigits l := (isNat_iff.mp h).2.1
theorem isNat_ne {l : List Nat} (h : isNat l = true) : l ≠ [] := (isNat_iff.mp h).1
theorem val_snoc (l : List Nat) (c : Nat) : NumText.digitsVal (l ++ [c]) = NumText.digitsVal l * 10 + (c - 48) := by
  unfold NumText.digitsVal
  rw [List.foldl_append]
  rfl
/-- what is written as a number is the writing of its value -/
theorem isNat_num : ∀ (n : Nat) (l : List Nat), l.length = n → isNat l = true → l = numL (NumText.digitsVal l) := by
  intro n
  induction n with
  | zero =>
    intro l hl h
    exact absurd (List.eq_nil_of_length_eq_zero hl) (isNat_ne h)
  | succ n ih =>
    intro l hl h
    obtain ⟨l', c, rfl⟩ : ∃ l' c, l = l' ++ [c] := ⟨l.dropLast, l.getLast (isNat_ne h), (List.dropLast_concat_getLast (isNat_ne h)).symm⟩
    obtain ⟨h1, h2, h3⟩ := isNat_iff.mp h
    have hc := h2 c (by simp)
    rw [val_snoc]
    cases l' with
    | nil =>
      have : NumText.digitsVal [] = 0 := rfl
      rw [this, Nat.zero_mul, Nat.zero_add, numL_lt (by omega)]
      show [c] = [48 + (c - 48)]
      rw [show 48 + (c - 48) = c by omega]
    | cons a r =>
      have ha : a ≠ 48 := by
        rcases h3 with h3 | h3
        · exact h3
        · have := congrArg List.length h3
          simp at this
      have hn : isNat (a :: r) = true := isNat_iff.mpr ⟨by simp, fun d hd => h2 d (List.mem_append_left _ hd), .inl ha⟩
      have e := ih (a :: r) (by simpa using hl) hn
      have hv : NumText.digitsVal (a :: r) ≠ 0 := fun z => by
        rw [z] at e
        have : numL 0 = [48] := by rw [numL_lt (by omega)]
        rw [this] at e
        exact ha (by injection e)
      rw [numL_step (n := NumText.digitsVal (a :: r) * 10 + (c - 48)) (by omega)]
      have q1 : (NumText.digitsVal (a :: r) * 10 + (c - 48)) / 10 = NumText.digitsVal (a :: r) := by omega
      have q2 : (NumText.digitsVal (a :: r) * 10 + (c - 48)) % 10 = c - 48 := by omega
      rw [q1, q2, ← e, show 48 + (c - 48) = c by omega]
theorem isNat_eq {l : List Nat} (h : isNat l = true) : l = numL (NumText.digitsVal l) := isNat_num _ l rfl h
theorem isInt_neg (r : List Nat) : isInt (45 :: r) = (decide (r ≠ [48]) && isNat r) := rfl
theorem valI_neg (r : List Nat) : valI (45 :: r) = -((NumText.digitsVal r : Nat) : Int) := rfl
theorem isInt_pos {l : List Nat} (h : ∀ r, l ≠ 45 :: r) : isInt l = isNat l := by
  unfold isInt
  split
  · exact absurd rfl (h _)
  · rfl
theorem valI_pos {l : List Nat} (h : ∀ r, l ≠ 45 :: r) : valI l = ((NumText.digitsVal l : Nat) : Int) := by
  unfold valI
  split
  · exact absurd rfl (h _)
  · rfl
theorem neg_or (l : List Nat) : (∃ r, l = 45 :: r) ∨ ∀ r, l ≠ 45 :: r := by
  by_cases h : ∃ r, l = 45 :: r
  · exact .inl h
  · exact .inr fun r e => h ⟨r, e⟩
theorem isInt_eq {l : List Nat} (h : isInt l = true) : l = strI (valI l) := by
  rcases neg_or l with ⟨r, rfl⟩ | hne
  · rw [isInt_neg, Bool.and_eq_true, decide_eq_true_eq] at h
    have e := isNat_eq h.2
    have hv : NumText.digitsVal r ≠ 0 := fun z => by
      rw [z] at e
      have : numL 0 = [48] := by rw [numL_lt (by omega)]
      rw [this] at e
      exact h.1 e
    rw [valI_neg]
    unfold strI
    rw [if_pos (by omega)]
    have : (-((NumText.digitsVal r : Nat) : Int)).natAbs = NumText.digitsVal r := by omega
    rw [this, ← e]
  · rw [isInt_pos hne] at h
    have e := isNat_eq h
    rw [valI_pos hne]
    unfold strI
    rw [if_neg (by omega), Int.natAbs_natCast]
    exact e
theorem strI_inj {i j : Int} (h : strI i = strI j) : i = j := by
  unfold strI at h
  have hd : ∀ n : Nat, ∀ l, numL n ≠ 45 :: l := fun n l e => by
    have := numL_digits n 45 (by rw [e]; exact List.mem_cons_self)
    omega
  by_cases h1 : i < 0
  · rw [if_pos h1] at h
    by_cases h2 : j < 0
    · rw [if_pos h2] at h
      have := numL_inj (List.cons.inj h).2
      omega
    · rw [if_neg h2] at h
      exact absurd h.symm (hd _ _)
  · rw [if_neg h1] at h
    by_cases h2 : j < 0
    · rw [if_pos h2] at h
      exact absurd h (hd _ _)
    · rw [if_neg h2] at h
      have := numL_inj h
      omega
theorem strI_free {i : Int} {s : Nat} (h : s < 45 ∨ 57 < s ∨ s = 46 ∨ s = 47) : s ∉ strI i := by
  unfold strI
  have h2 : s ∉ numL i.natAbs := numL_free (by omega)
  split
  · intro q
    rcases List.mem_cons.mp q with e | q
    · omega
    · exact h2 q
  · exact h2
/-- what is written is a number -/
theorem isNat_numL (n : Nat) : isNat (numL n) = true := by
  refine isNat_iff.mpr ⟨numL_ne n, numL_digits n, ?_⟩
  by_cases h0 : n = 0
  · subst h0
    exact .inr (by rw [numL_lt (by omega)])
  · left
    have : ∀ m : Nat, m ≠ 0 → (numL m).headD 0 ≠ 48 := by
      intro m
      induction m using Nat.strongRecOn with
      | ind m ih =>
        intro hm
        by_cases hl : m < 10
        · rw [numL_lt hl]
          show 48 + m ≠ 48
          omega
        · rw [numL_step (by omega)]
          have q := ih (m / 10) (by omega) (by omega)
          have hne := numL_ne (m / 10)
          cases hx : numL (m / 10) with
          | nil => exact absurd hx hne
          | cons a r =>
            rw [hx] at q
            exact q
    exact this n h0
theorem isInt_strI (i : Int) : isInt (strI i) = true := by
  unfold strI
  split
  · rename_i h
    show (decide (numL i.natAbs ≠ [48]) && isNat (numL i.natAbs)) = true
    rw [isNat_numL, Bool.and_true, decide_eq_true_eq]
    intro e
    have : numL 0 = [48] := by rw [numL_lt (by omega)]
    rw [← this] at e
    have := numL_inj e
    omega
  · rw [isInt_pos fun r hr => by
      have := numL_digits i.natAbs 45 (by rw [hr]; exact List.mem_cons_self)
      omega]
    exact isNat_numL _
theorem valI_strI (i : Int) : valI (strI i) = i := (strI_inj (isInt_eq (isInt_strI i))).symm
/-- int(text) -/
theorem int_read {z : Str} (h : isInt (tl z) = true) (hz : z.length ≤ 640) {s : Store} : biV .int [.str z] s = .ok (.int (valI (tl z))) s := by
  have e : PySem.intText? z = some (valI (tl z)) := by
    rcases neg_or (tl z) with ⟨r, hr⟩ | hne
    · rw [hr, isInt_neg, Bool.and_eq_true, decide_eq_true_eq] at h
      have hr' : z.cps.toList = 45 :: r := hr
      rw [intText_neg hr' (isNat_digits h.2) (isNat_ne h.2) (by omega), hr, valI_neg]
    · rw [isInt_pos hne] at h
      rw [intText_digits (isNat_digits h) (isNat_ne h) (by omega), valI_pos hne]
  simp only [biV, e, optR]
  rw [if_pos hz]
end Ip
end PtIpNum
section PtLk70A
set_option Elab.async false
set_option linter.all false
set_option maxRecDepth 100000
set_option maxHeartbeats 4000000
/-! the text of the law in the core language -/
namespace Lw
open PySem Ip
/-! def is_natural -/
def b0 : CSs := .cons (.ife (.not (.and (.smeth .isascii (.slot 0) (.nil)) (.smeth .isdigit (.slot 0) (.nil)))) (.cons (.ret (.k (.bl false))) (.nil)) (.nil)) (.cons (.ret (.and (.cmp .le (.bi .len (.cons (.slot 0) (.nil))) (.slot 1)) (.or (.cmp .ne (.ix (.slot 0) (.k (.int 0))) (.k (.str "0"))) (.cmp .eq (.slot 0) (.k (.str "0")))))) (.nil))
/-! def is_integer -/
def b1 : CSs := .cons (.ife (.smeth .startswith (.slot 0) (.cons (.k (.str "-")) (.nil))) (.cons (.ret (.and (.cmp .ne (.slot 0) (.k (.str "-0"))) (.call 0 (.cons (.slc (.slot 0) (.some (.k (.int 1))) .no) (.cons (.slot 1) (.nil)))))) (.nil)) (.nil)) (.cons (.ret (.call 0 (.cons (.slot 0) (.cons (.slot 1) (.nil))))) (.nil))
/-! def check_number -/
def b2 : CSs := .cons (.ret (.bin .mod (.bi .sum (.cons (.lc (.tup (.cons (.name 1) (.cons (.name 2) (.nil)))) (.enumK (.slot 0) (.k (.int 1))) (.nil) (.bin .mul (.slot 1) (.bi .ord (.cons (.slot 2) (.nil)))) [1, 2]) (.nil))) (.glob 1))) (.nil)
/-! def weight_words -/
def b3l0 : CSs := .cons (.drop (.meth .append (.slot 1) (.cons (.glob 4) .nil))) (.cons (.drop (.meth .extend (.slot 1) (.cons (.lc (.name 3) (.seq (.slot 2)) (.nil) (.bi .str (.cons (.slot 3) (.nil))) [3]) .nil))) (.nil))
def b3 : CSs := .cons (.asg (.name 1) (.lst (.nil))) (.cons (.for_ (.name 2) (.seq (.slot 0)) b3l0) (.cons (.ret (.slot 1)) (.nil)))
/-! def journal_line -/
def b4 : CSs := .cons (.asg (.name 2) (.smeth .join (.k (.str " ")) (.cons (.bin .add (.lst (.cons (.glob 2) (.cons (.bi .str (.cons (.slot 0) (.nil))) (.nil)))) (.call 3 (.cons (.slot 1) (.nil)))) (.nil)))) (.cons (.ret (.bi .cat (.cons (.bi .fmt (.cons (.slot 2) .nil)) (.cons (.k (.str " ")) (.cons (.bi .fmt (.cons (.glob 3) .nil)) (.cons (.k (.str " ")) (.cons (.bi .fmt (.cons (.call 2 (.cons (.slot 2) (.nil))) .nil)) (.cons (.k (.str "\n")) (.nil))))))))) (.nil))
/-! def check_ending -/
def b5 : CSs := .cons (.ife (.or (.cmp .lt (.bi .len (.cons (.slot 1) (.nil))) (.k (.int 4))) (.or (.cmp .ne (.ix (.slot 1) (.k (.int 0))) (.glob 2)) (.cmp .ne (.ix (.slot 1) (.neg (.k (.int 2)))) (.glob 3)))) (.cons (.raise 1) (.nil)) (.nil)) (.cons (.ife (.cmp .ne (.ix (.slot 1) (.neg (.k (.int 1)))) (.bi .str (.cons (.call 2 (.cons (.smeth .join (.k (.str " ")) (.cons (.slc (.slot 1) .no (.some (.neg (.k (.int 2))))) (.nil))) (.nil))) (.nil)))) (.cons (.raise 1) (.nil)) (.nil)) (.nil))
/-! def read_weights -/
def b6l0 : CSs := .cons (.asg (.name 5) (.slc (.slot 0) (.some (.bin .add (.slot 3) (.k (.int 1)))) (.some (.bin .add (.bin .add (.slot 3) (.k (.int 1))) (.slot 4))))) (.cons (.ife (.or (.cmp .ne (.slc (.slot 0) (.some (.slot 3)) (.some (.bin .add (.slot 3) (.k (.int 1))))) (.lst (.cons (.glob 4) (.nil)))) (.cmp .ne (.bi .len (.cons (.slot 5) (.nil))) (.slot 4))) (.cons (.raise 1) (.nil)) (.nil)) (.cons (.ife (.not (.bi .all (.cons (.lc (.name 6) (.seq (.slot 5)) (.nil) (.call 1 (.cons (.slot 6) (.cons (.glob 0) (.nil)))) [6]) (.nil)))) (.cons (.raise 1) (.nil)) (.nil)) (.cons (.drop (.meth .append (.slot 2) (.cons (.bi .tuple (.cons (.lc (.name 6) (.seq (.slot 5)) (.nil) (.bi .int (.cons (.slot 6) (.nil))) [6]) (.nil))) .nil))) (.cons (.asg (.name 3) (.bin .add (.bin .add (.slot 3) (.k (.int 1))) (.slot 4))) (.nil)))))
def b6 : CSs := .cons (.asg (.name 2) (.lst (.nil))) (.cons (.asg (.name 3) (.k (.int 0))) (.cons (.for_ (.name 4) (.seq (.slot 1)) b6l0) (.cons (.ife (.cmp .ne (.slot 3) (.bi .len (.cons (.slot 0) (.nil)))) (.cons (.raise 1) (.nil)) (.nil)) (.cons (.ret (.bi .tuple (.cons (.slot 2) (.nil)))) (.nil)))))
/-! def read_line -/
def b7 : CSs := .cons (.asg (.name 2) (.smeth .split (.slot 0) (.cons (.k (.str " ")) (.nil)))) (.cons (.drop (.call 5 (.cons (.slot 0) (.cons (.slot 2) (.nil))))) (.cons (.ife (.not (.call 0 (.cons (.ix (.slot 2) (.k (.int 1))) (.cons (.glob 0) (.nil))))) (.cons (.raise 1) (.nil)) (.nil)) (.cons (.ret (.tup (.cons (.bi .int (.cons (.ix (.slot 2) (.k (.int 1))) (.nil))) (.cons (.call 6 (.cons (.slc (.slot 2) (.some (.k (.int 2))) (.some (.neg (.k (.int 2))))) (.cons (.slot 1) (.nil)))) (.nil))))) (.nil))))
/-! def _law_begin -/
def b8l0 : CSs := .cons (.asg (.name 1) (.bin .mod (.bin .add (.bin .add (.bin .mul (.slot 1) (.k (.int 69621))) (.bin .mod (.bi .int (.cons (.slot 2) (.nil))) (.k (.int 2147483629)))) (.k (.int 7))) (.k (.int 2147483647)))) (.nil)
def b8 : CSs := .cons (.asg (.name 1) (.k (.int 1))) (.cons (.for_ (.name 2) (.seq (.slot 0)) b8l0) (.cons (.ret (.lst (.cons (.bi .list (.cons (.slot 0) (.nil))) (.cons (.k (.int 0)) (.cons (.k (.int 0)) (.cons (.slot 1) (.nil))))))) (.nil)))
/-! def _law_take -/
def b9 : CSs := .cons (.ife (.and (.cmp .eq (.ix (.slot 0) (.k (.int 2))) (.k (.int 0))) (.cmp .lt (.ix (.slot 0) (.k (.int 1))) (.bi .len (.cons (.ix (.slot 0) (.k (.int 0))) (.nil))))) (.cons (.asg (.sub (.slot 0) (.k (.int 2))) (.bi .abs (.cons (.bi .int (.cons (.ix (.ix (.slot 0) (.k (.int 0))) (.ix (.slot 0) (.k (.int 1)))) (.nil))) (.nil)))) (.cons (.asg (.sub (.slot 0) (.k (.int 1))) (.bin .add (.ix (.slot 0) (.k (.int 1))) (.k (.int 1)))) (.cons (.ife (.cmp .lt (.ix (.slot 0) (.k (.int 2))) (.bin .pow (.k (.int 10)) (.k (.int 18)))) (.cons (.asg (.name 2) (.bi .int (.cons (.ix (.slot 0) (.k (.int 2))) (.nil)))) (.cons (.asg (.sub (.slot 0) (.k (.int 2))) (.k (.int 0))) (.cons (.ret (.bin .mod (.slot 2) (.slot 1))) (.nil)))) (.nil)) (.nil)))) (.nil)) (.cons (.ife (.cmp .gt (.ix (.slot 0) (.k (.int 2))) (.k (.int 0))) (.cons (.asg (.name 3) (.bin .mod (.bi .int (.cons (.ix (.slot 0) (.k (.int 2))) (.nil))) (.slot 1))) (.cons (.asg (.sub (.slot 0) (.k (.int 2))) (.bin .fdiv (.bi .int (.cons (.ix (.slot 0) (.k (.int 2))) (.nil))) (.slot 1))) (.cons (.ret (.slot 3)) (.nil)))) (.nil)) (.cons (.asg (.sub (.slot 0) (.k (.int 3))) (.bin .mod (.bi .int (.cons (.bin .add (.bin .mul (.ix (.slot 0) (.k (.int 3))) (.k (.int 48271))) (.k (.int 11))) (.nil))) (.k (.int 2147483647)))) (.cons (.ret (.bin .mod (.bi .int (.cons (.bin .fdiv (.ix (.slot 0) (.k (.int 3))) (.k (.int 3))) (.nil))) (.slot 1))) (.nil))))
/-! def _law_signed -/
def b10 : CSs := .cons (.ret (.bin .sub (.call 9 (.cons (.slot 0) (.cons (.bin .add (.bin .mul (.k (.int 2)) (.slot 1)) (.k (.int 1))) (.nil)))) (.slot 1))) (.nil)
/-! def _law_told -/
def b11l0 : CSs := .cons (.asg (.name 2) (.call 7 (.cons (.slot 0) (.cons (.slot 1) (.nil))))) (.nil)
def b11l1 : CSs := .cons (.ret (.ife (.isx 3 (.own 1)) (.k .non) (.k (.str "other")))) (.nil)
def b11 : CSs := .cons (.try_ b11l0 0 (some 3) b11l1) (.cons (.ret (.ife (.cmp .is (.slot 2) (.k .non)) (.k (.str "None was told")) (.slot 2))) (.nil))
/-! def _law_check -/
def b12l0 : CSs := .cons (.asg (.name 1) (.bin .mod (.bi .int (.cons (.bin .add (.slot 1) (.bin .mul (.bin .add (.slot 2) (.k (.int 1))) (.bi .ord (.cons (.ix (.slot 0) (.slot 2)) (.nil))))) (.nil))) (.k (.int 65521)))) (.nil)
def b12 : CSs := .cons (.asg (.name 1) (.k (.int 0))) (.cons (.for_ (.name 2) (.range1 (.bi .len (.cons (.slot 0) (.nil)))) b12l0) (.cons (.ret (.slot 1)) (.nil)))
/-! def _law_number -/
def b13 : CSs := .cons (.asg (.name 1) (.call 10 (.cons (.slot 0) (.cons (.k (.int 40)) (.nil))))) (.cons (.ret (.ife (.cmp .eq (.call 9 (.cons (.slot 0) (.cons (.k (.int 4)) (.nil)))) (.k (.int 1))) (.bin .add (.bin .mul (.slot 1) (.bin .pow (.k (.int 10)) (.k (.int 38)))) (.call 10 (.cons (.slot 0) (.cons (.bin .pow (.k (.int 10)) (.k (.int 38))) (.nil))))) (.slot 1))) (.nil))
/-! def law -/
def b14l0 : CSs := .cons (.asg (.name 12) (.call 9 (.cons (.slot 1) (.cons (.bi .len (.cons (.slot 8) (.nil))) (.nil))))) (.cons (.asg (.name 13) (.ix (.slot 10) (.call 9 (.cons (.slot 1) (.cons (.bi .len (.cons (.slot 10) (.nil))) (.nil)))))) (.cons (.ife (.cmp .eq (.slot 11) (.k (.int 1))) (.cons (.asg (.name 13) (.ix (.k (.str "0123456789")) (.call 9 (.cons (.slot 1) (.cons (.k (.int 10)) (.nil)))))) (.nil)) (.nil)) (.cons (.ife (.cmp .eq (.slot 11) (.k (.int 2))) (.cons (.asg (.name 12) (.smeth .index (.slot 8) (.cons (.k (.str " ")) (.cons (.bi .min2 (.cons (.slot 12) (.cons (.bin .sub (.bi .len (.cons (.slot 8) (.nil))) (.k (.int 12))) (.nil)))) (.nil))))) (.cons (.asg (.name 13) (.ix (.tup (.cons (.k (.str "	")) (.cons (.k (.str "_")) (.cons (.k (.str ";")) (.cons (.k (.str "	")) (.nil)))))) (.call 9 (.cons (.slot 1) (.cons (.k (.int 4)) (.nil)))))) (.nil))) (.nil)) (.cons (.ife (.and (.cmp .ne (.ix (.slot 8) (.slot 12)) (.slot 13)) (.cmp .isNot (.call 11 (.cons (.bin .add (.bin .add (.slc (.slot 8) .no (.some (.slot 12))) (.slot 13)) (.slc (.slot 8) (.some (.bin .add (.slot 12) (.k (.int 1)))) .no)) (.cons (.slot 3) (.nil)))) (.k .non))) (.cons (.ret (.k (.bl false))) (.nil)) (.nil)) (.nil)))))
def b14l1 : CSs := .cons (.asg (.name 6) (.bin .add (.bin .add (.slot 6) (.k (.str " ; "))) (.smeth .join (.k (.str " ")) (.cons (.lc (.name 20) (.seq (.slot 7)) (.nil) (.bi .str (.cons (.slot 20) (.nil))) [20]) (.nil))))) (.nil)
def b14 : CSs := .cons (.asg (.name 1) (.call 8 (.cons (.slot 0) (.nil)))) (.cons (.asg (.name 2) (.ix (.tup (.cons (.k (.int 4)) (.cons (.k (.int 4)) (.cons (.k (.int 4)) (.cons (.k (.int 60)) (.nil)))))) (.call 9 (.cons (.slot 1) (.cons (.k (.int 4)) (.nil)))))) (.cons (.asg (.name 3) (.bi .tuple (.cons (.lc (.name 18) (.range1 (.bin .add (.k (.int 1)) (.call 9 (.cons (.slot 1) (.cons (.ix (.tup (.cons (.k (.int 3)) (.cons (.k (.int 8)) (.nil)))) (.call 9 (.cons (.slot 1) (.cons (.k (.int 2)) (.nil))))) (.nil)))))) (.nil) (.bin .add (.k (.int 1)) (.call 9 (.cons (.slot 1) (.cons (.slot 2) (.nil))))) [18]) (.nil)))) (.cons (.asg (.name 4) (.bi .tuple (.cons (.lc (.name 19) (.seq (.slot 3)) (.nil) (.bi .tuple (.cons (.lc (.name 18) (.range1 (.slot 19)) (.nil) (.call 13 (.cons (.slot 1) (.nil))) [18]) (.nil))) [19]) (.nil)))) (.cons (.asg (.name 5) (.bi .abs (.cons (.call 13 (.cons (.slot 1) (.nil))) (.nil)))) (.cons (.asg (.name 6) (.bin .add (.k (.str "step ")) (.bi .str (.cons (.slot 5) (.nil))))) (.cons (.for_ (.name 7) (.seq (.slot 4)) b14l1) (.cons (.asg (.name 8) (.bin .add (.bin .add (.slot 6) (.k (.str " check "))) (.bi .str (.cons (.call 12 (.cons (.slot 6) (.nil))) (.nil))))) (.cons (.asg (.name 9) (.call 4 (.cons (.slot 5) (.cons (.slot 4) (.nil))))) (.cons (.ife (.or (.not (.isi (.slot 9) [.ty "str"])) (.or (.cmp .ne (.slot 9) (.bin .add (.slot 8) (.k (.str "\n")))) (.cmp .ne (.call 2 (.cons (.slot 6) (.nil))) (.call 12 (.cons (.slot 6) (.nil)))))) (.cons (.ret (.k (.bl false))) (.nil)) (.nil)) (.cons (.ife (.cmp .ne (.call 11 (.cons (.slot 8) (.cons (.slot 3) (.nil)))) (.tup (.cons (.slot 5) (.cons (.slot 4) (.nil))))) (.cons (.ret (.k (.bl false))) (.nil)) (.nil)) (.cons (.asg (.name 10) (.k (.str "	'`\\ !#$&()*+,-./0123456789:;<=>?@ABCDEFGHIJKLMNOPQRSTUVWXYZ[]^_abcdefghijklmnopqrstuvwxyz{|}~"))) (.cons (.for_ (.name 11) (.range1 (.k (.int 4))) b14l0) (.cons (.asg (.name 14) (.smeth .split (.slot 8) (.cons (.k (.str " ")) (.nil)))) (.cons (.asg (.name 15) (.call 9 (.cons (.slot 1) (.cons (.bi .len (.cons (.slot 14) (.nil))) (.nil))))) (.cons (.asg (.name 16) (.smeth .join (.k (.str " ")) (.cons (.bin .add (.slc (.slot 14) .no (.some (.bin .add (.slot 15) (.k (.int 1))))) (.slc (.slot 14) (.some (.slot 15)) .no)) (.nil)))) (.cons (.asg (.name 17) (.smeth .join (.k (.str " ")) (.cons (.bin .add (.slc (.slot 14) .no (.some (.slot 15))) (.slc (.slot 14) (.some (.bin .add (.slot 15) (.k (.int 1)))) .no)) (.nil)))) (.cons (.ife (.or (.cmp .isNot (.call 11 (.cons (.slot 16) (.cons (.slot 3) (.nil)))) (.k .non)) (.or (.cmp .isNot (.call 11 (.cons (.slot 17) (.cons (.slot 3) (.nil)))) (.k .non)) (.cmp .isNot (.call 11 (.cons (.k (.str "")) (.cons (.slot 3) (.nil)))) (.k .non)))) (.cons (.ret (.k (.bl false))) (.nil)) (.nil)) (.cons (.ret (.and (.cmp .is (.call 11 (.cons (.slot 8) (.cons (.bin .add (.slot 3) (.tup (.cons (.k (.int 1)) (.nil)))) (.nil)))) (.k .non)) (.cmp .is (.call 11 (.cons (.slot 8) (.cons (.bin .add (.tup (.cons (.bin .add (.ix (.slot 3) (.k (.int 0))) (.k (.int 1))) (.nil))) (.slc (.slot 3) (.some (.k (.int 1))) .no)) (.nil)))) (.k .non)))) (.nil)))))))))))))))))))
def Dt : Nat → Option Def
  | 0 => some ⟨2, 2, b0⟩
  | 1 => some ⟨2, 2, b1⟩
  | 2 => some ⟨3, 1, b2⟩
  | 3 => some ⟨4, 1, b3⟩
  | 4 => some ⟨3, 2, b4⟩
  | 5 => some ⟨2, 2, b5⟩
  | 6 => some ⟨7, 2, b6⟩
  | 7 => some ⟨3, 2, b7⟩
  | 8 => some ⟨3, 1, b8⟩
  | 9 => some ⟨4, 2, b9⟩
  | 10 => some ⟨2, 2, b10⟩
  | 11 => some ⟨4, 2, b11⟩
  | 12 => some ⟨3, 1, b12⟩
  | 13 => some ⟨2, 1, b13⟩
  | 14 => some ⟨21, 1, b14⟩
  | _ => none
def Gt : Nat → Option DV
  | 1 => some (.int 65521)
  | 3 => some (.str "check")
  | 0 => some (.int 70)
  | 4 => some (.str ";")
  | 2 => some (.str "step")
  | _ => none
def subt : Nat → Nat → Bool
  | 0, 0 => true
  | 0, 1 => false
  | 1, 0 => true
  | 1, 1 => true
  | _, _ => false
theorem sub_0_0 : subt 0 0 = true := Ip.nr rfl
theorem sub_0_1 : subt 0 1 = false := Ip.nr rfl
theorem sub_1_0 : subt 1 0 = true := Ip.nr rfl
theorem sub_1_1 : subt 1 1 = true := Ip.nr rfl
end Lw
end PtLk70A
section PtLk70D
set_option Elab.async false
set_option linter.all false
set_option maxRecDepth 100000
set_option maxHeartbeats 4000000
namespace Lw
open PySem PySem.Spec PyProof.Rows L2 Ip
def topS (i : Nat) : Stmt := PySem.Challenge.pw_tensorworks_k70_lines_of_the_journal.main.body.getD i (.Pass ⟨0, 0, 0, 0⟩)
abbrev s0 : Stmt := topS 4
abbrev N0 : List Str := ["word", "most"]
theorem sc0 : FnScope N0 ["word", "most"] (defScope s0) := ⟨rfl, rfl, rfl, by decide +kernel, rfl, by decide +kernel, by decide +kernel⟩
abbrev s1 : Stmt := topS 5
abbrev N1 : List Str := ["word", "most"]
theorem sc1 : FnScope N1 ["word", "most"] (defScope s1) := ⟨rfl, rfl, rfl, by decide +kernel, rfl, by decide +kernel, by decide +kernel⟩
abbrev s2 : Stmt := topS 12
abbrev N2 : List Str := ["text", "position", "sign"]
theorem sc2 : FnScope N2 ["text"] (defScope s2) := ⟨rfl, rfl, rfl, by decide +kernel, rfl, by decide +kernel, by decide +kernel⟩
abbrev s3 : Stmt := topS 13
abbrev N3 : List Str := ["weights", "words", "row", "n"]
theorem sc3 : FnScope N3 ["weights"] (defScope s3) := ⟨rfl, rfl, rfl, by decide +kernel, rfl, by decide +kernel, by decide +kernel⟩
abbrev s4 : Stmt := topS 14
abbrev N4 : List Str := ["steps", "weights", "head"]
theorem sc4 : FnScope N4 ["steps", "weights"] (defScope s4) := ⟨rfl, rfl, rfl, by decide +kernel, rfl, by decide +kernel, by decide +kernel⟩
abbrev s5 : Stmt := topS 15
abbrev N5 : List Str := ["line", "words"]
theorem sc5 : FnScope N5 ["line", "words"] (defScope s5) := ⟨rfl, rfl, rfl, by decide +kernel, rfl, by decide +kernel, by decide +kernel⟩
abbrev s6 : Stmt := topS 16
abbrev N6 : List Str := ["words", "sizes", "weights", "at", "size", "numbers", "word"]
theorem sc6 : FnScope N6 ["words", "sizes"] (defScope s6) := ⟨rfl, rfl, rfl, by decide +kernel, rfl, by decide +kernel, by decide +kernel⟩
abbrev s7 : Stmt := topS 17
abbrev N7 : List Str := ["line", "sizes", "words"]
theorem sc7 : FnScope N7 ["line", "sizes"] (defScope s7) := ⟨rfl, rfl, rfl, by decide +kernel, rfl, by decide +kernel, by decide +kernel⟩
abbrev s8 : Stmt := topS 19
abbrev N8 : List Str := ["script", "seed", "cell"]
theorem sc8 : FnScope N8 ["script"] (defScope s8) := ⟨rfl, rfl, rfl, by decide +kernel, rfl, by decide +kernel, by decide +kernel⟩
abbrev s9 : Stmt := topS 20
abbrev N9 : List Str := ["d", "many", "small", "digit"]
theorem sc9 : FnScope N9 ["d", "many"] (defScope s9) := ⟨rfl, rfl, rfl, by decide +kernel, rfl, by decide +kernel, by decide +kernel⟩
abbrev s10 : Stmt := topS 21
abbrev N10 : List Str := ["d", "most"]
theorem sc10 : FnScope N10 ["d", "most"] (defScope s10) := ⟨rfl, rfl, rfl, by decide +kernel, rfl, by decide +kernel, by decide +kernel⟩
abbrev s11 : Stmt := topS 22
abbrev N11 : List Str := ["line", "sizes", "actual", "e"]
theorem sc11 : FnScope N11 ["line", "sizes"] (defScope s11) := ⟨rfl, rfl, rfl, by decide +kernel, rfl, by decide +kernel, by decide +kernel⟩
abbrev s12 : Stmt := topS 23
abbrev N12 : List Str := ["text", "total", "k"]
theorem sc12 : FnScope N12 ["text"] (defScope s12) := ⟨rfl, rfl, rfl, by decide +kernel, rfl, by decide +kernel, by decide +kernel⟩
abbrev s13 : Stmt := topS 24
abbrev N13 : List Str := ["d", "n"]
theorem sc13 : FnScope N13 ["d"] (defScope s13) := ⟨rfl, rfl, rfl, by decide +kernel, rfl, by decide +kernel, by decide +kernel⟩
abbrev s14 : Stmt := topS 25
abbrev N14 : List Str := ["script", "d", "most", "sizes", "weights", "steps", "text", "row", "line", "told", "signs", "turn", "place", "sign", "words", "spot", "longer", "shorter", "k", "size", "n"]
theorem sc14 : FnScope N14 ["script"] (defScope s14) := ⟨rfl, rfl, rfl, by decide +kernel, rfl, by decide +kernel, by decide +kernel⟩
noncomputable abbrev Tk (cls : Nat → Option Addr) (k : Nat) : Tb := ⟨callAt Dt Gt subt k, Gt, subt, cls⟩
structure FdB (P : Program) (w : World) (K : PySem.W.Frag) (mg : Str → Option Value) (base : Heap) (T : Tb) (k : Nat) (x : Str) (f np : Nat) (ps : List Str) (ad : Addr) (fd : FuncData) : Prop where
  fn : FnOk P w K mg base (L2.CX P w) k ad fd ps (spC T K f np)
  pl : ps.length = np
  at_ : mg x = some (.ref ad)
  kp : PySem.W.keepIn K (.ref ad) = true
  bd : Binds K fd ps []
structure Mn (mg : Str → Option Value) : Prop where
  m_abs : mg "abs" = none
  m_all : mg "all" = none
  m_enumerate : mg "enumerate" = none
  m_int : mg "int" = none
  m_isinstance : mg "isinstance" = none
  m_len : mg "len" = none
  m_list : mg "list" = none
  m_min : mg "min" = none
  m_ord : mg "ord" = none
  m_range : mg "range" = none
  m_str : mg "str" = none
  m_sum : mg "sum" = none
  m_tuple : mg "tuple" = none
  c_CHECK_PRIME : ∃ t, mg "CHECK_PRIME" = some (.int 65521 t)
  c_CHECK_WORD : ∃ t, mg "CHECK_WORD" = some (.str "check" t)
  c_DIGIT_LIMIT : ∃ t, mg "DIGIT_LIMIT" = some (.int 70 t)
  c_MARK : ∃ t, mg "MARK" = some (.str ";" t)
  c_STEP_WORD : ∃ t, mg "STEP_WORD" = some (.str "step" t)
structure Cn (K : PySem.W.Frag) (mg : Str → Option Value) (C0 C1 : Addr) : Prop where
  o0 : OwnC K mg "TensorError" C0
  o1 : OwnC K mg "JournalError" C1
  M : ClsT K mg subt (clsOf [C0, C1])
structure Fs (P : Program) (w : World) (K : PySem.W.Frag) (mg : Str → Option Value) (base : Heap) (T : Tb) (k : Nat) (a0 : Addr) (d0 : FuncData) (a1 : Addr) (d1 : FuncData) (a2 : Addr) (d2 : FuncData) (a3 : Addr) (d3 : FuncData) (a4 : Addr) (d4 : FuncData) (a5 : Addr) (d5 : FuncData) (a6 : Addr) (d6 : FuncData) (a7 : Addr) (d7 : FuncData) (a8 : Addr) (d8 : FuncData) (a9 : Addr) (d9 : FuncData) (a10 : Addr) (d10 : FuncData) (a11 : Addr) (d11 : FuncData) (a12 : Addr) (d12 : FuncData) (a13 : Addr) (d13 : FuncData) (a14 : Addr) (d14 : FuncData) : Prop where
  f0 : FdB P w K mg base T k "is_natural" 0 2 ["word", "most"] a0 d0
  f1 : FdB P w K mg base T k "is_integer" 1 2 ["word", "most"] a1 d1
  f2 : FdB P w K mg base T k "check_number" 2 1 ["text"] a2 d2
  f3 : FdB P w K mg base T k "weight_words" 3 1 ["weights"] a3 d3
  f4 : FdB P w K mg base T k "journal_line" 4 2 ["steps", "weights"] a4 d4
  f5 : FdB P w K mg base T k "check_ending" 5 2 ["line", "words"] a5 d5
  f6 : FdB P w K mg base T k "read_weights" 6 2 ["words", "sizes"] a6 d6
  f7 : FdB P w K mg base T k "read_line" 7 2 ["line", "sizes"] a7 d7
  f8 : FdB P w K mg base T k "_law_begin" 8 1 ["script"] a8 d8
  f9 : FdB P w K mg base T k "_law_take" 9 2 ["d", "many"] a9 d9
  f10 : FdB P w K mg base T k "_law_signed" 10 2 ["d", "most"] a10 d10
  f11 : FdB P w K mg base T k "_law_told" 11 2 ["line", "sizes"] a11 d11
  f12 : FdB P w K mg base T k "_law_check" 12 1 ["text"] a12 d12
  f13 : FdB P w K mg base T k "_law_number" 13 1 ["d"] a13 d13
  f14 : FdB P w K mg base T k "law" 14 1 ["script"] a14 d14
section
variable {P : Program} {w : World} {K : PySem.W.Frag} {mg : Str → Option Value} {base : Heap} {C0 C1 : Addr} {k : Nat} {a0 : Addr} {d0 : FuncData} {a1 : Addr} {d1 : FuncData} {a2 : Addr} {d2 : FuncData} {a3 : Addr} {d3 : FuncData} {a4 : Addr} {d4 : FuncData} {a5 : Addr} {d5 : FuncData} {a6 : Addr} {d6 : FuncData} {a7 : Addr} {d7 : FuncData} {a8 : Addr} {d8 : FuncData} {a9 : Addr} {d9 : FuncData} {a10 : Addr} {d10 : FuncData} {a11 : Addr} {d11 : FuncData} {a12 : Addr} {d12 : FuncData} {a13 : Addr} {d13 : FuncData} {a14 : Addr} {d14 : FuncData}
theorem der0 {ad : Addr} {cdv : Value} {A : Around} {outer : List Env} {s : Shared} {H : Hp} {E : XK} (M : Mn mg) (Cc : Cn K mg C0 C1) (F : Fs P w K mg base (Tk (clsOf [C0, C1]) k) k a0 d0 a1 d1 a2 d2 a3 d3 a4 d4 a5 d5 a6 d6 a7 d7 a8 d8 a9 d9 a10 d10 a11 d11 a12 d12 a13 d13 a14 d14) (hr : Room k (A.deeper (envOfC "is_natural" (defScope s0) s.heap.objs.size ad cdv))) :
    SSs (Tk (clsOf [C0, C1]) k) (cxOf (L2.CX P w) P w K mg base N0 "is_natural" (defScope s0) ad cdv A outer s H E) none (fun c d _ H => E c d H) (defBody s0) b0 :=
  sss_cons (ss_if (st_not (st_w (sw_and (st_val (se_sm0 .isascii PySem.F.slot_str_isascii PySem.F.type_str_isascii sm_isascii (se_slot 0))) (sw_one_and (st_val (se_sm0 .isdigit PySem.F.slot_str_isdigit PySem.F.type_str_isdigit sm_isdigit (se_slot 0))))))) (sss_cons (ss_ret (se_bl)) (
  sss_nil)) (sss_nil)) (
  sss_cons (ss_ret (se_and (se_cmp hr.units .le (se_biB .len bi_len M.m_len (by decide +kernel) (ses_cons (se_slot 0) (ses_nil))) (se_slot 1)) (se_one (se_or (se_cmp hr.units .ne (se_ix (se_slot 0) (se_int)) (se_str)) (se_one (se_cmp hr.units .eq (se_slot 0) (se_str))))))) (
  sss_nil))
theorem der1 {ad : Addr} {cdv : Value} {A : Around} {outer : List Env} {s : Shared} {H : Hp} {E : XK} (M : Mn mg) (Cc : Cn K mg C0 C1) (F : Fs P w K mg base (Tk (clsOf [C0, C1]) k) k a0 d0 a1 d1 a2 d2 a3 d3 a4 d4 a5 d5 a6 d6 a7 d7 a8 d8 a9 d9 a10 d10 a11 d11 a12 d12 a13 d13 a14 d14) (hr : Room k (A.deeper (envOfC "is_integer" (defScope s1) s.heap.objs.size ad cdv))) :
    SSs (Tk (clsOf [C0, C1]) k) (cxOf (L2.CX P w) P w K mg base N1 "is_integer" (defScope s1) ad cdv A outer s H E) none (fun c d _ H => E c d H) (defBody s1) b1 :=
  sss_cons (ss_if (st_val (se_sm1 .startswith PySem.F.slot_str_startswith PySem.F.type_str_startswith sm_startswith (se_slot 0) (se_str))) (sss_cons (ss_ret (se_and (se_cmp hr.units .ne (se_slot 0) (se_str)) (se_one (se_call ⟨⟨_, _, _, F.f0.fn, F.f0.pl, F.f0.at_, F.f0.kp, F.f0.bd⟩⟩ hr (takes_of rfl rfl rfl rfl) (ses_cons (se_slc (se_slot 0) (so_some (se_int)) so_none) (ses_cons (se_slot 1) (ses_nil))) (hlen := (len_cons (len_cons (fun _ _ _ _ h => len_nil h)))))))) (
  sss_nil)) (sss_nil)) (
  sss_cons (ss_ret (se_call ⟨⟨_, _, _, F.f0.fn, F.f0.pl, F.f0.at_, F.f0.kp, F.f0.bd⟩⟩ hr (takes_of rfl rfl rfl rfl) (ses_cons (se_slot 0) (ses_cons (se_slot 1) (ses_nil))) (hlen := (len_cons (len_cons (fun _ _ _ _ h => len_nil h)))))) (
  sss_nil))
theorem der2 {ad : Addr} {cdv : Value} {A : Around} {outer : List Env} {s : Shared} {H : Hp} {E : XK} (M : Mn mg) (Cc : Cn K mg C0 C1) (F : Fs P w K mg base (Tk (clsOf [C0, C1]) k) k a0 d0 a1 d1 a2 d2 a3 d3 a4 d4 a5 d5 a6 d6 a7 d7 a8 d8 a9 d9 a10 d10 a11 d11 a12 d12 a13 d13 a14 d14) (hr : Room k (A.deeper (envOfC "check_number" (defScope s2) s.heap.objs.size ad cdv))) :
    SSs (Tk (clsOf [C0, C1]) k) (cxOf (L2.CX P w) P w K mg base N2 "check_number" (defScope s2) ad cdv A outer s H E) none (fun c d _ H => E c d H) (defBody s2) b2 :=
  sss_cons (ss_ret (se_bin .mod (se_biB .sum (bi_sum rfl) M.m_sum (by decide +kernel) (ses_cons (se_lc [("position", 1), ("sign", 2)] rfl sc2.nd (si_enumK M.m_enumerate (se_slot 0) (se_int)) (blkOk_by (N := N2) (sc := (defScope s2)) (by decide +kernel)) (fun _ _ _ _ _ => sgw_tup rfl (sgsw_cons (sgw_name 1 sc2.nd) (sgsw_cons (sgw_name 2 sc2.nd) (sgsw_nil))) (lenT_cons (lenT_cons lenT_nil))) (fun _ _ _ _ _ => sif_nil) (fun _ _ _ _ _ => se_bin .mul (se_slot 1) (se_biB .ord bi_ord M.m_ord (by decide +kernel) (ses_cons (se_slot 2) (ses_nil))))) (ses_nil))) (se_globI 1 (by rfl) M.c_CHECK_PRIME))) (
  sss_nil)
theorem der3 {ad : Addr} {cdv : Value} {A : Around} {outer : List Env} {s : Shared} {H : Hp} {E : XK} (M : Mn mg) (Cc : Cn K mg C0 C1) (F : Fs P w K mg base (Tk (clsOf [C0, C1]) k) k a0 d0 a1 d1 a2 d2 a3 d3 a4 d4 a5 d5 a6 d6 a7 d7 a8 d8 a9 d9 a10 d10 a11 d11 a12 d12 a13 d13 a14 d14) (hr : Room k (A.deeper (envOfC "weight_words" (defScope s3) s.heap.objs.size ad cdv))) :
    SSs (Tk (clsOf [C0, C1]) k) (cxOf (L2.CX P w) P w K mg base N3 "weight_words" (defScope s3) ad cdv A outer s H E) none (fun c d _ H => E c d H) (defBody s3) b3 :=
  sss_cons (ss_asg (se_lst (ses_nil)) (sg_name 1 sc3.nd)) (
  sss_cons (ss_for (passes_of rfl) rfl (si_seq (se_slot 0)) (sg_name 2 sc3.nd) (sss_cons (ss_drop (se_append (se_slot 1) (se_globS 4 (by rfl) M.c_MARK))) (
  sss_cons (ss_drop (se_extend (se_slot 1) (se_lc [("n", 3)] rfl sc3.nd (si_seq (se_slot 2)) (blkOk_by (N := N3) (sc := (defScope s3)) (by decide +kernel)) (fun _ _ _ _ _ => sgw_name 3 sc3.nd) (fun _ _ _ _ _ => sif_nil) (fun _ _ _ _ _ => se_biT .str bi_str M.m_str (by decide +kernel) (ses_cons (se_slot 3) (ses_nil)))))) (
  sss_nil)))) (
  sss_cons (ss_ret (se_slot 1)) (
  sss_nil)))
theorem der4 {ad : Addr} {cdv : Value} {A : Around} {outer : List Env} {s : Shared} {H : Hp} {E : XK} (M : Mn mg) (Cc : Cn K mg C0 C1) (F : Fs P w K mg base (Tk (clsOf [C0, C1]) k) k a0 d0 a1 d1 a2 d2 a3 d3 a4 d4 a5 d5 a6 d6 a7 d7 a8 d8 a9 d9 a10 d10 a11 d11 a12 d12 a13 d13 a14 d14) (hr : Room k (A.deeper (envOfC "journal_line" (defScope s4) s.heap.objs.size ad cdv))) :
    SSs (Tk (clsOf [C0, C1]) k) (cxOf (L2.CX P w) P w K mg base N4 "journal_line" (defScope s4) ad cdv A outer s H E) none (fun c d _ H => E c d H) (defBody s4) b4 :=
  sss_cons (ss_asg (se_sm1 .join PySem.F.slot_str_join PySem.F.type_str_join sm_join (se_str) (se_bin .add (se_lst (ses_cons (se_globS 2 (by rfl) M.c_STEP_WORD) (ses_cons (se_biT .str bi_str M.m_str (by decide +kernel) (ses_cons (se_slot 0) (ses_nil))) (ses_nil)))) (se_call ⟨⟨_, _, _, F.f3.fn, F.f3.pl, F.f3.at_, F.f3.kp, F.f3.bd⟩⟩ hr (takes_of rfl rfl rfl rfl) (ses_cons (se_slot 1) (ses_nil)) (hlen := (len_cons (fun _ _ _ _ h => len_nil h)))))) (sg_name 2 sc4.nd)) (
  sss_cons (ss_ret (se_joined (sj_cons (se_fmtv (se_slot 2)) strE_fmt (sj_cons (se_str) (strE_k (by decide +kernel)) (sj_cons (se_fmtv (se_globS 3 (by rfl) M.c_CHECK_WORD)) strE_fmt (sj_cons (se_str) (strE_k (by decide +kernel)) (sj_cons (se_fmtv (se_call ⟨⟨_, _, _, F.f2.fn, F.f2.pl, F.f2.at_, F.f2.kp, F.f2.bd⟩⟩ hr (takes_of rfl rfl rfl rfl) (ses_cons (se_slot 2) (ses_nil)) (hlen := (len_cons (fun _ _ _ _ h => len_nil h))))) strE_fmt (sj_cons (se_str) (strE_k (by decide +kernel)) (sj_nil))))))))) (
  sss_nil))
theorem der5 {ad : Addr} {cdv : Value} {A : Around} {outer : List Env} {s : Shared} {H : Hp} {E : XK} (M : Mn mg) (Cc : Cn K mg C0 C1) (F : Fs P w K mg base (Tk (clsOf [C0, C1]) k) k a0 d0 a1 d1 a2 d2 a3 d3 a4 d4 a5 d5 a6 d6 a7 d7 a8 d8 a9 d9 a10 d10 a11 d11 a12 d12 a13 d13 a14 d14) (hr : Room k (A.deeper (envOfC "check_ending" (defScope s5) s.heap.objs.size ad cdv))) :
    SSs (Tk (clsOf [C0, C1]) k) (cxOf (L2.CX P w) P w K mg base N5 "check_ending" (defScope s5) ad cdv A outer s H E) none (fun c d _ H => E c d H) (defBody s5) b5 :=
  sss_cons (ss_if (st_w (sw_or (st_cmp hr.units .lt (se_biB .len bi_len M.m_len (by decide +kernel) (ses_cons (se_slot 1) (ses_nil))) (se_int)) (sw_or (st_cmp hr.units .ne (se_ix (se_slot 1) (se_int)) (se_globS 2 (by rfl) M.c_STEP_WORD)) (sw_one_or (st_cmp hr.units .ne (se_ix (se_slot 1) (se_neg (se_int))) (se_globS 3 (by rfl) M.c_CHECK_WORD)))))) (sss_cons (ss_raise 1 rfl Cc.o1 (takes_of rfl rfl rfl rfl)) (
  sss_nil)) (sss_nil)) (
  sss_cons (ss_if (st_cmp hr.units .ne (se_ix (se_slot 1) (se_neg (se_int))) (se_biT .str bi_str M.m_str (by decide +kernel) (ses_cons (se_call ⟨⟨_, _, _, F.f2.fn, F.f2.pl, F.f2.at_, F.f2.kp, F.f2.bd⟩⟩ hr (takes_of rfl rfl rfl rfl) (ses_cons (se_sm1 .join PySem.F.slot_str_join PySem.F.type_str_join sm_join (se_str) (se_slc (se_slot 1) so_none (so_some (se_neg (se_int))))) (ses_nil)) (hlen := (len_cons (fun _ _ _ _ h => len_nil h)))) (ses_nil)))) (sss_cons (ss_raise 1 rfl Cc.o1 (takes_of rfl rfl rfl rfl)) (
  sss_nil)) (sss_nil)) (
  sss_nil))
theorem der6 {ad : Addr} {cdv : Value} {A : Around} {outer : List Env} {s : Shared} {H : Hp} {E : XK} (M : Mn mg) (Cc : Cn K mg C0 C1) (F : Fs P w K mg base (Tk (clsOf [C0, C1]) k) k a0 d0 a1 d1 a2 d2 a3 d3 a4 d4 a5 d5 a6 d6 a7 d7 a8 d8 a9 d9 a10 d10 a11 d11 a12 d12 a13 d13 a14 d14) (hr : Room k (A.deeper (envOfC "read_weights" (defScope s6) s.heap.objs.size ad cdv))) :
    SSs (Tk (clsOf [C0, C1]) k) (cxOf (L2.CX P w) P w K mg base N6 "read_weights" (defScope s6) ad cdv A outer s H E) none (fun c d _ H => E c d H) (defBody s6) b6 :=
  sss_cons (ss_asg (se_lst (ses_nil)) (sg_name 2 sc6.nd)) (
  sss_cons (ss_asg (se_int) (sg_name 3 sc6.nd)) (
  sss_cons (ss_for (passes_of rfl) rfl (si_seq (se_slot 1)) (sg_name 4 sc6.nd) (sss_cons (ss_asg (se_slc (se_slot 0) (so_some (se_bin .add (se_slot 3) (se_int))) (so_some (se_bin .add (se_bin .add (se_slot 3) (se_int)) (se_slot 4)))) (sg_name 5 sc6.nd)) (
  sss_cons (ss_if (st_w (sw_or (st_cmp hr.units .ne (se_slc (se_slot 0) (so_some (se_slot 3)) (so_some (se_bin .add (se_slot 3) (se_int)))) (se_lst (ses_cons (se_globS 4 (by rfl) M.c_MARK) (ses_nil)))) (sw_one_or (st_cmp hr.units .ne (se_biB .len bi_len M.m_len (by decide +kernel) (ses_cons (se_slot 5) (ses_nil))) (se_slot 4))))) (sss_cons (ss_raise 1 rfl Cc.o1 (takes_of rfl rfl rfl rfl)) (
  sss_nil)) (sss_nil)) (
  sss_cons (ss_if (st_not (st_val (se_biB .all (bi_all rfl) M.m_all (by decide +kernel) (ses_cons (se_lc [("word", 6)] rfl sc6.nd (si_seq (se_slot 5)) (blkOk_by (N := N6) (sc := (defScope s6)) (by decide +kernel)) (fun _ _ _ _ _ => sgw_name 6 sc6.nd) (fun _ _ _ _ _ => sif_nil) (fun _ _ _ _ _ => se_call ⟨⟨_, _, _, F.f1.fn, F.f1.pl, F.f1.at_, F.f1.kp, F.f1.bd⟩⟩ hr takes0 (ses_cons (se_slot 6) (ses_cons (se_globI 0 (by rfl) M.c_DIGIT_LIMIT) (ses_nil))) (hlen := (len_cons (len_cons (fun _ _ _ _ h => len_nil h)))))) (ses_nil))))) (sss_cons (ss_raise 1 rfl Cc.o1 (takes_of rfl rfl rfl rfl)) (
  sss_nil)) (sss_nil)) (
  sss_cons (ss_drop (se_append (se_slot 2) (se_biT .tuple bi_tuple M.m_tuple (by decide +kernel) (ses_cons (se_lc [("word", 6)] rfl sc6.nd (si_seq (se_slot 5)) (blkOk_by (N := N6) (sc := (defScope s6)) (by decide +kernel)) (fun _ _ _ _ _ => sgw_name 6 sc6.nd) (fun _ _ _ _ _ => sif_nil) (fun _ _ _ _ _ => se_biT .int bi_int M.m_int (by decide +kernel) (ses_cons (se_slot 6) (ses_nil)))) (ses_nil))))) (
  sss_cons (ss_asg (se_bin .add (se_bin .add (se_slot 3) (se_int)) (se_slot 4)) (sg_name 3 sc6.nd)) (
  sss_nil))))))) (
  sss_cons (ss_if (st_cmp hr.units .ne (se_slot 3) (se_biB .len bi_len M.m_len (by decide +kernel) (ses_cons (se_slot 0) (ses_nil)))) (sss_cons (ss_raise 1 rfl Cc.o1 (takes_of rfl rfl rfl rfl)) (
  sss_nil)) (sss_nil)) (
  sss_cons (ss_ret (se_biT .tuple bi_tuple M.m_tuple (by decide +kernel) (ses_cons (se_slot 2) (ses_nil)))) (
  sss_nil)))))
theorem der7 {ad : Addr} {cdv : Value} {A : Around} {outer : List Env} {s : Shared} {H : Hp} {E : XK} (M : Mn mg) (Cc : Cn K mg C0 C1) (F : Fs P w K mg base (Tk (clsOf [C0, C1]) k) k a0 d0 a1 d1 a2 d2 a3 d3 a4 d4 a5 d5 a6 d6 a7 d7 a8 d8 a9 d9 a10 d10 a11 d11 a12 d12 a13 d13 a14 d14) (hr : Room k (A.deeper (envOfC "read_line" (defScope s7) s.heap.objs.size ad cdv))) :
    SSs (Tk (clsOf [C0, C1]) k) (cxOf (L2.CX P w) P w K mg base N7 "read_line" (defScope s7) ad cdv A outer s H E) none (fun c d _ H => E c d H) (defBody s7) b7 :=
  sss_cons (ss_asg (se_sm1 .split PySem.F.slot_str_split PySem.F.type_str_split sm_split (se_slot 0) (se_str)) (sg_name 2 sc7.nd)) (
  sss_cons (ss_drop (se_call ⟨⟨_, _, _, F.f5.fn, F.f5.pl, F.f5.at_, F.f5.kp, F.f5.bd⟩⟩ hr (takes_of rfl rfl rfl rfl) (ses_cons (se_slot 0) (ses_cons (se_slot 2) (ses_nil))) (hlen := (len_cons (len_cons (fun _ _ _ _ h => len_nil h)))))) (
  sss_cons (ss_if (st_not (st_val (se_call ⟨⟨_, _, _, F.f0.fn, F.f0.pl, F.f0.at_, F.f0.kp, F.f0.bd⟩⟩ hr (takes_of rfl rfl rfl rfl) (ses_cons (se_ix (se_slot 2) (se_int)) (ses_cons (se_globI 0 (by rfl) M.c_DIGIT_LIMIT) (ses_nil))) (hlen := (len_cons (len_cons (fun _ _ _ _ h => len_nil h))))))) (sss_cons (ss_raise 1 rfl Cc.o1 (takes_of rfl rfl rfl rfl)) (
  sss_nil)) (sss_nil)) (
  sss_cons (ss_ret (se_tup (ses_cons (se_biT .int bi_int M.m_int (by decide +kernel) (ses_cons (se_ix (se_slot 2) (se_int)) (ses_nil))) (ses_cons (se_call ⟨⟨_, _, _, F.f6.fn, F.f6.pl, F.f6.at_, F.f6.kp, F.f6.bd⟩⟩ hr (takes_of rfl rfl rfl rfl) (ses_cons (se_slc (se_slot 2) (so_some (se_int)) (so_some (se_neg (se_int)))) (ses_cons (se_slot 1) (ses_nil))) (hlen := (len_cons (len_cons (fun _ _ _ _ h => len_nil h))))) (ses_nil))))) (
  sss_nil))))
theorem der8 {ad : Addr} {cdv : Value} {A : Around} {outer : List Env} {s : Shared} {H : Hp} {E : XK} (M : Mn mg) (Cc : Cn K mg C0 C1) (F : Fs P w K mg base (Tk (clsOf [C0, C1]) k) k a0 d0 a1 d1 a2 d2 a3 d3 a4 d4 a5 d5 a6 d6 a7 d7 a8 d8 a9 d9 a10 d10 a11 d11 a12 d12 a13 d13 a14 d14) (hr : Room k (A.deeper (envOfC "_law_begin" (defScope s8) s.heap.objs.size ad cdv))) :
    SSs (Tk (clsOf [C0, C1]) k) (cxOf (L2.CX P w) P w K mg base N8 "_law_begin" (defScope s8) ad cdv A outer s H E) none (fun c d _ H => E c d H) (defBody s8) b8 :=
  sss_cons (ss_asg (se_int) (sg_name 1 sc8.nd)) (
  sss_cons (ss_for (passes_of rfl) rfl (si_seq (se_slot 0)) (sg_name 2 sc8.nd) (sss_cons (ss_asg (se_bin .mod (se_bin .add (se_bin .add (se_bin .mul (se_slot 1) (se_int)) (se_bin .mod (se_biT .int bi_int M.m_int (by decide +kernel) (ses_cons (se_slot 2) (ses_nil))) (se_int))) (se_int)) (se_int)) (sg_name 1 sc8.nd)) (
  sss_nil))) (
  sss_cons (ss_ret (se_lst (ses_cons (se_biT .list bi_list M.m_list (by decide +kernel) (ses_cons (se_slot 0) (ses_nil))) (ses_cons (se_int) (ses_cons (se_int) (ses_cons (se_slot 1) (ses_nil))))))) (
  sss_nil)))
theorem der9 {ad : Addr} {cdv : Value} {A : Around} {outer : List Env} {s : Shared} {H : Hp} {E : XK} (M : Mn mg) (Cc : Cn K mg C0 C1) (F : Fs P w K mg base (Tk (clsOf [C0, C1]) k) k a0 d0 a1 d1 a2 d2 a3 d3 a4 d4 a5 d5 a6 d6 a7 d7 a8 d8 a9 d9 a10 d10 a11 d11 a12 d12 a13 d13 a14 d14) (hr : Room k (A.deeper (envOfC "_law_take" (defScope s9) s.heap.objs.size ad cdv))) :
    SSs (Tk (clsOf [C0, C1]) k) (cxOf (L2.CX P w) P w K mg base N9 "_law_take" (defScope s9) ad cdv A outer s H E) none (fun c d _ H => E c d H) (defBody s9) b9 :=
  sss_cons (ss_if (st_w (sw_and (st_cmp hr.units .eq (se_ix (se_slot 0) (se_int)) (se_int)) (sw_one_and (st_cmp hr.units .lt (se_ix (se_slot 0) (se_int)) (se_biB .len bi_len M.m_len (by decide +kernel) (ses_cons (se_ix (se_slot 0) (se_int)) (ses_nil))))))) (sss_cons (ss_asg (se_biB .abs bi_abs M.m_abs (by decide +kernel) (ses_cons (se_biT .int bi_int M.m_int (by decide +kernel) (ses_cons (se_ix (se_ix (se_slot 0) (se_int)) (se_ix (se_slot 0) (se_int))) (ses_nil))) (ses_nil))) (sg_sub hr.units (se_slot 0) (se_int))) (
  sss_cons (ss_asg (se_bin .add (se_ix (se_slot 0) (se_int)) (se_int)) (sg_sub hr.units (se_slot 0) (se_int))) (
  sss_cons (ss_if (st_cmp hr.units .lt (se_ix (se_slot 0) (se_int)) (se_bin .pow (se_int) (se_int))) (sss_cons (ss_asg (se_biT .int bi_int M.m_int (by decide +kernel) (ses_cons (se_ix (se_slot 0) (se_int)) (ses_nil))) (sg_name 2 sc9.nd)) (
  sss_cons (ss_asg (se_int) (sg_sub hr.units (se_slot 0) (se_int))) (
  sss_cons (ss_ret (se_bin .mod (se_slot 2) (se_slot 1))) (
  sss_nil)))) (sss_nil)) (
  sss_nil)))) (sss_nil)) (
  sss_cons (ss_if (st_cmp hr.units .gt (se_ix (se_slot 0) (se_int)) (se_int)) (sss_cons (ss_asg (se_bin .mod (se_biT .int bi_int M.m_int (by decide +kernel) (ses_cons (se_ix (se_slot 0) (se_int)) (ses_nil))) (se_slot 1)) (sg_name 3 sc9.nd)) (
  sss_cons (ss_asg (se_bin .fdiv (se_biT .int bi_int M.m_int (by decide +kernel) (ses_cons (se_ix (se_slot 0) (se_int)) (ses_nil))) (se_slot 1)) (sg_sub hr.units (se_slot 0) (se_int))) (
  sss_cons (ss_ret (se_slot 3)) (
  sss_nil)))) (sss_nil)) (
  sss_cons (ss_asg (se_bin .mod (se_biT .int bi_int M.m_int (by decide +kernel) (ses_cons (se_bin .add (se_bin .mul (se_ix (se_slot 0) (se_int)) (se_int)) (se_int)) (ses_nil))) (se_int)) (sg_sub hr.units (se_slot 0) (se_int))) (
  sss_cons (ss_ret (se_bin .mod (se_biT .int bi_int M.m_int (by decide +kernel) (ses_cons (se_bin .fdiv (se_ix (se_slot 0) (se_int)) (se_int)) (ses_nil))) (se_slot 1))) (
  sss_nil))))
theorem der10 {ad : Addr} {cdv : Value} {A : Around} {outer : List Env} {s : Shared} {H : Hp} {E : XK} (M : Mn mg) (Cc : Cn K mg C0 C1) (F : Fs P w K mg base (Tk (clsOf [C0, C1]) k) k a0 d0 a1 d1 a2 d2 a3 d3 a4 d4 a5 d5 a6 d6 a7 d7 a8 d8 a9 d9 a10 d10 a11 d11 a12 d12 a13 d13 a14 d14) (hr : Room k (A.deeper (envOfC "_law_signed" (defScope s10) s.heap.objs.size ad cdv))) :
    SSs (Tk (clsOf [C0, C1]) k) (cxOf (L2.CX P w) P w K mg base N10 "_law_signed" (defScope s10) ad cdv A outer s H E) none (fun c d _ H => E c d H) (defBody s10) b10 :=
  sss_cons (ss_ret (se_bin .sub (se_call ⟨⟨_, _, _, F.f9.fn, F.f9.pl, F.f9.at_, F.f9.kp, F.f9.bd⟩⟩ hr (takes_of rfl rfl rfl rfl) (ses_cons (se_slot 0) (ses_cons (se_bin .add (se_bin .mul (se_int) (se_slot 1)) (se_int)) (ses_nil))) (hlen := (len_cons (len_cons (fun _ _ _ _ h => len_nil h))))) (se_slot 1))) (
  sss_nil)
theorem der11 {ad : Addr} {cdv : Value} {A : Around} {outer : List Env} {s : Shared} {H : Hp} {E : XK} (M : Mn mg) (Cc : Cn K mg C0 C1) (F : Fs P w K mg base (Tk (clsOf [C0, C1]) k) k a0 d0 a1 d1 a2 d2 a3 d3 a4 d4 a5 d5 a6 d6 a7 d7 a8 d8 a9 d9 a10 d10 a11 d11 a12 d12 a13 d13 a14 d14) (hr : Room k (A.deeper (envOfC "_law_told" (defScope s11) s.heap.objs.size ad cdv))) :
    SSs (Tk (clsOf [C0, C1]) k) (cxOf (L2.CX P w) P w K mg base N11 "_law_told" (defScope s11) ad cdv A outer s H E) none (fun c d _ H => E c d H) (defBody s11) b11 :=
  sss_cons (ss_try_as 3 0 Cc.M rfl Cc.o0 (takes_of rfl rfl rfl rfl) sc11.nd (fun W pn xe tk hp => sss_cons (ss_asg (se_call ⟨⟨_, _, _, F.f7.fn, F.f7.pl, F.f7.at_, F.f7.kp, F.f7.bd⟩⟩ hr tk (ses_cons (se_slot 0) (ses_cons (se_slot 1) (ses_nil))) (hlen := (len_cons (len_cons (fun _ _ _ _ h => len_nil h))))) (sg_name 2 sc11.nd)) (
  sss_nil)) (fun ea eo eD ee epn he hz hf => sss_cons (ss_ret (se_ife (st_val (se_isx 3 1 Cc.M rfl Cc.o1 he hz hf M.m_isinstance)) (se_non) (se_str))) (
  sss_nil))) (
  sss_cons (ss_ret (se_ife (st_cmp hr.units .is (se_slot 2) (se_non)) (se_str) (se_slot 2))) (
  sss_nil))
theorem der12 {ad : Addr} {cdv : Value} {A : Around} {outer : List Env} {s : Shared} {H : Hp} {E : XK} (M : Mn mg) (Cc : Cn K mg C0 C1) (F : Fs P w K mg base (Tk (clsOf [C0, C1]) k) k a0 d0 a1 d1 a2 d2 a3 d3 a4 d4 a5 d5 a6 d6 a7 d7 a8 d8 a9 d9 a10 d10 a11 d11 a12 d12 a13 d13 a14 d14) (hr : Room k (A.deeper (envOfC "_law_check" (defScope s12) s.heap.objs.size ad cdv))) :
    SSs (Tk (clsOf [C0, C1]) k) (cxOf (L2.CX P w) P w K mg base N12 "_law_check" (defScope s12) ad cdv A outer s H E) none (fun c d _ H => E c d H) (defBody s12) b12 :=
  sss_cons (ss_asg (se_int) (sg_name 1 sc12.nd)) (
  sss_cons (ss_for (passes_of rfl) rfl (si_range1 M.m_range (se_biB .len bi_len M.m_len (by decide +kernel) (ses_cons (se_slot 0) (ses_nil)))) (sg_name 2 sc12.nd) (sss_cons (ss_asg (se_bin .mod (se_biT .int bi_int M.m_int (by decide +kernel) (ses_cons (se_bin .add (se_slot 1) (se_bin .mul (se_bin .add (se_slot 2) (se_int)) (se_biB .ord bi_ord M.m_ord (by decide +kernel) (ses_cons (se_ix (se_slot 0) (se_slot 2)) (ses_nil))))) (ses_nil))) (se_int)) (sg_name 1 sc12.nd)) (
  sss_nil))) (
  sss_cons (ss_ret (se_slot 1)) (
  sss_nil)))
theorem der13 {ad : Addr} {cdv : Value} {A : Around} {outer : List Env} {s : Shared} {H : Hp} {E : XK} (M : Mn mg) (Cc : Cn K mg C0 C1) (F : Fs P w K mg base (Tk (clsOf [C0, C1]) k) k a0 d0 a1 d1 a2 d2 a3 d3 a4 d4 a5 d5 a6 d6 a7 d7 a8 d8 a9 d9 a10 d10 a11 d11 a12 d12 a13 d13 a14 d14) (hr : Room k (A.deeper (envOfC "_law_number" (defScope s13) s.heap.objs.size ad cdv))) :
    SSs (Tk (clsOf [C0, C1]) k) (cxOf (L2.CX P w) P w K mg base N13 "_law_number" (defScope s13) ad cdv A outer s H E) none (fun c d _ H => E c d H) (defBody s13) b13 :=
  sss_cons (ss_asg (se_call ⟨⟨_, _, _, F.f10.fn, F.f10.pl, F.f10.at_, F.f10.kp, F.f10.bd⟩⟩ hr (takes_of rfl rfl rfl rfl) (ses_cons (se_slot 0) (ses_cons (se_int) (ses_nil))) (hlen := (len_cons (len_cons (fun _ _ _ _ h => len_nil h))))) (sg_name 1 sc13.nd)) (
  sss_cons (ss_ret (se_ife (st_cmp hr.units .eq (se_call ⟨⟨_, _, _, F.f9.fn, F.f9.pl, F.f9.at_, F.f9.kp, F.f9.bd⟩⟩ hr (takes_of rfl rfl rfl rfl) (ses_cons (se_slot 0) (ses_cons (se_int) (ses_nil))) (hlen := (len_cons (len_cons (fun _ _ _ _ h => len_nil h))))) (se_int)) (se_bin .add (se_bin .mul (se_slot 1) (se_bin .pow (se_int) (se_int))) (se_call ⟨⟨_, _, _, F.f10.fn, F.f10.pl, F.f10.at_, F.f10.kp, F.f10.bd⟩⟩ hr (takes_of rfl rfl rfl rfl) (ses_cons (se_slot 0) (ses_cons (se_bin .pow (se_int) (se_int)) (ses_nil))) (hlen := (len_cons (len_cons (fun _ _ _ _ h => len_nil h)))))) (se_slot 1))) (
  sss_nil))
theorem der14 {ad : Addr} {cdv : Value} {A : Around} {outer : List Env} {s : Shared} {H : Hp} {E : XK} (M : Mn mg) (Cc : Cn K mg C0 C1) (F : Fs P w K mg base (Tk (clsOf [C0, C1]) k) k a0 d0 a1 d1 a2 d2 a3 d3 a4 d4 a5 d5 a6 d6 a7 d7 a8 d8 a9 d9 a10 d10 a11 d11 a12 d12 a13 d13 a14 d14) (hr : Room k (A.deeper (envOfC "law" (defScope s14) s.heap.objs.size ad cdv))) :
    SSs (Tk (clsOf [C0, C1]) k) (cxOf (L2.CX P w) P w K mg base N14 "law" (defScope s14) ad cdv A outer s H E) none (fun c d _ H => E c d H) (defBody s14) b14 :=
  sss_cons (ss_asg (se_call ⟨⟨_, _, _, F.f8.fn, F.f8.pl, F.f8.at_, F.f8.kp, F.f8.bd⟩⟩ hr (takes_of rfl rfl rfl rfl) (ses_cons (se_slot 0) (ses_nil)) (hlen := (len_cons (fun _ _ _ _ h => len_nil h)))) (sg_name 1 sc14.nd)) (
  sss_cons (ss_asg (se_ix (se_tup (ses_cons (se_int) (ses_cons (se_int) (ses_cons (se_int) (ses_cons (se_int) (ses_nil)))))) (se_call ⟨⟨_, _, _, F.f9.fn, F.f9.pl, F.f9.at_, F.f9.kp, F.f9.bd⟩⟩ hr (takes_of rfl rfl rfl rfl) (ses_cons (se_slot 1) (ses_cons (se_int) (ses_nil))) (hlen := (len_cons (len_cons (fun _ _ _ _ h => len_nil h)))))) (sg_name 2 sc14.nd)) (
  sss_cons (ss_asg (se_biT .tuple bi_tuple M.m_tuple (by decide +kernel) (ses_cons (se_lc [("k", 18)] rfl sc14.nd (si_range1 M.m_range (se_bin .add (se_int) (se_call ⟨⟨_, _, _, F.f9.fn, F.f9.pl, F.f9.at_, F.f9.kp, F.f9.bd⟩⟩ hr (takes_of rfl rfl rfl rfl) (ses_cons (se_slot 1) (ses_cons (se_ix (se_tup (ses_cons (se_int) (ses_cons (se_int) (ses_nil)))) (se_call ⟨⟨_, _, _, F.f9.fn, F.f9.pl, F.f9.at_, F.f9.kp, F.f9.bd⟩⟩ hr (takes_of rfl rfl rfl rfl) (ses_cons (se_slot 1) (ses_cons (se_int) (ses_nil))) (hlen := (len_cons (len_cons (fun _ _ _ _ h => len_nil h)))))) (ses_nil))) (hlen := (len_cons (len_cons (fun _ _ _ _ h => len_nil h))))))) (blkOk_by (N := N14) (sc := (defScope s14)) (by decide +kernel)) (fun _ _ _ _ _ => sgw_name 18 sc14.nd) (fun _ _ _ _ _ => sif_nil) (fun _ _ _ _ _ => se_bin .add (se_int) (se_call ⟨⟨_, _, _, F.f9.fn, F.f9.pl, F.f9.at_, F.f9.kp, F.f9.bd⟩⟩ hr takes0 (ses_cons (se_slot 1) (ses_cons (se_slot 2) (ses_nil))) (hlen := (len_cons (len_cons (fun _ _ _ _ h => len_nil h))))))) (ses_nil))) (sg_name 3 sc14.nd)) (
  sss_cons (ss_asg (se_biT .tuple bi_tuple M.m_tuple (by decide +kernel) (ses_cons (se_lc [("size", 19)] rfl sc14.nd (si_seq (se_slot 3)) (blkOk_by (N := N14) (sc := (defScope s14)) (by decide +kernel)) (fun _ _ _ _ _ => sgw_name 19 sc14.nd) (fun _ _ _ _ _ => sif_nil) (fun _ _ _ _ _ => se_biT .tuple bi_tuple M.m_tuple (by decide +kernel) (ses_cons (se_lc [("k", 18)] rfl sc14.nd (si_range1 M.m_range (se_slot 19)) (blkOk_by (N := N14) (sc := ({ kind := .function, names := [(".0", .local), ("size", .local), ("tuple", .globalImplicit), ("range", .globalImplicit), ("d", .cell)], isGenerator := false, isCoroutine := false } : Scope)) (by decide +kernel)) (fun _ _ _ _ _ => sgw_name 18 sc14.nd) (fun _ _ _ _ _ => sif_nil) (fun _ _ _ _ _ => se_call ⟨⟨_, _, _, F.f13.fn, F.f13.pl, F.f13.at_, F.f13.kp, F.f13.bd⟩⟩ hr takes0 (ses_cons (se_slot 1) (ses_nil)) (hlen := (len_cons (fun _ _ _ _ h => len_nil h))))) (ses_nil)))) (ses_nil))) (sg_name 4 sc14.nd)) (
  sss_cons (ss_asg (se_biB .abs bi_abs M.m_abs (by decide +kernel) (ses_cons (se_call ⟨⟨_, _, _, F.f13.fn, F.f13.pl, F.f13.at_, F.f13.kp, F.f13.bd⟩⟩ hr (takes_of rfl rfl rfl rfl) (ses_cons (se_slot 1) (ses_nil)) (hlen := (len_cons (fun _ _ _ _ h => len_nil h)))) (ses_nil))) (sg_name 5 sc14.nd)) (
  sss_cons (ss_asg (se_bin .add (se_str) (se_biT .str bi_str M.m_str (by decide +kernel) (ses_cons (se_slot 5) (ses_nil)))) (sg_name 6 sc14.nd)) (
  sss_cons (ss_for (passes_of rfl) rfl (si_seq (se_slot 4)) (sg_name 7 sc14.nd) (sss_cons (ss_asg (se_bin .add (se_bin .add (se_slot 6) (se_str)) (se_sm1 .join PySem.F.slot_str_join PySem.F.type_str_join sm_join (se_str) (se_lc [("n", 20)] rfl sc14.nd (si_seq (se_slot 7)) (blkOk_by (N := N14) (sc := (defScope s14)) (by decide +kernel)) (fun _ _ _ _ _ => sgw_name 20 sc14.nd) (fun _ _ _ _ _ => sif_nil) (fun _ _ _ _ _ => se_biT .str bi_str M.m_str (by decide +kernel) (ses_cons (se_slot 20) (ses_nil)))))) (sg_name 6 sc14.nd)) (
  sss_nil))) (
  sss_cons (ss_asg (se_bin .add (se_bin .add (se_slot 6) (se_str)) (se_biT .str bi_str M.m_str (by decide +kernel) (ses_cons (se_call ⟨⟨_, _, _, F.f12.fn, F.f12.pl, F.f12.at_, F.f12.kp, F.f12.bd⟩⟩ hr (takes_of rfl rfl rfl rfl) (ses_cons (se_slot 6) (ses_nil)) (hlen := (len_cons (fun _ _ _ _ h => len_nil h)))) (ses_nil)))) (sg_name 8 sc14.nd)) (
  sss_cons (ss_asg (se_call ⟨⟨_, _, _, F.f4.fn, F.f4.pl, F.f4.at_, F.f4.kp, F.f4.bd⟩⟩ hr (takes_of rfl rfl rfl rfl) (ses_cons (se_slot 5) (ses_cons (se_slot 4) (ses_nil))) (hlen := (len_cons (len_cons (fun _ _ _ _ h => len_nil h))))) (sg_name 9 sc14.nd)) (
  sss_cons (ss_if (st_w (sw_or (st_not (st_val (se_isi "str" M.m_isinstance M.m_str (by decide +kernel) (se_slot 9)))) (sw_or (st_cmp hr.units .ne (se_slot 9) (se_bin .add (se_slot 8) (se_str))) (sw_one_or (st_cmp hr.units .ne (se_call ⟨⟨_, _, _, F.f2.fn, F.f2.pl, F.f2.at_, F.f2.kp, F.f2.bd⟩⟩ hr (takes_of rfl rfl rfl rfl) (ses_cons (se_slot 6) (ses_nil)) (hlen := (len_cons (fun _ _ _ _ h => len_nil h)))) (se_call ⟨⟨_, _, _, F.f12.fn, F.f12.pl, F.f12.at_, F.f12.kp, F.f12.bd⟩⟩ hr (takes_of rfl rfl rfl rfl) (ses_cons (se_slot 6) (ses_nil)) (hlen := (len_cons (fun _ _ _ _ h => len_nil h))))))))) (sss_cons (ss_ret (se_bl)) (
  sss_nil)) (sss_nil)) (
  sss_cons (ss_if (st_cmp hr.units .ne (se_call ⟨⟨_, _, _, F.f11.fn, F.f11.pl, F.f11.at_, F.f11.kp, F.f11.bd⟩⟩ hr (takes_of rfl rfl rfl rfl) (ses_cons (se_slot 8) (ses_cons (se_slot 3) (ses_nil))) (hlen := (len_cons (len_cons (fun _ _ _ _ h => len_nil h))))) (se_tup (ses_cons (se_slot 5) (ses_cons (se_slot 4) (ses_nil))))) (sss_cons (ss_ret (se_bl)) (
  sss_nil)) (sss_nil)) (
  sss_cons (ss_asg (se_str) (sg_name 10 sc14.nd)) (
  sss_cons (ss_for (passes_of rfl) rfl (si_range1 M.m_range (se_int)) (sg_name 11 sc14.nd) (sss_cons (ss_asg (se_call ⟨⟨_, _, _, F.f9.fn, F.f9.pl, F.f9.at_, F.f9.kp, F.f9.bd⟩⟩ hr (takes_of rfl rfl rfl rfl) (ses_cons (se_slot 1) (ses_cons (se_biB .len bi_len M.m_len (by decide +kernel) (ses_cons (se_slot 8) (ses_nil))) (ses_nil))) (hlen := (len_cons (len_cons (fun _ _ _ _ h => len_nil h))))) (sg_name 12 sc14.nd)) (
  sss_cons (ss_asg (se_ix (se_slot 10) (se_call ⟨⟨_, _, _, F.f9.fn, F.f9.pl, F.f9.at_, F.f9.kp, F.f9.bd⟩⟩ hr (takes_of rfl rfl rfl rfl) (ses_cons (se_slot 1) (ses_cons (se_biB .len bi_len M.m_len (by decide +kernel) (ses_cons (se_slot 10) (ses_nil))) (ses_nil))) (hlen := (len_cons (len_cons (fun _ _ _ _ h => len_nil h)))))) (sg_name 13 sc14.nd)) (
  sss_cons (ss_if (st_cmp hr.units .eq (se_slot 11) (se_int)) (sss_cons (ss_asg (se_ix (se_str) (se_call ⟨⟨_, _, _, F.f9.fn, F.f9.pl, F.f9.at_, F.f9.kp, F.f9.bd⟩⟩ hr (takes_of rfl rfl rfl rfl) (ses_cons (se_slot 1) (ses_cons (se_int) (ses_nil))) (hlen := (len_cons (len_cons (fun _ _ _ _ h => len_nil h)))))) (sg_name 13 sc14.nd)) (
  sss_nil)) (sss_nil)) (
  sss_cons (ss_if (st_cmp hr.units .eq (se_slot 11) (se_int)) (sss_cons (ss_asg (se_index (takes_of rfl rfl rfl rfl) (se_slot 8) (se_str) (se_biB .min2 (bi_min2 rfl) M.m_min (by decide +kernel) (ses_cons (se_slot 12) (ses_cons (se_bin .sub (se_biB .len bi_len M.m_len (by decide +kernel) (ses_cons (se_slot 8) (ses_nil))) (se_int)) (ses_nil))))) (sg_name 12 sc14.nd)) (
  sss_cons (ss_asg (se_ix (se_tup (ses_cons (se_str) (ses_cons (se_str) (ses_cons (se_str) (ses_cons (se_str) (ses_nil)))))) (se_call ⟨⟨_, _, _, F.f9.fn, F.f9.pl, F.f9.at_, F.f9.kp, F.f9.bd⟩⟩ hr (takes_of rfl rfl rfl rfl) (ses_cons (se_slot 1) (ses_cons (se_int) (ses_nil))) (hlen := (len_cons (len_cons (fun _ _ _ _ h => len_nil h)))))) (sg_name 13 sc14.nd)) (
  sss_nil))) (sss_nil)) (
  sss_cons (ss_if (st_w (sw_and (st_cmp hr.units .ne (se_ix (se_slot 8) (se_slot 12)) (se_slot 13)) (sw_one_and (st_cmp hr.units .isNot (se_call ⟨⟨_, _, _, F.f11.fn, F.f11.pl, F.f11.at_, F.f11.kp, F.f11.bd⟩⟩ hr (takes_of rfl rfl rfl rfl) (ses_cons (se_bin .add (se_bin .add (se_slc (se_slot 8) so_none (so_some (se_slot 12))) (se_slot 13)) (se_slc (se_slot 8) (so_some (se_bin .add (se_slot 12) (se_int))) so_none)) (ses_cons (se_slot 3) (ses_nil))) (hlen := (len_cons (len_cons (fun _ _ _ _ h => len_nil h))))) (se_non))))) (sss_cons (ss_ret (se_bl)) (
  sss_nil)) (sss_nil)) (
  sss_nil))))))) (
  sss_cons (ss_asg (se_sm1 .split PySem.F.slot_str_split PySem.F.type_str_split sm_split (se_slot 8) (se_str)) (sg_name 14 sc14.nd)) (
  sss_cons (ss_asg (se_call ⟨⟨_, _, _, F.f9.fn, F.f9.pl, F.f9.at_, F.f9.kp, F.f9.bd⟩⟩ hr (takes_of rfl rfl rfl rfl) (ses_cons (se_slot 1) (ses_cons (se_biB .len bi_len M.m_len (by decide +kernel) (ses_cons (se_slot 14) (ses_nil))) (ses_nil))) (hlen := (len_cons (len_cons (fun _ _ _ _ h => len_nil h))))) (sg_name 15 sc14.nd)) (
  sss_cons (ss_asg (se_sm1 .join PySem.F.slot_str_join PySem.F.type_str_join sm_join (se_str) (se_bin .add (se_slc (se_slot 14) so_none (so_some (se_bin .add (se_slot 15) (se_int)))) (se_slc (se_slot 14) (so_some (se_slot 15)) so_none))) (sg_name 16 sc14.nd)) (
  sss_cons (ss_asg (se_sm1 .join PySem.F.slot_str_join PySem.F.type_str_join sm_join (se_str) (se_bin .add (se_slc (se_slot 14) so_none (so_some (se_slot 15))) (se_slc (se_slot 14) (so_some (se_bin .add (se_slot 15) (se_int))) so_none))) (sg_name 17 sc14.nd)) (
  sss_cons (ss_if (st_w (sw_or (st_cmp hr.units .isNot (se_call ⟨⟨_, _, _, F.f11.fn, F.f11.pl, F.f11.at_, F.f11.kp, F.f11.bd⟩⟩ hr (takes_of rfl rfl rfl rfl) (ses_cons (se_slot 16) (ses_cons (se_slot 3) (ses_nil))) (hlen := (len_cons (len_cons (fun _ _ _ _ h => len_nil h))))) (se_non)) (sw_or (st_cmp hr.units .isNot (se_call ⟨⟨_, _, _, F.f11.fn, F.f11.pl, F.f11.at_, F.f11.kp, F.f11.bd⟩⟩ hr (takes_of rfl rfl rfl rfl) (ses_cons (se_slot 17) (ses_cons (se_slot 3) (ses_nil))) (hlen := (len_cons (len_cons (fun _ _ _ _ h => len_nil h))))) (se_non)) (sw_one_or (st_cmp hr.units .isNot (se_call ⟨⟨_, _, _, F.f11.fn, F.f11.pl, F.f11.at_, F.f11.kp, F.f11.bd⟩⟩ hr (takes_of rfl rfl rfl rfl) (ses_cons (se_str) (ses_cons (se_slot 3) (ses_nil))) (hlen := (len_cons (len_cons (fun _ _ _ _ h => len_nil h))))) (se_non)))))) (sss_cons (ss_ret (se_bl)) (
  sss_nil)) (sss_nil)) (
  sss_cons (ss_ret (se_and (se_cmp hr.units .is (se_call ⟨⟨_, _, _, F.f11.fn, F.f11.pl, F.f11.at_, F.f11.kp, F.f11.bd⟩⟩ hr (takes_of rfl rfl rfl rfl) (ses_cons (se_slot 8) (ses_cons (se_bin .add (se_slot 3) (se_tup (ses_cons (se_int) (ses_nil)))) (ses_nil))) (hlen := (len_cons (len_cons (fun _ _ _ _ h => len_nil h))))) (se_non)) (se_one (se_cmp hr.units .is (se_call ⟨⟨_, _, _, F.f11.fn, F.f11.pl, F.f11.at_, F.f11.kp, F.f11.bd⟩⟩ hr (takes_of rfl rfl rfl rfl) (ses_cons (se_slot 8) (ses_cons (se_bin .add (se_tup (ses_cons (se_bin .add (se_ix (se_slot 3) (se_int)) (se_int)) (ses_nil))) (se_slc (se_slot 3) (so_some (se_int)) so_none)) (ses_nil))) (hlen := (len_cons (len_cons (fun _ _ _ _ h => len_nil h))))) (se_non))))) (
  sss_nil)))))))))))))))))))
theorem all_fs (M : Mn mg) (Cc : Cn K mg C0 C1) (F0 : Fun K "is_natural" "is_natural" s0 a0 d0) (g0 : mg "is_natural" = some (.ref a0)) (F1 : Fun K "is_integer" "is_integer" s1 a1 d1) (g1 : mg "is_integer" = some (.ref a1)) (F2 : Fun K "check_number" "check_number" s2 a2 d2) (g2 : mg "check_number" = some (.ref a2)) (F3 : Fun K "weight_words" "weight_words" s3 a3 d3) (g3 : mg "weight_words" = some (.ref a3)) (F4 : Fun K "journal_line" "journal_line" s4 a4 d4) (g4 : mg "journal_line" = some (.ref a4)) (F5 : Fun K "check_ending" "check_ending" s5 a5 d5) (g5 : mg "check_ending" = some (.ref a5)) (F6 : Fun K "read_weights" "read_weights" s6 a6 d6) (g6 : mg "read_weights" = some (.ref a6)) (F7 : Fun K "read_line" "read_line" s7 a7 d7) (g7 : mg "read_line" = some (.ref a7)) (F8 : Fun K "_law_begin" "_law_begin" s8 a8 d8) (g8 : mg "_law_begin" = some (.ref a8)) (F9 : Fun K "_law_take" "_law_take" s9 a9 d9) (g9 : mg "_law_take" = some (.ref a9)) (F10 : Fun K "_law_signed" "_law_signed" s10 a10 d10) (g10 : mg "_law_signed" = some (.ref a10)) (F11 : Fun K "_law_told" "_law_told" s11 a11 d11) (g11 : mg "_law_told" = some (.ref a11)) (F12 : Fun K "_law_check" "_law_check" s12 a12 d12) (g12 : mg "_law_check" = some (.ref a12)) (F13 : Fun K "_law_number" "_law_number" s13 a13 d13) (g13 : mg "_law_number" = some (.ref a13)) (F14 : Fun K "law" "law" s14 a14 d14) (g14 : mg "law" = some (.ref a14)) : ∀ k, Fs P w K mg base (Tk (clsOf [C0, C1]) k) k a0 d0 a1 d1 a2 d2 a3 d3 a4 d4 a5 d5 a6 d6 a7 d7 a8 d8 a9 d9 a10 d10 a11 d11 a12 d12 a13 d13 a14 d14
  | 0 => ⟨⟨fn_zero, rfl, g0, F0.kp, F0.binds (ps := ["word", "most"]) fun _ _ _ _ _ _ us hl => match us, hl with | [_, _], _ => rfl⟩, ⟨fn_zero, rfl, g1, F1.kp, F1.binds (ps := ["word", "most"]) fun _ _ _ _ _ _ us hl => match us, hl with | [_, _], _ => rfl⟩, ⟨fn_zero, rfl, g2, F2.kp, F2.binds (ps := ["text"]) fun _ _ _ _ _ _ us hl => match us, hl with | [_], _ => rfl⟩, ⟨fn_zero, rfl, g3, F3.kp, F3.binds (ps := ["weights"]) fun _ _ _ _ _ _ us hl => match us, hl with | [_], _ => rfl⟩, ⟨fn_zero, rfl, g4, F4.kp, F4.binds (ps := ["steps", "weights"]) fun _ _ _ _ _ _ us hl => match us, hl with | [_, _], _ => rfl⟩, ⟨fn_zero, rfl, g5, F5.kp, F5.binds (ps := ["line", "words"]) fun _ _ _ _ _ _ us hl => match us, hl with | [_, _], _ => rfl⟩, ⟨fn_zero, rfl, g6, F6.kp, F6.binds (ps := ["words", "sizes"]) fun _ _ _ _ _ _ us hl => match us, hl with | [_, _], _ => rfl⟩, ⟨fn_zero, rfl, g7, F7.kp, F7.binds (ps := ["line", "sizes"]) fun _ _ _ _ _ _ us hl => match us, hl with | [_, _], _ => rfl⟩, ⟨fn_zero, rfl, g8, F8.kp, F8.binds (ps := ["script"]) fun _ _ _ _ _ _ us hl => match us, hl with | [_], _ => rfl⟩, ⟨fn_zero, rfl, g9, F9.kp, F9.binds (ps := ["d", "many"]) fun _ _ _ _ _ _ us hl => match us, hl with | [_, _], _ => rfl⟩, ⟨fn_zero, rfl, g10, F10.kp, F10.binds (ps := ["d", "most"]) fun _ _ _ _ _ _ us hl => match us, hl with | [_, _], _ => rfl⟩, ⟨fn_zero, rfl, g11, F11.kp, F11.binds (ps := ["line", "sizes"]) fun _ _ _ _ _ _ us hl => match us, hl with | [_, _], _ => rfl⟩, ⟨fn_zero, rfl, g12, F12.kp, F12.binds (ps := ["text"]) fun _ _ _ _ _ _ us hl => match us, hl with | [_], _ => rfl⟩, ⟨fn_zero, rfl, g13, F13.kp, F13.binds (ps := ["d"]) fun _ _ _ _ _ _ us hl => match us, hl with | [_], _ => rfl⟩, ⟨fn_zero, rfl, g14, F14.kp, F14.binds (ps := ["script"]) fun _ _ _ _ _ _ us hl => match us, hl with | [_], _ => rfl⟩⟩
  | k + 1 => by
    have F := all_fs M Cc F0 g0 F1 g1 F2 g2 F3 g3 F4 g4 F5 g5 F6 g6 F7 g7 F8 g8 F9 g9 F10 g10 F11 g11 F12 g12 F13 g13 F14 g14 k
    exact ⟨⟨fn_ok F0 sc0 rfl (by decide) (fun cdv A outer s H E hr => der0 M Cc F hr), rfl, g0, F0.kp, F0.binds (ps := ["word", "most"]) fun _ _ _ _ _ _ us hl => match us, hl with | [_, _], _ => rfl⟩, ⟨fn_ok F1 sc1 rfl (by decide) (fun cdv A outer s H E hr => der1 M Cc F hr), rfl, g1, F1.kp, F1.binds (ps := ["word", "most"]) fun _ _ _ _ _ _ us hl => match us, hl with | [_, _], _ => rfl⟩, ⟨fn_ok F2 sc2 rfl (by decide) (fun cdv A outer s H E hr => der2 M Cc F hr), rfl, g2, F2.kp, F2.binds (ps := ["text"]) fun _ _ _ _ _ _ us hl => match us, hl with | [_], _ => rfl⟩, ⟨fn_ok F3 sc3 rfl (by decide) (fun cdv A outer s H E hr => der3 M Cc F hr), rfl, g3, F3.kp, F3.binds (ps := ["weights"]) fun _ _ _ _ _ _ us hl => match us, hl with | [_], _ => rfl⟩, ⟨fn_ok F4 sc4 rfl (by decide) (fun cdv A outer s H E hr => der4 M Cc F hr), rfl, g4, F4.kp, F4.binds (ps := ["steps", "weights"]) fun _ _ _ _ _ _ us hl => match us, hl with | [_, _], _ => rfl⟩, ⟨fn_ok F5 sc5 rfl (by decide) (fun cdv A outer s H E hr => der5 M Cc F hr), rfl, g5, F5.kp, F5.binds (ps := ["line", "words"]) fun _ _ _ _ _ _ us hl => match us, hl with | [_, _], _ => rfl⟩, ⟨fn_ok F6 sc6 rfl (by decide) (fun cdv A outer s H E hr => der6 M Cc F hr), rfl, g6, F6.kp, F6.binds (ps := ["words", "sizes"]) fun _ _ _ _ _ _ us hl => match us, hl with | [_, _], _ => rfl⟩, ⟨fn_ok F7 sc7 rfl (by decide) (fun cdv A outer s H E hr => der7 M Cc F hr), rfl, g7, F7.kp, F7.binds (ps := ["line", "sizes"]) fun _ _ _ _ _ _ us hl => match us, hl with | [_, _], _ => rfl⟩, ⟨fn_ok F8 sc8 rfl (by decide) (fun cdv A outer s H E hr => der8 M Cc F hr), rfl, g8, F8.kp, F8.binds (ps := ["script"]) fun _ _ _ _ _ _ us hl => match us, hl with | [_], _ => rfl⟩, ⟨fn_ok F9 sc9 rfl (by decide) (fun cdv A outer s H E hr => der9 M Cc F hr), rfl, g9, F9.kp, F9.binds (ps := ["d", "many"]) fun _ _ _ _ _ _ us hl => match us, hl with | [_, _], _ => rfl⟩, ⟨fn_ok F10 sc10 rfl (by decide) (fun cdv A outer s H E hr => der10 M Cc F hr), rfl, g10, F10.kp, F10.binds (ps := ["d", "most"]) fun _ _ _ _ _ _ us hl => match us, hl with | [_, _], _ => rfl⟩, ⟨fn_ok F11 sc11 rfl (by decide) (fun cdv A outer s H E hr => der11 M Cc F hr), rfl, g11, F11.kp, F11.binds (ps := ["line", "sizes"]) fun _ _ _ _ _ _ us hl => match us, hl with | [_, _], _ => rfl⟩, ⟨fn_ok F12 sc12 rfl (by decide) (fun cdv A outer s H E hr => der12 M Cc F hr), rfl, g12, F12.kp, F12.binds (ps := ["text"]) fun _ _ _ _ _ _ us hl => match us, hl with | [_], _ => rfl⟩, ⟨fn_ok F13 sc13 rfl (by decide) (fun cdv A outer s H E hr => der13 M Cc F hr), rfl, g13, F13.kp, F13.binds (ps := ["d"]) fun _ _ _ _ _ _ us hl => match us, hl with | [_], _ => rfl⟩, ⟨fn_ok F14 sc14 rfl (by decide) (fun cdv A outer s H E hr => der14 M Cc F hr), rfl, g14, F14.kp, F14.binds (ps := ["script"]) fun _ _ _ _ _ _ us hl => match us, hl with | [_], _ => rfl⟩⟩
end
/-- the law from the run of the small machine -/
theorem end_of {l : PySem.W.OpenLaw} {w : World} {K : PySem.W.Frag} {h : Heap} {mg : Str → Option Value} {fa : Addr} (X : K.In h) (G : h.Ns mainGlobals mg) (hfa : mg "law" = some (.ref fa))
    {f0 : Addr} {oc0 kV0 dc0 pm0 cd0 ct0 : Value} {od0 an0 : Option Addr} {sl0 : Array (Option Value)}
    {f1 : Addr} {oc1 kV1 dc1 pm1 cd1 ct1 : Value} {od1 an1 : Option Addr} {sl1 : Array (Option Value)}
    {f2 : Addr} {oc2 kV2 dc2 pm2 cd2 ct2 : Value} {od2 an2 : Option Addr} {sl2 : Array (Option Value)}
    {f3 : Addr} {oc3 kV3 dc3 pm3 cd3 ct3 : Value} {od3 an3 : Option Addr} {sl3 : Array (Option Value)}
    {f4 : Addr} {oc4 kV4 dc4 pm4 cd4 ct4 : Value} {od4 an4 : Option Addr} {sl4 : Array (Option Value)}
    {f5 : Addr} {oc5 kV5 dc5 pm5 cd5 ct5 : Value} {od5 an5 : Option Addr} {sl5 : Array (Option Value)}
    {f6 : Addr} {oc6 kV6 dc6 pm6 cd6 ct6 : Value} {od6 an6 : Option Addr} {sl6 : Array (Option Value)}
    {f7 : Addr} {oc7 kV7 dc7 pm7 cd7 ct7 : Value} {od7 an7 : Option Addr} {sl7 : Array (Option Value)}
    {f8 : Addr} {oc8 kV8 dc8 pm8 cd8 ct8 : Value} {od8 an8 : Option Addr} {sl8 : Array (Option Value)}
    {f9 : Addr} {oc9 kV9 dc9 pm9 cd9 ct9 : Value} {od9 an9 : Option Addr} {sl9 : Array (Option Value)}
    {f10 : Addr} {oc10 kV10 dc10 pm10 cd10 ct10 : Value} {od10 an10 : Option Addr} {sl10 : Array (Option Value)}
    {f11 : Addr} {oc11 kV11 dc11 pm11 cd11 ct11 : Value} {od11 an11 : Option Addr} {sl11 : Array (Option Value)}
    {f12 : Addr} {oc12 kV12 dc12 pm12 cd12 ct12 : Value} {od12 an12 : Option Addr} {sl12 : Array (Option Value)}
    {f13 : Addr} {oc13 kV13 dc13 pm13 cd13 ct13 : Value} {od13 an13 : Option Addr} {sl13 : Array (Option Value)}
    {f14 : Addr} {oc14 kV14 dc14 pm14 cd14 ct14 : Value} {od14 an14 : Option Addr} {sl14 : Array (Option Value)}
    (a0 : PySem.W.nsIn K mainGlobals "is_natural" = some (some (.ref f0))) (l0 : K.lookup f0 = some ⟨oc0, od0, .func (PySem.W.fnOf "is_natural" "is_natural" (defArgs s0) (defBody s0) (defScope s0) .none kV0 dc0 pm0 an0 cd0 ct0), sl0⟩) (c0 : PySem.W.codeIn K cd0 "is_natural" = true) (k0 : PySem.W.keepIn K (.ref f0) = true)
    (a1 : PySem.W.nsIn K mainGlobals "is_integer" = some (some (.ref f1))) (l1 : K.lookup f1 = some ⟨oc1, od1, .func (PySem.W.fnOf "is_integer" "is_integer" (defArgs s1) (defBody s1) (defScope s1) .none kV1 dc1 pm1 an1 cd1 ct1), sl1⟩) (c1 : PySem.W.codeIn K cd1 "is_integer" = true) (k1 : PySem.W.keepIn K (.ref f1) = true)
    (a2 : PySem.W.nsIn K mainGlobals "check_number" = some (some (.ref f2))) (l2 : K.lookup f2 = some ⟨oc2, od2, .func (PySem.W.fnOf "check_number" "check_number" (defArgs s2) (defBody s2) (defScope s2) .none kV2 dc2 pm2 an2 cd2 ct2), sl2⟩) (c2 : PySem.W.codeIn K cd2 "check_number" = true) (k2 : PySem.W.keepIn K (.ref f2) = true)
    (a3 : PySem.W.nsIn K mainGlobals "weight_words" = some (some (.ref f3))) (l3 : K.lookup f3 = some ⟨oc3, od3, .func (PySem.W.fnOf "weight_words" "weight_words" (defArgs s3) (defBody s3) (defScope s3) .none kV3 dc3 pm3 an3 cd3 ct3), sl3⟩) (c3 : PySem.W.codeIn K cd3 "weight_words" = true) (k3 : PySem.W.keepIn K (.ref f3) = true)
    (a4 : PySem.W.nsIn K mainGlobals "journal_line" = some (some (.ref f4))) (l4 : K.lookup f4 = some ⟨oc4, od4, .func (PySem.W.fnOf "journal_line" "journal_line" (defArgs s4) (defBody s4) (defScope s4) .none kV4 dc4 pm4 an4 cd4 ct4), sl4⟩) (c4 : PySem.W.codeIn K cd4 "journal_line" = true) (k4 : PySem.W.keepIn K (.ref f4) = true)
    (a5 : PySem.W.nsIn K mainGlobals "check_ending" = some (some (.ref f5))) (l5 : K.lookup f5 = some ⟨oc5, od5, .func (PySem.W.fnOf "check_ending" "check_ending" (defArgs s5) (defBody s5) (defScope s5) .none kV5 dc5 pm5 an5 cd5 ct5), sl5⟩) (c5 : PySem.W.codeIn K cd5 "check_ending" = true) (k5 : PySem.W.keepIn K (.ref f5) = true)
    (a6 : PySem.W.nsIn K mainGlobals "read_weights" = some (some (.ref f6))) (l6 : K.lookup f6 = some ⟨oc6, od6, .func (PySem.W.fnOf "read_weights" "read_weights" (defArgs s6) (defBody s6) (defScope s6) .none kV6 dc6 pm6 an6 cd6 ct6), sl6⟩) (c6 : PySem.W.codeIn K cd6 "read_weights" = true) (k6 : PySem.W.keepIn K (.ref f6) = true)
    (a7 : PySem.W.nsIn K mainGlobals "read_line" = some (some (.ref f7))) (l7 : K.lookup f7 = some ⟨oc7, od7, .func (PySem.W.fnOf "read_line" "read_line" (defArgs s7) (defBody s7) (defScope s7) .none kV7 dc7 pm7 an7 cd7 ct7), sl7⟩) (c7 : PySem.W.codeIn K cd7 "read_line" = true) (k7 : PySem.W.keepIn K (.ref f7) = true)
    (a8 : PySem.W.nsIn K mainGlobals "_law_begin" = some (some (.ref f8))) (l8 : K.lookup f8 = some ⟨oc8, od8, .func (PySem.W.fnOf "_law_begin" "_law_begin" (defArgs s8) (defBody s8) (defScope s8) .none kV8 dc8 pm8 an8 cd8 ct8), sl8⟩) (c8 : PySem.W.codeIn K cd8 "_law_begin" = true) (k8 : PySem.W.keepIn K (.ref f8) = true)
    (a9 : PySem.W.nsIn K mainGlobals "_law_take" = some (some (.ref f9))) (l9 : K.lookup f9 = some ⟨oc9, od9, .func (PySem.W.fnOf "_law_take" "_law_take" (defArgs s9) (defBody s9) (defScope s9) .none kV9 dc9 pm9 an9 cd9 ct9), sl9⟩) (c9 : PySem.W.codeIn K cd9 "_law_take" = true) (k9 : PySem.W.keepIn K (.ref f9) = true)
    (a10 : PySem.W.nsIn K mainGlobals "_law_signed" = some (some (.ref f10))) (l10 : K.lookup f10 = some ⟨oc10, od10, .func (PySem.W.fnOf "_law_signed" "_law_signed" (defArgs s10) (defBody s10) (defScope s10) .none kV10 dc10 pm10 an10 cd10 ct10), sl10⟩) (c10 : PySem.W.codeIn K cd10 "_law_signed" = true) (k10 : PySem.W.keepIn K (.ref f10) = true)
    (a11 : PySem.W.nsIn K mainGlobals "_law_told" = some (some (.ref f11))) (l11 : K.lookup f11 = some ⟨oc11, od11, .func (PySem.W.fnOf "_law_told" "_law_told" (defArgs s11) (defBody s11) (defScope s11) .none kV11 dc11 pm11 an11 cd11 ct11), sl11⟩) (c11 : PySem.W.codeIn K cd11 "_law_told" = true) (k11 : PySem.W.keepIn K (.ref f11) = true)
    (a12 : PySem.W.nsIn K mainGlobals "_law_check" = some (some (.ref f12))) (l12 : K.lookup f12 = some ⟨oc12, od12, .func (PySem.W.fnOf "_law_check" "_law_check" (defArgs s12) (defBody s12) (defScope s12) .none kV12 dc12 pm12 an12 cd12 ct12), sl12⟩) (c12 : PySem.W.codeIn K cd12 "_law_check" = true) (k12 : PySem.W.keepIn K (.ref f12) = true)
    (a13 : PySem.W.nsIn K mainGlobals "_law_number" = some (some (.ref f13))) (l13 : K.lookup f13 = some ⟨oc13, od13, .func (PySem.W.fnOf "_law_number" "_law_number" (defArgs s13) (defBody s13) (defScope s13) .none kV13 dc13 pm13 an13 cd13 ct13), sl13⟩) (c13 : PySem.W.codeIn K cd13 "_law_number" = true) (k13 : PySem.W.keepIn K (.ref f13) = true)
    (a14 : PySem.W.nsIn K mainGlobals "law" = some (some (.ref f14))) (l14 : K.lookup f14 = some ⟨oc14, od14, .func (PySem.W.fnOf "law" "law" (defArgs s14) (defBody s14) (defScope s14) .none kV14 dc14 pm14 an14 cd14 ct14), sl14⟩) (c14 : PySem.W.codeIn K cd14 "law" = true) (k14 : PySem.W.keepIn K (.ref f14) = true)
    (z_abs : PySem.W.nsIn K mainGlobals "abs" = some none)
    (z_all : PySem.W.nsIn K mainGlobals "all" = some none)
    (z_enumerate : PySem.W.nsIn K mainGlobals "enumerate" = some none)
    (z_int : PySem.W.nsIn K mainGlobals "int" = some none)
    (z_isinstance : PySem.W.nsIn K mainGlobals "isinstance" = some none)
    (z_len : PySem.W.nsIn K mainGlobals "len" = some none)
    (z_list : PySem.W.nsIn K mainGlobals "list" = some none)
    (z_min : PySem.W.nsIn K mainGlobals "min" = some none)
    (z_ord : PySem.W.nsIn K mainGlobals "ord" = some none)
    (z_range : PySem.W.nsIn K mainGlobals "range" = some none)
    (z_str : PySem.W.nsIn K mainGlobals "str" = some none)
    (z_sum : PySem.W.nsIn K mainGlobals "sum" = some none)
    (z_tuple : PySem.W.nsIn K mainGlobals "tuple" = some none)
    {t_CHECK_PRIME : Tok} (x_CHECK_PRIME : PySem.W.nsIn K mainGlobals "CHECK_PRIME" = some (some (.int 65521 t_CHECK_PRIME)))
    {t_CHECK_WORD : Tok} (x_CHECK_WORD : PySem.W.nsIn K mainGlobals "CHECK_WORD" = some (some (.str "check" t_CHECK_WORD)))
    {t_DIGIT_LIMIT : Tok} (x_DIGIT_LIMIT : PySem.W.nsIn K mainGlobals "DIGIT_LIMIT" = some (some (.int 70 t_DIGIT_LIMIT)))
    {t_MARK : Tok} (x_MARK : PySem.W.nsIn K mainGlobals "MARK" = some (some (.str ";" t_MARK)))
    {t_STEP_WORD : Tok} (x_STEP_WORD : PySem.W.nsIn K mainGlobals "STEP_WORD" = some (some (.str "step" t_STEP_WORD)))
    {C0 C1 : Addr}
    (eg0 : PySem.W.nsIn K mainGlobals "TensorError" = some (some (.ref C0)))
    (ek0 : PySem.W.keepIn K (.ref C0) = true)
    (ee0 : PySem.W.excIn K C0 [.type "ValueError", .type "Exception", .type "BaseException", .type "object"] "ValueError.__new__" = true)
    (eb0 : PySem.W.subIn K (.ref C0) (.type "BaseException") = some true)
    (et0 : PySem.W.typeIn K (.ref C0) = some (.type "type"))
    (ev0 : PySem.W.subIn K (.ref C0) (.type "ValueError") = some true)
    (ea0 : PySem.W.findIn K (.ref C0) "__getattribute__" = some (some (.builtin "BaseException.__getattribute__")))
    (ec0 : PySem.W.findIn K (.ref C0) "__getattr__" = some none)
    (ed0 : PySem.W.hasDictIn K C0 = true)
    (ef0 : PySem.W.findIn K (.ref C0) "__class__" = some (some (.builtin "object.__class__")))
    (em0 : PySem.W.mroIn K C0 (.type "object") = some true)
    (eg1 : PySem.W.nsIn K mainGlobals "JournalError" = some (some (.ref C1)))
    (ek1 : PySem.W.keepIn K (.ref C1) = true)
    (ee1 : PySem.W.excIn K C1 [.type "ValueError", .type "Exception", .type "BaseException", .type "object"] "ValueError.__new__" = true)
    (eb1 : PySem.W.subIn K (.ref C1) (.type "BaseException") = some true)
    (et1 : PySem.W.typeIn K (.ref C1) = some (.type "type"))
    (ev1 : PySem.W.subIn K (.ref C1) (.type "ValueError") = some true)
    (ea1 : PySem.W.findIn K (.ref C1) "__getattribute__" = some (some (.builtin "BaseException.__getattribute__")))
    (ec1 : PySem.W.findIn K (.ref C1) "__getattr__" = some none)
    (ed1 : PySem.W.hasDictIn K C1 = true)
    (ef1 : PySem.W.findIn K (.ref C1) "__class__" = some (some (.builtin "object.__class__")))
    (em1 : PySem.W.mroIn K C1 (.type "object") = some true)
    (es_0_0 : PySem.W.subIn K (.ref C0) (.ref C0) = some true)
    (es_0_1 : PySem.W.subIn K (.ref C0) (.ref C1) = some false)
    (es_1_0 : PySem.W.subIn K (.ref C1) (.ref C0) = some true)
    (es_1_1 : PySem.W.subIn K (.ref C1) (.ref C1) = some true)
    (en : PySem.W.specialIn K (.builtin "object.__class__") "__get__" = some (some (.builtin "getset_descriptor.__get__"))) (eu : PySem.W.takesIn K (.builtin "object.__class__") = some true)
    : ∃ fd : FuncData, (∀ (s : Shared) (v : Value), BindsTo s fd ⟨[v], []⟩ [("script", v)]) ∧ ∀ base : Heap, K.In base → base.Ns mainGlobals mg → FnOk l.prog w K mg base (L2.CX l.prog w) 60 fa fd ["script"] (spO (callAt Dt Gt subt 60) K 14 1) := by
  have e := hfa.symm.trans (PySem.W.mg_of X G a14)
  cases e
  have F0 := fun_mk (st := s0) l0 c0 k0
  have F1 := fun_mk (st := s1) l1 c1 k1
  have F2 := fun_mk (st := s2) l2 c2 k2
  have F3 := fun_mk (st := s3) l3 c3 k3
  have F4 := fun_mk (st := s4) l4 c4 k4
  have F5 := fun_mk (st := s5) l5 c5 k5
  have F6 := fun_mk (st := s6) l6 c6 k6
  have F7 := fun_mk (st := s7) l7 c7 k7
  have F8 := fun_mk (st := s8) l8 c8 k8
  have F9 := fun_mk (st := s9) l9 c9 k9
  have F10 := fun_mk (st := s10) l10 c10 k10
  have F11 := fun_mk (st := s11) l11 c11 k11
  have F12 := fun_mk (st := s12) l12 c12 k12
  have F13 := fun_mk (st := s13) l13 c13 k13
  have F14 := fun_mk (st := s14) l14 c14 k14
  refine ⟨PySem.W.fnOf "law" "law" (defArgs s14) (defBody s14) (defScope s14) .none kV14 dc14 pm14 an14 cd14 ct14, fun s v => .of_eq rfl, fun base _ _ => ?_⟩
  have M : Mn mg := ⟨PySem.W.mg_none_of X G z_abs, PySem.W.mg_none_of X G z_all, PySem.W.mg_none_of X G z_enumerate, PySem.W.mg_none_of X G z_int, PySem.W.mg_none_of X G z_isinstance, PySem.W.mg_none_of X G z_len, PySem.W.mg_none_of X G z_list, PySem.W.mg_none_of X G z_min, PySem.W.mg_none_of X G z_ord, PySem.W.mg_none_of X G z_range, PySem.W.mg_none_of X G z_str, PySem.W.mg_none_of X G z_sum, PySem.W.mg_none_of X G z_tuple, ⟨_, PySem.W.mg_of X G x_CHECK_PRIME⟩, ⟨_, PySem.W.mg_of X G x_CHECK_WORD⟩, ⟨_, PySem.W.mg_of X G x_DIGIT_LIMIT⟩, ⟨_, PySem.W.mg_of X G x_MARK⟩, ⟨_, PySem.W.mg_of X G x_STEP_WORD⟩⟩
  have o0 : OwnC K mg "TensorError" C0 := ⟨PySem.W.mg_of X G eg0, ek0, ee0, eb0, et0, ev0, ⟨ea0, ec0, eb0, ed0, ef0, en, eu, em0⟩⟩
  have o1 : OwnC K mg "JournalError" C1 := ⟨PySem.W.mg_of X G eg1, ek1, ee1, eb1, et1, ev1, ⟨ea1, ec1, eb1, ed1, ef1, en, eu, em1⟩⟩
  have Cc : Cn K mg C0 C1 := by
    refine ⟨o0, o1, ⟨fun c C hc => ?_, fun c C e D hc he => ?_, fun c C hc => ?_⟩⟩
    · -- the classes
      rcases c with _ | c
      · cases hc
        exact ⟨_, o0⟩
      rcases c with _ | c
      · cases hc
        exact ⟨_, o1⟩
      simp [clsOf] at hc
    · -- below
      rcases c with _ | c
      · cases hc
        rcases e with _ | e
        · cases he
          exact es_0_0
        rcases e with _ | e
        · cases he
          exact es_1_0
        simp [clsOf] at he
      rcases c with _ | c
      · cases hc
        rcases e with _ | e
        · cases he
          exact es_0_1
        rcases e with _ | e
        · cases he
          exact es_1_1
        simp [clsOf] at he
      simp [clsOf] at hc
    · -- the same
      rcases c with _ | c
      · cases hc
        rfl
      rcases c with _ | c
      · cases hc
        rfl
      simp [clsOf] at hc
  have F := all_fs (P := l.prog) (w := w) (base := base) (C0 := C0) (C1 := C1) M Cc F0 (PySem.W.mg_of X G a0) F1 (PySem.W.mg_of X G a1) F2 (PySem.W.mg_of X G a2) F3 (PySem.W.mg_of X G a3) F4 (PySem.W.mg_of X G a4) F5 (PySem.W.mg_of X G a5) F6 (PySem.W.mg_of X G a6) F7 (PySem.W.mg_of X G a7) F8 (PySem.W.mg_of X G a8) F9 (PySem.W.mg_of X G a9) F10 (PySem.W.mg_of X G a10) F11 (PySem.W.mg_of X G a11) F12 (PySem.W.mg_of X G a12) F13 (PySem.W.mg_of X G a13) F14 (PySem.W.mg_of X G a14) 60
  exact F.f14.fn.imp (spO_spC (T := Tk (clsOf [C0, C1]) 60))
end Lw
end PtLk70D
section PtLk70M
set_option Elab.async false
set_option linter.all false
set_option maxRecDepth 100000
namespace Lw
open PySem Ip
/-- the reader of a script stands at d -/
def Dr (s : Store) (d : Nat) : Prop := ∃ l ns i cur seed, s[d]? = some (.lst [.ref l, .int i, .int cur, .int seed]) ∧ s[l]? = some (.lst (List.map DV.int ns)) ∧ 0 ≤ i ∧ 0 ≤ cur ∧ l < d
theorem get4_0 {α : Type} {a b c d : α} : [a, b, c, d][0]? = some a := rfl
theorem get4_1 {α : Type} {a b c d : α} : [a, b, c, d][1]? = some b := rfl
theorem get4_2 {α : Type} {a b c d : α} : [a, b, c, d][2]? = some c := rfl
theorem get4_3 {α : Type} {a b c d : α} : [a, b, c, d][3]? = some d := rfl
theorem call_take {k a b s} : callAt Dt Gt subt (k + 1) 9 [a, b] s = (evSs (callAt Dt Gt subt k) Gt subt b9 [some a, some b, none, none] s).fin := rfl
theorem set_two {s : Store} {n : Nat} {a b : Cell} : (s.set n a).set n b = s.set n b := List.set_set a
section
variable {k : Nat} {s : Store} {d l : Nat} {ns : List Int} {i cur seed many : Int}
theorem take_C (hd : s[d]? = some (.lst [.ref l, .int i, .int 0, .int seed])) (hl : s[l]? = some (.lst (List.map DV.int ns))) (hi : ¬ i < ns.length) (hm : 0 < many) :
    callAt Dt Gt subt (k + 1) 9 [.ref d, .int many] s = .ok (.int ((seed * 48271 + 11) % 2147483647 / 3 % many)) (s.set d (.lst [.ref l, .int i, .int 0, .int ((seed * 48271 + 11) % 2147483647)])) := by
  have c0 := cellL_of hd
  have c1 := cellL_of hl
  have e1 : decide (i < ((List.map DV.int ns).length : Int)) = false := by rw [List.length_map]; exact decide_eq_false hi
  have e2 := mulOk_r (i := seed) (j := 48271) (by decide)
  have d1 : ∀ c, cellL (s.set d (.lst c)) d = some c := fun c => cellL_of (get_set hd)
  simp -implicitDefEqProofs -dsimp only [↓bind_K, ↓out_K, ↓then_K, ↓optR_K, ↓cond_K, ↓forL_K, ↓lcL_K, ↓whileL_K, ↓catch_K, ↓catchK_nx, ↓catchK_rt, ↓catchK_exc, unset_rt, hush_rt, hush_nx, hush_ct, fin_exc, ↓bindK_ok, ↓outK_ok, ↓bindK_exc, ↓outK_exc, ↓thenK_nx, ↓thenK_rt, ↓thenK_exc, ↓thenK_bk, ↓thenK_ct, ↓optRK_some, ↓quiet_ok, ↓condK_t, ↓condK_f, ↓truth_bl, qE_slot, qE_isx, qE_k, qE_glob, qE_bin, qE_neg, qE_not, qE_and, qE_or, qE_cmp, qE_chain, qE_ife, qE_ix, qE_slc, qE_rev, qE_tup, qE_lst, qE_call, qE_bi, qE_isi, qE_meth, qE_lc, qE_smeth, qE_get2, qE_setd, qE_dnew, qEs_nil, qEs_cons, qAll_nil, qAll_cons, qO_no, qO_some, qI_seq, qI_range1, qI_range2, qI_range3, qI_zip, qI_enum, qI_enumK, qI_rev, qT_name, qT_tup, qT_sub, qTs_nil, qTs_cons, qS_asg, qS_par, qS_aug, qS_ife, qS_for, qS_forD, qS_while, qS_ret, qS_retN, qS_drop, qS_pass, qS_brk, qS_cont, qS_raise, qS_try, qS_pick, qSs_nil, qSs_cons, dv_int, dv_bl, dv_str, dv_non, List.getElem?_cons_zero, List.getElem?_cons_succ, List.set_cons_zero, List.set_cons_succ, List.length_cons, List.length_nil, Nat.reduceAdd, Nat.reduceLT, if_true, fin_rt, fin_nx, at_0, at_1, at_2, at_3, itemV_ref, itemV_tup, cmp_eq_int, cmp_ne_int, cmp_lt_int, cmp_le_int, cmp_gt_int, cmp_ge_int, bin_add, bin_sub, bi_int_int, call_take, b9, c0, c1, beq_self_eq_true, biV, e1, bin_mul e2, bin_mod (show (0 : Int) < 2147483647 by decide), bin_mod hm, bin_fdiv (show (0 : Int) < 3 by decide) (by decide), (setV_4 hd).2.2, d1, show decide ((0 : Int) < 0) = false from rfl]
theorem take_B (hd : s[d]? = some (.lst [.ref l, .int i, .int cur, .int seed])) (hc : 0 < cur) (hm : 0 < many) (hb : many.natAbs.log2 < 9000) :
    callAt Dt Gt subt (k + 1) 9 [.ref d, .int many] s = .ok (.int (cur % many)) (s.set d (.lst [.ref l, .int i, .int (cur / many), .int seed])) := by
  have c0 := cellL_of hd
  have e1 : (cur == 0) = false := beq_eq_false_iff_ne.mpr (by omega)
  have e2 : decide (0 < cur) = true := decide_eq_true hc
  simp -implicitDefEqProofs -dsimp only [↓bind_K, ↓out_K, ↓then_K, ↓optR_K, ↓cond_K, ↓forL_K, ↓lcL_K, ↓whileL_K, ↓catch_K, ↓catchK_nx, ↓catchK_rt, ↓catchK_exc, unset_rt, hush_rt, hush_nx, hush_ct, fin_exc, ↓bindK_ok, ↓outK_ok, ↓bindK_exc, ↓outK_exc, ↓thenK_nx, ↓thenK_rt, ↓thenK_exc, ↓thenK_bk, ↓thenK_ct, ↓optRK_some, ↓quiet_ok, ↓condK_t, ↓condK_f, ↓truth_bl, qE_slot, qE_isx, qE_k, qE_glob, qE_bin, qE_neg, qE_not, qE_and, qE_or, qE_cmp, qE_chain, qE_ife, qE_ix, qE_slc, qE_rev, qE_tup, qE_lst, qE_call, qE_bi, qE_isi, qE_meth, qE_lc, qE_smeth, qE_get2, qE_setd, qE_dnew, qEs_nil, qEs_cons, qAll_nil, qAll_cons, qO_no, qO_some, qI_seq, qI_range1, qI_range2, qI_range3, qI_zip, qI_enum, qI_enumK, qI_rev, qT_name, qT_tup, qT_sub, qTs_nil, qTs_cons, qS_asg, qS_par, qS_aug, qS_ife, qS_for, qS_forD, qS_while, qS_ret, qS_retN, qS_drop, qS_pass, qS_brk, qS_cont, qS_raise, qS_try, qS_pick, qSs_nil, qSs_cons, dv_int, dv_bl, dv_str, dv_non, List.getElem?_cons_zero, List.getElem?_cons_succ, List.set_cons_zero, List.set_cons_succ, List.length_cons, List.length_nil, Nat.reduceAdd, Nat.reduceLT, if_true, fin_rt, fin_nx, at_0, at_1, at_2, at_3, itemV_ref, itemV_tup, cmp_eq_int, cmp_ne_int, cmp_lt_int, cmp_le_int, cmp_gt_int, cmp_ge_int, bin_add, bin_sub, bi_int_int, call_take, b9, c0, biV, e1, e2, bin_mod hm, bin_fdiv hm hb, (setV_4 hd).2.1]
theorem pow18 {s : Store} : binV .pow (.int 10) (.int 18) s = .ok (.int 1000000000000000000) s := by
  simp only [binV, binI]
  rw [if_pos (by decide)]
  rfl
theorem atI_ints {j : Nat} {v : Int} (h : ns[j]? = some v) : L2.atI (List.map DV.int ns) (j : Int) = some (.int v) := by
  refine L2.atI_nat ?_
  rw [List.getElem?_map, h]
  rfl
theorem take_A (hd : s[d]? = some (.lst [.ref l, .int i, .int 0, .int seed])) (hl : s[l]? = some (.lst (List.map DV.int ns))) (hne : l ≠ d) {j : Nat} {v : Int} (hj : ns[j]? = some v) (hi : i = (j : Int)) (hm : 0 < many) (hb : many.natAbs.log2 < 9000) :
    ∃ r c, callAt Dt Gt subt (k + 1) 9 [.ref d, .int many] s = .ok (.int r) (s.set d (.lst [.ref l, .int (i + 1), .int c, .int seed])) ∧ 0 ≤ r ∧ r < many ∧ 0 ≤ c := by
  have c0 := cellL_of hd
  have c1 := cellL_of hl
  have hlt := lt_of_get hj
  have e1 : decide (i < ((List.map DV.int ns).length : Int)) = true := by rw [List.length_map]; exact decide_eq_true (by omega)
  have d1 : ∀ c, cellL (s.set d (.lst c)) d = some c := fun c => cellL_of (get_set hd)
  have g1 : ∀ c, (s.set d (.lst c))[d]? = some (.lst c) := fun c => get_set hd
  have a1 : L2.atI (List.map DV.int ns) i = some (.int v) := by rw [hi]; exact atI_ints hj
  obtain ⟨x, ex⟩ : ∃ x, x = (if v < 0 then -v else v) := ⟨_, rfl⟩
  have v0 : 0 ≤ x := by rw [ex]; split <;> omega
  have ab : ∀ s, biV .abs [.int v] s = .ok (.int x) s := fun _ => by rw [ex]; rfl
  have s1 := (setV_4 (v := .int x) hd).2.1
  have s2 := (setV_4 (v := .int (i + 1)) (g1 [.ref l, .int i, .int x, .int seed])).1
  have s3 : setV (.ref d) (.int 2) (.int 0) (s.set d (.lst [.ref l, .int (i + 1), .int x, .int seed])) = some (s.set d (.lst [.ref l, .int (i + 1), .int 0, .int seed])) := by rw [(setV_4 (g1 _)).2.1, set_two]
  have s4 : setV (.ref d) (.int 2) (.int (x / many)) (s.set d (.lst [.ref l, .int (i + 1), .int x, .int seed])) = some (s.set d (.lst [.ref l, .int (i + 1), .int (x / many), .int seed])) := by rw [(setV_4 (g1 _)).2.1, set_two]
  rw [set_two] at s2
  clear ex
  by_cases hx : x < 1000000000000000000
  · have e2 : decide (x < 1000000000000000000) = true := decide_eq_true hx
    refine ⟨x % many, 0, ?_, Int.emod_nonneg _ (by omega), Int.emod_lt_of_pos _ hm, Int.le_refl 0⟩
    simp -implicitDefEqProofs -dsimp only [↓bind_K, ↓out_K, ↓then_K, ↓optR_K, ↓cond_K, ↓forL_K, ↓lcL_K, ↓whileL_K, ↓catch_K, ↓catchK_nx, ↓catchK_rt, ↓catchK_exc, unset_rt, hush_rt, hush_nx, hush_ct, fin_exc, ↓bindK_ok, ↓outK_ok, ↓bindK_exc, ↓outK_exc, ↓thenK_nx, ↓thenK_rt, ↓thenK_exc, ↓thenK_bk, ↓thenK_ct, ↓optRK_some, ↓quiet_ok, ↓condK_t, ↓condK_f, ↓truth_bl, qE_slot, qE_isx, qE_k, qE_glob, qE_bin, qE_neg, qE_not, qE_and, qE_or, qE_cmp, qE_chain, qE_ife, qE_ix, qE_slc, qE_rev, qE_tup, qE_lst, qE_call, qE_bi, qE_isi, qE_meth, qE_lc, qE_smeth, qE_get2, qE_setd, qE_dnew, qEs_nil, qEs_cons, qAll_nil, qAll_cons, qO_no, qO_some, qI_seq, qI_range1, qI_range2, qI_range3, qI_zip, qI_enum, qI_enumK, qI_rev, qT_name, qT_tup, qT_sub, qTs_nil, qTs_cons, qS_asg, qS_par, qS_aug, qS_ife, qS_for, qS_forD, qS_while, qS_ret, qS_retN, qS_drop, qS_pass, qS_brk, qS_cont, qS_raise, qS_try, qS_pick, qSs_nil, qSs_cons, dv_int, dv_bl, dv_str, dv_non, List.getElem?_cons_zero, List.getElem?_cons_succ, List.set_cons_zero, List.set_cons_succ, List.length_cons, List.length_nil, Nat.reduceAdd, Nat.reduceLT, if_true, fin_rt, fin_nx, at_0, at_1, at_2, at_3, itemV_ref, itemV_tup, cmp_eq_int, cmp_ne_int, cmp_lt_int, cmp_le_int, cmp_gt_int, cmp_ge_int, bin_add, bin_sub, bi_int_int, call_take, b9, c0, c1, len_ref c1, a1, ab, e1, e2, pow18, beq_self_eq_true, bin_mod hm, s1, s2, s3, d1]
  · have e2 : decide (x < 1000000000000000000) = false := decide_eq_false hx
    have e3 : decide (0 < x) = true := decide_eq_true (by omega)
    refine ⟨x % many, x / many, ?_, Int.emod_nonneg _ (by omega), Int.emod_lt_of_pos _ hm, Int.ediv_nonneg v0 (by omega)⟩
    simp -implicitDefEqProofs -dsimp only [↓bind_K, ↓out_K, ↓then_K, ↓optR_K, ↓cond_K, ↓forL_K, ↓lcL_K, ↓whileL_K, ↓catch_K, ↓catchK_nx, ↓catchK_rt, ↓catchK_exc, unset_rt, hush_rt, hush_nx, hush_ct, fin_exc, ↓bindK_ok, ↓outK_ok, ↓bindK_exc, ↓outK_exc, ↓thenK_nx, ↓thenK_rt, ↓thenK_exc, ↓thenK_bk, ↓thenK_ct, ↓optRK_some, ↓quiet_ok, ↓condK_t, ↓condK_f, ↓truth_bl, qE_slot, qE_isx, qE_k, qE_glob, qE_bin, qE_neg, qE_not, qE_and, qE_or, qE_cmp, qE_chain, qE_ife, qE_ix, qE_slc, qE_rev, qE_tup, qE_lst, qE_call, qE_bi, qE_isi, qE_meth, qE_lc, qE_smeth, qE_get2, qE_setd, qE_dnew, qEs_nil, qEs_cons, qAll_nil, qAll_cons, qO_no, qO_some, qI_seq, qI_range1, qI_range2, qI_range3, qI_zip, qI_enum, qI_enumK, qI_rev, qT_name, qT_tup, qT_sub, qTs_nil, qTs_cons, qS_asg, qS_par, qS_aug, qS_ife, qS_for, qS_forD, qS_while, qS_ret, qS_retN, qS_drop, qS_pass, qS_brk, qS_cont, qS_raise, qS_try, qS_pick, qSs_nil, qSs_cons, dv_int, dv_bl, dv_str, dv_non, List.getElem?_cons_zero, List.getElem?_cons_succ, List.set_cons_zero, List.set_cons_succ, List.length_cons, List.length_nil, Nat.reduceAdd, Nat.reduceLT, if_true, fin_rt, fin_nx, at_0, at_1, at_2, at_3, itemV_ref, itemV_tup, cmp_eq_int, cmp_ne_int, cmp_lt_int, cmp_le_int, cmp_gt_int, cmp_ge_int, bin_add, bin_sub, bi_int_int, call_take, b9, c0, c1, len_ref c1, a1, ab, e1, e2, e3, pow18, beq_self_eq_true, bin_mod hm, bin_fdiv hm hb, s1, s2, s4, d1]
theorem Dr.set (hd : s[d]? = some (.lst [.ref l, .int i, .int cur, .int seed])) (hl : s[l]? = some (.lst (List.map DV.int ns))) (hne : l < d) {i' cur' seed' : Int} (h1 : 0 ≤ i') (h2 : 0 ≤ cur') :
    Dr (s.set d (.lst [.ref l, .int i', .int cur', .int seed'])) d := ⟨l, ns, i', cur', seed', get_set hd, by rw [get_set_ne (by omega)]; exact hl, h1, h2, hne⟩
/-- a draw: some number below many; nothing but the reader changes -/
theorem take_ok (h : Dr s d) (hm : 0 < many) (hb : many.natAbs.log2 < 9000) :
    ∃ r s', callAt Dt Gt subt (k + 1) 9 [.ref d, .int many] s = .ok (.int r) s' ∧ 0 ≤ r ∧ r < many ∧ Dr s' d ∧ (∀ n, n ≠ d → s'[n]? = s[n]?) ∧ s'.length = s.length := by
  obtain ⟨l, ns, i, cur, seed, hd, hl, hi, hc, hne⟩ := h
  have rest : ∀ c, (∀ n, n ≠ d → (s.set d c)[n]? = s[n]?) ∧ (s.set d c).length = s.length := fun c => ⟨fun n hn => get_set_ne (Ne.symm hn), List.length_set⟩
  by_cases h0 : cur = 0
  · subst h0
    by_cases hlt : i < ns.length
    · obtain ⟨j, hj⟩ : ∃ j : Nat, i = (j : Int) := ⟨i.toNat, by omega⟩
      have hj2 : j < ns.length := by omega
      obtain ⟨r, c, h1, h2, h3, h4⟩ := take_A (k := k) hd hl (Nat.ne_of_lt hne) (List.getElem?_eq_getElem hj2) hj hm hb
      exact ⟨r, _, h1, h2, h3, Dr.set hd hl hne (by omega) h4, (rest _).1, (rest _).2⟩
    · exact ⟨_, _, take_C hd hl hlt hm, Int.emod_nonneg _ (by omega), Int.emod_lt_of_pos _ hm, Dr.set hd hl hne hi (Int.le_refl 0), (rest _).1, (rest _).2⟩
  · exact ⟨_, _, take_B hd (by omega) hm hb, Int.emod_nonneg _ (by omega), Int.emod_lt_of_pos _ hm, Dr.set hd hl hne hi (Int.ediv_nonneg hc (by omega)), (rest _).1, (rest _).2⟩
theorem Dr.keep {s' : Store} (h : Dr s d) (hs : ∀ n, n ≤ d → s'[n]? = s[n]?) : Dr s' d := by
  obtain ⟨l, ns, i, cur, seed, hd, hl, hi, hc, hne⟩ := h
  exact ⟨l, ns, i, cur, seed, by rw [hs _ (Nat.le_refl _)]; exact hd, by rw [hs _ (Nat.le_of_lt hne)]; exact hl, hi, hc, hne⟩
theorem call_begin {k a s} : callAt Dt Gt subt (k + 1) 8 [a] s = (evSs (callAt Dt Gt subt k) Gt subt b8 [some a, none, none] s).fin := rfl
/-- the reader is made -/
theorem begin_ok {ns : List Int} : ∃ seed, callAt Dt Gt subt (k + 1) 8 [.ref 0] [.frz (ns.map DV.int)] = .ok (.ref 2) [.frz (ns.map DV.int), .lst (ns.map DV.int), .lst [.ref 1, .int 0, .int 0, .int seed]] := by
  have c0 : cellL [.frz (ns.map DV.int)] 0 = some (ns.map DV.int) := rfl
  have key := for_word (f := .cell 0 (ns.map DV.int)) (body := fun x r s => (evT (callAt Dt Gt subt k) Gt subt (.name 2) x r s).out r fun r s => evSs (callAt Dt Gt subt k) Gt subt b8l0 r s) (all := ns.map DV.int) (r := [some (.ref 0), some (.int 1), none]) (s := [.frz (ns.map DV.int)])
    (fun _ r s => s = [.frz (ns.map DV.int)] ∧ ∃ v w, r = [some (.ref 0), some (.int v), w]) ⟨rfl, 1, none, rfl⟩ (fun d r s h => by rw [h.1]; exact c0)
    (fun d x e r s he h => by
      obtain ⟨rfl, v, w, rfl⟩ := h
      have hx : x ∈ ns.map DV.int := by rw [he]; simp
      obtain ⟨n, _, rfl⟩ := List.mem_map.mp hx
      refine ⟨[some (.ref 0), some (.int ((v * 69621 + n % 2147483629 + 7) % 2147483647)), some (.int n)], _, .inl ?_, rfl, _, _, rfl⟩
      simp -implicitDefEqProofs -dsimp only [↓bind_K, ↓out_K, ↓then_K, ↓optR_K, ↓cond_K, ↓forL_K, ↓lcL_K, ↓whileL_K, ↓catch_K, ↓catchK_nx, ↓catchK_rt, ↓catchK_exc, unset_rt, hush_rt, hush_nx, hush_ct, fin_exc, ↓bindK_ok, ↓outK_ok, ↓bindK_exc, ↓outK_exc, ↓thenK_nx, ↓thenK_rt, ↓thenK_exc, ↓thenK_bk, ↓thenK_ct, ↓optRK_some, ↓quiet_ok, ↓condK_t, ↓condK_f, ↓truth_bl, qE_slot, qE_isx, qE_k, qE_glob, qE_bin, qE_neg, qE_not, qE_and, qE_or, qE_cmp, qE_chain, qE_ife, qE_ix, qE_slc, qE_rev, qE_tup, qE_lst, qE_call, qE_bi, qE_isi, qE_meth, qE_lc, qE_smeth, qE_get2, qE_setd, qE_dnew, qEs_nil, qEs_cons, qAll_nil, qAll_cons, qO_no, qO_some, qI_seq, qI_range1, qI_range2, qI_range3, qI_zip, qI_enum, qI_enumK, qI_rev, qT_name, qT_tup, qT_sub, qTs_nil, qTs_cons, qS_asg, qS_par, qS_aug, qS_ife, qS_for, qS_forD, qS_while, qS_ret, qS_retN, qS_drop, qS_pass, qS_brk, qS_cont, qS_raise, qS_try, qS_pick, qSs_nil, qSs_cons, dv_int, dv_bl, dv_str, dv_non, List.getElem?_cons_zero, List.getElem?_cons_succ, List.set_cons_zero, List.set_cons_succ, List.length_cons, List.length_nil, Nat.reduceAdd, Nat.reduceLT, if_true, fin_rt, fin_nx, at_0, at_1, at_2, at_3, itemV_ref, itemV_tup, cmp_eq_int, cmp_ne_int, cmp_lt_int, cmp_le_int, cmp_gt_int, cmp_ge_int, bin_add, bin_sub, bi_int_int, b8l0, bin_mul (mulOk_r (j := 69621) (by decide)), bin_mod (show (0 : Int) < 2147483629 by decide), bin_mod (show (0 : Int) < 2147483647 by decide)])
  obtain ⟨r', s', h1, rfl, v, w, rfl⟩ := key
  refine ⟨v, ?_⟩
  have h2 : evS (callAt Dt Gt subt k) Gt subt (.for_ (.name 2) (.seq (.slot 0)) b8l0) [some (.ref 0), some (.int 1), none] [.frz (ns.map DV.int)] = _ := evS_for (by
    simp only [evI, evE, List.getElem?_cons_zero, bind_ok, c0]
    ) h1
  simp -implicitDefEqProofs -dsimp only [↓bind_K, ↓out_K, ↓then_K, ↓optR_K, ↓cond_K, ↓forL_K, ↓lcL_K, ↓whileL_K, ↓catch_K, ↓catchK_nx, ↓catchK_rt, ↓catchK_exc, unset_rt, hush_rt, hush_nx, hush_ct, fin_exc, ↓bindK_ok, ↓outK_ok, ↓bindK_exc, ↓outK_exc, ↓thenK_nx, ↓thenK_rt, ↓thenK_exc, ↓thenK_bk, ↓thenK_ct, ↓optRK_some, ↓quiet_ok, ↓condK_t, ↓condK_f, ↓truth_bl, qE_slot, qE_isx, qE_k, qE_glob, qE_bin, qE_neg, qE_not, qE_and, qE_or, qE_cmp, qE_chain, qE_ife, qE_ix, qE_slc, qE_rev, qE_tup, qE_lst, qE_call, qE_bi, qE_isi, qE_meth, qE_lc, qE_smeth, qE_get2, qE_setd, qE_dnew, qEs_nil, qEs_cons, qAll_nil, qAll_cons, qO_no, qO_some, qI_seq, qI_range1, qI_range2, qI_range3, qI_zip, qI_enum, qI_enumK, qI_rev, qT_name, qT_tup, qT_sub, qTs_nil, qTs_cons, qS_asg, qS_par, qS_aug, qS_ife, qS_for, qS_forD, qS_while, qS_ret, qS_retN, qS_drop, qS_pass, qS_brk, qS_cont, qS_raise, qS_try, qS_pick, qSs_nil, qSs_cons, dv_int, dv_bl, dv_str, dv_non, List.getElem?_cons_zero, List.getElem?_cons_succ, List.set_cons_zero, List.set_cons_succ, List.length_cons, List.length_nil, Nat.reduceAdd, Nat.reduceLT, if_true, fin_rt, fin_nx, at_0, at_1, at_2, at_3, itemV_ref, itemV_tup, cmp_eq_int, cmp_ne_int, cmp_lt_int, cmp_le_int, cmp_gt_int, cmp_ge_int, bin_add, bin_sub, bi_int_int, call_begin, b8, ↓h2, biV, show ((4 : Nat) ≤ sizeLine) = True from eq_true (by decide), c0]
  rfl
end
section
variable {k : Nat} {s : Store}
theorem call_0 {x0 x1 : DV} : callAt Dt Gt subt (k + 1) 0 [x0, x1] s = (evSs (callAt Dt Gt subt k) Gt subt b0 [some x0, some x1] s).fin := rfl
theorem call_1 {x0 x1 : DV} : callAt Dt Gt subt (k + 1) 1 [x0, x1] s = (evSs (callAt Dt Gt subt k) Gt subt b1 [some x0, some x1] s).fin := rfl
theorem call_2 {x0 : DV} : callAt Dt Gt subt (k + 1) 2 [x0] s = (evSs (callAt Dt Gt subt k) Gt subt b2 [some x0, none, none] s).fin := rfl
theorem call_3 {x0 : DV} : callAt Dt Gt subt (k + 1) 3 [x0] s = (evSs (callAt Dt Gt subt k) Gt subt b3 [some x0, none, none, none] s).fin := rfl
theorem call_4 {x0 x1 : DV} : callAt Dt Gt subt (k + 1) 4 [x0, x1] s = (evSs (callAt Dt Gt subt k) Gt subt b4 [some x0, some x1, none] s).fin := rfl
theorem call_5 {x0 x1 : DV} : callAt Dt Gt subt (k + 1) 5 [x0, x1] s = (evSs (callAt Dt Gt subt k) Gt subt b5 [some x0, some x1] s).fin := rfl
theorem call_6 {x0 x1 : DV} : callAt Dt Gt subt (k + 1) 6 [x0, x1] s = (evSs (callAt Dt Gt subt k) Gt subt b6 [some x0, some x1, none, none, none, none, none] s).fin := rfl
theorem call_7 {x0 x1 : DV} : callAt Dt Gt subt (k + 1) 7 [x0, x1] s = (evSs (callAt Dt Gt subt k) Gt subt b7 [some x0, some x1, none] s).fin := rfl
theorem call_8 {x0 : DV} : callAt Dt Gt subt (k + 1) 8 [x0] s = (evSs (callAt Dt Gt subt k) Gt subt b8 [some x0, none, none] s).fin := rfl
theorem call_9 {x0 x1 : DV} : callAt Dt Gt subt (k + 1) 9 [x0, x1] s = (evSs (callAt Dt Gt subt k) Gt subt b9 [some x0, some x1, none, none] s).fin := rfl
theorem call_10 {x0 x1 : DV} : callAt Dt Gt subt (k + 1) 10 [x0, x1] s = (evSs (callAt Dt Gt subt k) Gt subt b10 [some x0, some x1] s).fin := rfl
theorem call_11 {x0 x1 : DV} : callAt Dt Gt subt (k + 1) 11 [x0, x1] s = (evSs (callAt Dt Gt subt k) Gt subt b11 [some x0, some x1, none, none] s).fin := rfl
theorem call_12 {x0 : DV} : callAt Dt Gt subt (k + 1) 12 [x0] s = (evSs (callAt Dt Gt subt k) Gt subt b12 [some x0, none, none] s).fin := rfl
theorem call_13 {x0 : DV} : callAt Dt Gt subt (k + 1) 13 [x0] s = (evSs (callAt Dt Gt subt k) Gt subt b13 [some x0, none] s).fin := rfl
theorem call_14 {x0 : DV} : callAt Dt Gt subt (k + 1) 14 [x0] s = (evSs (callAt Dt Gt subt k) Gt subt b14 [some x0, none, none, none, none, none, none, none, none, none, none, none, none, none, none, none, none, none, none, none, none] s).fin := rfl
end
end Lw
end PtLk70M
section PtLk70N
set_option Elab.async false
set_option linter.all false
set_option maxRecDepth 100000
namespace Lw
open PySem Ip
open TL
/-! ### check numbers -/
def ckN : Nat → List Nat → Nat
  | _, [] => 0
  | k, c :: r => k * c + ckN (k + 1) r
def chk (l : List Nat) : Nat := ckN 1 l % 65521
def chkW : List Nat := [32, 99, 104, 101, 99, 107, 32]
def lineL (T : List Nat) : List Nat := T ++ (chkW ++ numL (chk T))
theorem ck_set : ∀ (l : List Nat) (k p c x : Nat), l[p]? = some x → (ckN k (l.set p c) : Int) = ckN k l + ((k + p : Nat) : Int) * ((c : Int) - x)
  | [], _, p, _, _, h => by simp at h
  | a :: r, k, 0, c, x, h => by
    simp only [List.getElem?_cons_zero, Option.some.injEq] at h
    subst h
    simp only [List.set_cons_zero, ckN]
    push_cast
    rw [Int.mul_sub, Int.add_zero]
    omega
  | a :: r, k, p + 1, c, x, h => by
    rw [List.getElem?_cons_succ] at h
    have ih := ck_set r (k + 1) p c x h
    simp only [List.set_cons_succ, ckN]
    rw [show k + (p + 1) = k + 1 + p by omega]
    push_cast at ih ⊢
    rw [ih]
    omega
theorem cop : ∀ b, b < 128 → 0 < b → Nat.gcd 65521 b = 1 := by decide +kernel
theorem ck_ne {l : List Nat} {p c x : Nat} (h : l[p]? = some x) (hp : p < 65520) (hc : c < 128) (hx : x < 128) (hne : c ≠ x) : chk (l.set p c) ≠ chk l := by
  intro e
  have h1 := ck_set l 1 p c x h
  unfold chk at e
  have h2 : (65521 : Int) ∣ ((1 + p : Nat) : Int) * ((c : Int) - x) := by
    have e2 : ((ckN 1 (l.set p c) : Int) - ckN 1 l) % 65521 = 0 := by omega
    rw [h1] at e2
    have e3 : (ckN 1 l : Int) + ((1 + p : Nat) : Int) * ((c : Int) - x) - ckN 1 l = ((1 + p : Nat) : Int) * ((c : Int) - x) := by omega
    rw [e3] at e2
    exact Int.dvd_of_emod_eq_zero e2
  have h3 : (65521 : Nat) ∣ (1 + p) * ((c : Int) - x).natAbs := by
    have := Int.natAbs_dvd_natAbs.mpr h2
    rw [Int.natAbs_mul, Int.natAbs_natCast] at this
    exact this
  have h4 : Nat.gcd 65521 ((c : Int) - x).natAbs = 1 := cop _ (by omega) (by omega)
  have h5 : 65521 ∣ 1 + p := Nat.Coprime.dvd_of_dvd_mul_right h4 h3
  have := Nat.le_of_dvd (by omega) h5
  omega
theorem chk_lt (l : List Nat) : chk l < 100000 := by unfold chk; omega
theorem dg_len (l : List Nat) : (numL (chk l)).length ≤ 5 := numL_len (by decide) (chk_lt l)
theorem dg_pos (l : List Nat) : 0 < (numL (chk l)).length := List.length_pos_iff.mpr (numL_ne _)
theorem line_len (T : List Nat) : (lineL T).length = T.length + 7 + (numL (chk T)).length := by
  unfold lineL chkW
  rw [List.length_append, List.length_append]
  simp only [List.length_cons, List.length_nil]
  omega
theorem line_K {T : List Nat} {j : Nat} (h : j < 7) : (lineL T)[T.length + j]? = chkW[j]? := by
  unfold lineL
  rw [List.getElem?_append_right (by omega), Nat.add_sub_cancel_left, List.getElem?_append_left (by unfold chkW; simpa using h)]
theorem line_D {T : List Nat} {j : Nat} : (lineL T)[T.length + 7 + j]? = (numL (chk T))[j]? := by
  unfold lineL
  rw [List.getElem?_append_right (by omega), List.getElem?_append_right (by unfold chkW; simp only [List.length_cons, List.length_nil]; omega)]
  congr 1
  unfold chkW
  simp only [List.length_cons, List.length_nil]
  omega
theorem line_32 {T : List Nat} : (lineL T)[T.length + 6]? = some 32 := line_K (by omega)
theorem K_ne {d : Nat} (h1 : 1 ≤ d) (h2 : d ≤ 4) : chkW[6 - d]? ≠ some 32 := by
  have : d = 1 ∨ d = 2 ∨ d = 3 ∨ d = 4 := by omega
  rcases this with rfl | rfl | rfl | rfl <;> decide
theorem D_ne {T : List Nat} {j : Nat} (h : j < (numL (chk T)).length) : (lineL T)[T.length + 7 + j]? ≠ some 32 := by
  rw [line_D, List.getElem?_eq_getElem h]
  intro e
  have := numL_digits (chk T) _ (List.getElem_mem h)
  have e := Option.some.inj e
  omega
/-- one sign of a line replaced: no line -/
theorem flip {T T' : List Nat} {p c x : Nat} (hx : (lineL T)[p]? = some x) (hl : (lineL T).length ≤ 60000) (hc : c < 128) (ha : ∀ y ∈ T, y < 128) (hne : c ≠ x) (e : (lineL T).set p c = lineL T') : False := by
  have hp := lt_of_get hx
  have l1 := line_len T
  have l2 := line_len T'
  have el : (lineL T).length = (lineL T').length := by rw [← e, List.length_set]
  have d1 := dg_len T
  have d2 := dg_len T'
  have p1 := dg_pos T
  have p2 := dg_pos T'
  have oth : ∀ j, j ≠ p → (lineL T)[j]? = (lineL T')[j]? := fun j hj => by rw [← e, get_set_ne (Ne.symm hj)]
  rcases Nat.lt_trichotomy (numL (chk T)).length (numL (chk T')).length with h | h | h
  · -- more figures
    obtain ⟨d, hd⟩ : ∃ d, (numL (chk T')).length = (numL (chk T)).length + d := ⟨_, (Nat.add_sub_cancel' (Nat.le_of_lt h)).symm⟩
    have hT : T.length = T'.length + d := by omega
    have a1 : p = T.length + 6 := Classical.byContradiction fun hh => by
      have q := oth (T.length + 6) (fun z => hh z.symm)
      rw [line_32, show T.length + 6 = T'.length + 7 + (d - 1) by omega] at q
      exact D_ne (by omega) q.symm
    have q := oth (T'.length + 6) (by omega)
    rw [line_32, show T'.length + 6 = T.length + (6 - d) by omega, line_K (by omega)] at q
    exact K_ne (by omega) (by omega) q
  · -- as many
    have hT : T.length = T'.length := by omega
    by_cases hpT : p < T.length
    · unfold lineL at e
      rw [List.set_append_left _ _ hpT] at e
      obtain ⟨e1, e2⟩ := List.append_inj e (by rw [List.length_set]; exact hT)
      have e3 := List.append_cancel_left e2
      have e4 := numL_inj e3
      have hx' : T[p]? = some x := by
        unfold lineL at hx
        rw [List.getElem?_append_left hpT] at hx
        exact hx
      exact ck_ne hx' (by omega) hc (ha _ (List.mem_of_getElem? hx')) hne (by rw [e1]; exact e4.symm)
    · have e0 := e
      unfold lineL at e
      rw [List.set_append_right _ _ (by omega)] at e
      obtain ⟨e1, -⟩ := List.append_inj e hT
      subst e1
      have q := get_set (b := c) hx
      rw [e0, hx] at q
      exact hne (Option.some.inj q).symm
  · -- fewer
    obtain ⟨d, hd⟩ : ∃ d, (numL (chk T)).length = (numL (chk T')).length + d := ⟨_, (Nat.add_sub_cancel' (Nat.le_of_lt h)).symm⟩
    have hT : T'.length = T.length + d := by omega
    have a1 : p = T'.length + 6 := Classical.byContradiction fun hh => by
      have q := oth (T'.length + 6) (fun z => hh z.symm)
      rw [line_32, show T'.length + 6 = T.length + 7 + (d - 1) by omega] at q
      exact D_ne (by omega) q
    have q := oth (T.length + 6) (by omega)
    rw [line_32, show T.length + 6 = T'.length + (6 - d) by omega, line_K (by omega)] at q
    exact K_ne (by omega) (by omega) q.symm
/-! ### words -/
theorem joinL_cons {S a : List Nat} {B : List (List Nat)} (h : B ≠ []) : joinL S (a :: B) = a ++ (S ++ joinL S B) := by
  cases B with
  | nil => exact absurd rfl h
  | cons b r => rfl
theorem joinL_app {S : List Nat} : ∀ {A B : List (List Nat)}, A ≠ [] → B ≠ [] → joinL S (A ++ B) = joinL S A ++ (S ++ joinL S B)
  | [], _, h, _ => absurd rfl h
  | [a], B, _, hB => by
    rw [List.singleton_append, joinL_cons hB]
    rfl
  | a :: b :: A, B, _, hB => by
    rw [List.cons_append, joinL_cons (by simp), joinL_app (A := b :: A) (by simp) hB, joinL_cons (B := b :: A) (by simp)]
    simp only [List.append_assoc]
theorem parts_ex (s : Nat) : ∀ l : List Nat, ∃ ps : List (List Nat), ps ≠ [] ∧ (∀ p ∈ ps, s ∉ p) ∧ joinL [s] ps = l
  | [] => ⟨[[]], by simp, by simp, rfl⟩
  | c :: r => by
    obtain ⟨ps, h1, h2, h3⟩ := parts_ex s r
    cases ps with
    | nil => exact absurd rfl h1
    | cons p qs =>
      by_cases hc : c = s
      · subst hc
        exact ⟨[] :: p :: qs, by simp, by simpa using h2, by rw [joinL_cons (by simp), h3]; rfl⟩
      · refine ⟨(c :: p) :: qs, by simp, fun q hq => ?_, ?_⟩
        · rcases List.mem_cons.mp hq with rfl | hq
          · intro hm
            rcases List.mem_cons.mp hm with e | hm
            · exact hc e.symm
            · exact h2 p List.mem_cons_self hm
          · exact h2 q (List.mem_cons_of_mem _ hq)
        · cases qs with
          | nil => 
            have h3 : p = r := h3
            rw [← h3]
            rfl
          | cons q qs =>
            rw [joinL_cons (by simp)] at h3 ⊢
            rw [← h3]
            rfl
def wds (l : List Nat) : List (List Nat) := spl [32] 0 [] l
theorem wds_join {ps : List (List Nat)} (h : ps ≠ []) (hp : ∀ p ∈ ps, 32 ∉ p) : wds (joinL [32] ps) = ps := spl_join h hp
theorem wds_ok (l : List Nat) : wds l ≠ [] ∧ (∀ p ∈ wds l, 32 ∉ p) ∧ joinL [32] (wds l) = l := by
  obtain ⟨ps, h1, h2, h3⟩ := parts_ex 32 l
  subst h3
  rw [wds_join h1 h2]
  exact ⟨h1, h2, rfl⟩
def STEP : List Nat := [115, 116, 101, 112]
def CHECK : List Nat := [99, 104, 101, 99, 107]
/-- the words of a line end in their check number -/
def endL (ws : List (List Nat)) : Bool := decide (4 ≤ ws.length) && decide (ws.getD 0 [] = STEP) && decide (ws.getD (ws.length - 2) [] = CHECK) && decide (ws.getD (ws.length - 1) [] = numL (chk (joinL [32] (ws.take (ws.length - 2)))))
def isN70 (l : List Nat) : Bool := isNat l && decide ((l.length : Int) ≤ 70)
def isI70 (l : List Nat) : Bool := match l with
  | 45 :: r => decide (r ≠ [48]) && isN70 r
  | _ => isN70 l
/-- the weights that words stand for -/
def rdW : List Nat → List (List Nat) → Option (List (List Int))
  | [], R => if R = [] then some [] else none
  | n :: ns, R => if R.take 1 = [[59]] ∧ ((R.drop 1).take n).length = n ∧ ((R.drop 1).take n).all isI70 = true then (rdW ns (R.drop (1 + n))).map fun W => ((R.drop 1).take n).map valI :: W else none
def rdL (ws : List (List Nat)) (sizes : List Nat) : Option (Int × List (List Int)) :=
  if endL ws = true ∧ isN70 (ws.getD 1 []) = true then (rdW sizes ((ws.take (ws.length - 2)).drop 2)).map fun W => (valI (ws.getD 1 []), W) else none
def need : List Nat → Nat
  | [] => 0
  | n :: ns => 1 + n + need ns
theorem rdW_len : ∀ {ns : List Nat} {R : List (List Nat)} {W : List (List Int)}, rdW ns R = some W → R.length = need ns
  | [], R, W, h => by
    unfold rdW at h
    split at h
    · rename_i e
      subst e
      rfl
    · cases h
  | n :: ns, R, W, h => by
    unfold rdW at h
    split at h
    · rename_i e
      obtain ⟨e1, e2, -⟩ := e
      cases hr : rdW ns (R.drop (1 + n)) with
      | none => rw [hr] at h; cases h
      | some W' =>
        have ih := rdW_len hr
        rw [List.length_drop] at ih
        have q := congrArg List.length e1
        rw [List.length_take, List.length_singleton] at q
        rw [List.length_take, List.length_drop] at e2
        unfold need
        omega
    · cases h
theorem endL_iff {ws : List (List Nat)} (h : endL ws = true) : ∃ A, 2 ≤ A.length ∧ ws = A ++ [CHECK, numL (chk (joinL [32] A))] := by
  unfold endL at h
  simp only [Bool.and_eq_true, decide_eq_true_eq] at h
  obtain ⟨⟨⟨h1, -⟩, h2⟩, h3⟩ := h
  refine ⟨ws.take (ws.length - 2), by rw [List.length_take]; omega, ?_⟩
  rw [List.getD_eq_getElem?_getD, List.getElem?_eq_getElem (by omega)] at h2 h3
  simp only [Option.getD_some] at h2 h3
  have e1 := List.drop_eq_getElem_cons (l := ws) (i := ws.length - 2) (by omega)
  have e2 := List.drop_eq_getElem_cons (l := ws) (i := ws.length - 2 + 1) (by omega)
  have e3 : ws.drop (ws.length - 2 + 1 + 1) = [] := List.drop_eq_nil_of_le (by omega)
  have e4 : ws[ws.length - 2 + 1]'(by omega) = ws[ws.length - 1]'(by omega) := by congr 1; omega
  rw [e3, e4, h3] at e2
  rw [h2, e2] at e1
  rw [← e1, List.take_append_drop]
theorem rdL_none_len {l : List Nat} {sizes : List Nat} (h : (wds l).length ≠ 4 + need sizes) : rdL (wds l) sizes = none := by
  unfold rdL
  split
  · rename_i e
    obtain ⟨A, h2, hA⟩ := endL_iff e.1
    cases hr : rdW sizes (((wds l).take ((wds l).length - 2)).drop 2) with
    | none => rfl
    | some W =>
      have := rdW_len hr
      rw [List.length_drop, List.length_take] at this
      have q := congrArg List.length hA
      rw [List.length_append] at q
      simp only [List.length_cons, List.length_nil] at q
      omega
  · rfl
theorem rdL_some_line {l : List Nat} {sizes : List Nat} (h : rdL (wds l) sizes ≠ none) : ∃ T, l = lineL T := by
  unfold rdL at h
  split at h
  · rename_i e
    obtain ⟨A, h2, hA⟩ := endL_iff e.1
    refine ⟨joinL [32] A, ?_⟩
    have hj := (wds_ok l).2.2
    rw [hA] at hj
    rw [joinL_app (fun z => by rw [z] at h2; simp at h2) (by simp)] at hj
    rw [← hj]
    rfl
  · exact absurd rfl h
/-! the line of a journal -/
def rowL (r : List Int) : List (List Nat) := [59] :: r.map strI
def headL (S : Int) (W : List (List Int)) : List (List Nat) := STEP :: strI S :: W.flatMap rowL
def allL (S : Int) (W : List (List Int)) : List (List Nat) := headL S W ++ [CHECK, numL (chk (joinL [32] (headL S W)))]
theorem strI_sp {i : Int} : 32 ∉ strI i := strI_free (.inl (by omega))
theorem head_sp {S : Int} {W : List (List Int)} : ∀ p ∈ headL S W, 32 ∉ p := fun p hp => by
  unfold headL at hp
  rcases List.mem_cons.mp hp with rfl | hp
  · decide
  rcases List.mem_cons.mp hp with rfl | hp
  · exact strI_sp
  obtain ⟨r, -, hr⟩ := List.mem_flatMap.mp hp
  unfold rowL at hr
  rcases List.mem_cons.mp hr with rfl | hr
  · decide
  obtain ⟨i, -, rfl⟩ := List.mem_map.mp hr
  exact strI_sp
theorem all_sp {S : Int} {W : List (List Int)} : ∀ p ∈ allL S W, 32 ∉ p := fun p hp => by
  rcases List.mem_append.mp hp with hp | hp
  · exact head_sp p hp
  rcases List.mem_cons.mp hp with rfl | hp
  · decide
  rcases List.mem_cons.mp hp with rfl | hp
  · exact numL_free (by omega)
  · cases hp
theorem all_ne {S : Int} {W : List (List Int)} : allL S W ≠ [] := by unfold allL headL; simp
theorem all_line {S : Int} {W : List (List Int)} : joinL [32] (allL S W) = lineL (joinL [32] (headL S W)) := by
  unfold allL
  rw [joinL_app (by unfold headL; simp) (by simp)]
  rfl
theorem isI70_str {i : Int} (h : (strI i).length ≤ 70) : isI70 (strI i) = true := by
  have hi := isInt_strI i
  rcases neg_or (strI i) with ⟨r, hr⟩ | hne
  · rw [hr] at h hi ⊢
    rw [isInt_neg, Bool.and_eq_true] at hi
    rw [List.length_cons] at h
    show (decide (r ≠ [48]) && (isNat r && decide ((r.length : Int) ≤ 70))) = true
    rw [hi.1, hi.2, decide_eq_true (by omega)]
    rfl
  · rw [isInt_pos hne] at hi
    have : isI70 (strI i) = isN70 (strI i) := by
      unfold isI70
      split
      · rename_i r e
        exact absurd e (hne r)
      · rfl
    rw [this]
    unfold isN70
    rw [hi, decide_eq_true (by omega)]
    rfl
theorem isI70_int {l : List Nat} (h : isI70 l = true) : isInt l = true ∧ l.length ≤ 71 := by
  rcases neg_or l with ⟨r, rfl⟩ | hne
  · have h : (decide (r ≠ [48]) && (isNat r && decide ((r.length : Int) ≤ 70))) = true := h
    rw [Bool.and_eq_true, Bool.and_eq_true, decide_eq_true_eq (p := (r.length : Int) ≤ 70)] at h
    refine ⟨by rw [isInt_neg, h.1, h.2.1]; rfl, ?_⟩
    rw [List.length_cons]
    omega
  · have e : isI70 l = isN70 l := by
      unfold isI70
      split
      · exact absurd rfl (hne _)
      · rfl
    rw [e] at h
    unfold isN70 at h
    rw [Bool.and_eq_true, decide_eq_true_eq] at h
    exact ⟨by rw [isInt_pos hne]; exact h.1, by omega⟩
theorem rdW_ok : ∀ {W : List (List Int)}, (∀ r ∈ W, ∀ i ∈ r, (strI i).length ≤ 70) → rdW (W.map List.length) (W.flatMap rowL) = some W
  | [], _ => rfl
  | r :: W, h => by
    have ih := rdW_ok (W := W) fun r hr => h r (List.mem_cons_of_mem _ hr)
    rw [List.map_cons, List.flatMap_cons]
    unfold rdW
    have e1 : (rowL r ++ W.flatMap rowL).take 1 = [[59]] := rfl
    have e2 : (rowL r ++ W.flatMap rowL).drop 1 = r.map strI ++ W.flatMap rowL := rfl
    have e3 : (r.map strI ++ W.flatMap rowL).take r.length = r.map strI := by
      rw [List.take_append_of_le_length (by rw [List.length_map]; exact Nat.le_refl _)]
      exact List.take_of_length_le (by rw [List.length_map]; exact Nat.le_refl _)
    have e4 : (rowL r ++ W.flatMap rowL).drop (1 + r.length) = W.flatMap rowL := by
      rw [← List.drop_drop, e2, List.drop_append_of_le_length (by rw [List.length_map]; exact Nat.le_refl _), List.drop_eq_nil_of_le (by rw [List.length_map]; exact Nat.le_refl _)]
      rfl
    rw [e1, e2, e3, e4, ih, if_pos ⟨rfl, List.length_map _, by
      rw [List.all_eq_true]
      intro x hx
      obtain ⟨i, hi, rfl⟩ := List.mem_map.mp hx
      exact isI70_str (h r List.mem_cons_self i hi)⟩, List.map_map]
    show some (r.map (fun i => valI (strI i)) :: W) = _
    have : r.map (fun i => valI (strI i)) = r := by
      conv => rhs; rw [← List.map_id r]
      exact List.map_congr_left fun i _ => valI_strI i
    rw [this]
theorem rdL_ok {S : Int} {W : List (List Int)} (hS : 0 ≤ S) (hSl : (strI S).length ≤ 70) (h : ∀ r ∈ W, ∀ i ∈ r, (strI i).length ≤ 70) : rdL (allL S W) (W.map List.length) = some (S, W) := by
  have hlen : (allL S W).length = (headL S W).length + 2 := by
    unfold allL
    rw [List.length_append]
    rfl
  have ht : (allL S W).take ((allL S W).length - 2) = headL S W := by
    rw [hlen, Nat.add_sub_cancel]
    unfold allL
    exact List.take_left
  have h1 : (allL S W).getD 1 [] = strI S := rfl
  unfold rdL
  have he : endL (allL S W) = true := by
    unfold endL
    rw [ht]
    have g0 : (allL S W).getD 0 [] = STEP := rfl
    have g1 : (allL S W).getD ((allL S W).length - 2) [] = CHECK := by
      rw [hlen, Nat.add_sub_cancel, List.getD_eq_getElem?_getD]
      unfold allL
      rw [List.getElem?_append_right (Nat.le_refl _), Nat.sub_self]
      rfl
    have g2 : (allL S W).getD ((allL S W).length - 1) [] = numL (chk (joinL [32] (headL S W))) := by
      rw [hlen, List.getD_eq_getElem?_getD]
      unfold allL
      rw [List.getElem?_append_right (by omega), show (headL S W).length + 2 - 1 - (headL S W).length = 1 by omega]
      rfl
    rw [g0, g1, g2, decide_eq_true rfl, decide_eq_true rfl, decide_eq_true rfl, decide_eq_true (by rw [hlen]; unfold headL; simp only [List.length_cons]; omega)]
    rfl
  have hn : isN70 (strI S) = true := by
    unfold isN70
    have : strI S = numL S.natAbs := by unfold strI; rw [if_neg (by omega)]
    rw [decide_eq_true (by omega), this, isNat_numL]
    rfl
  rw [ht, h1, if_pos ⟨he, hn⟩]
  show (rdW (W.map List.length) (W.flatMap rowL)).map _ = _
  rw [rdW_ok h, valI_strI]
  rfl
section
variable {k : Nat} {s : Store}
theorem dig_of : ∀ c, c < 128 → Unicode.isDigit c = (decide (48 ≤ c) && decide (c ≤ 57)) := by decide +kernel
theorem asc_dig {z : Str} : (PySem.Txt.isascii z && PySem.Txt.isdigit z) = (!(tl z).isEmpty && (tl z).all (fun c => decide (48 ≤ c) && decide (c ≤ 57))) := by
  unfold PySem.Txt.isascii PySem.Txt.isdigit
  have e1 : z.cps.all (· < 128) = (tl z).all (· < 128) := by rw [Array.all_toList]
  have e2 : z.cps.all Unicode.isDigit = (tl z).all Unicode.isDigit := by rw [Array.all_toList]
  have e3 : (decide (z.length > 0)) = !(tl z).isEmpty := by
    rw [len_tl]
    cases tl z <;> simp
  rw [e1, e2, e3]
  generalize tl z = l
  clear e1 e2 e3
  cases l with
  | nil => rfl
  | cons a r =>
    simp only [List.isEmpty_cons, Bool.not_false, Bool.true_and]
    generalize a :: r = l
    induction l with
    | nil => rfl
    | cons c l ih =>
      rw [List.all_cons, List.all_cons, List.all_cons, ← ih]
      by_cases h : c < 128
      · rw [dig_of c h, decide_eq_true h]
        cases l.all (· < 128) <;> simp
      · rw [decide_eq_false h]
        have : decide (c ≤ 57) = false := decide_eq_false (by omega)
        rw [this]
        simp
theorem sm_asc {z : Str} : smV .isascii z [] s = .ok (.bl (PySem.Txt.isascii z)) s := rfl
theorem sm_dig {z : Str} : smV .isdigit z [] s = .ok (.bl (PySem.Txt.isdigit z)) s := rfl
theorem str_of {z : Str} {l : List Nat} (h : tl z = l) : z = ⟨l.toArray⟩ := ext_tl h
theorem eq_lit {z : Str} {l : List Nat} {w : Str} (hw : tl w = l) : decide (z = w) = decide (tl z = l) := by
  by_cases h : z = w
  · subst h
    rw [decide_eq_true rfl, decide_eq_true hw]
  · rw [decide_eq_false h, decide_eq_false (fun e => h (ext_tl (e.trans hw.symm)))]
theorem tl_0 : tl ("0" : Str) = [48] := by decide +kernel
theorem tl_m0 : tl ("-0" : Str) = [45, 48] := by decide +kernel
theorem ok_0 : PyData.strOk "0" = true := by decide +kernel
theorem ok_m0 : PyData.strOk "-0" = true := by decide +kernel
theorem strOk_tl {z : Str} : PyData.strOk z = true ↔ ∀ c ∈ tl z, c < 1114112 := by
  unfold PyData.strOk
  rw [← Array.all_toList, List.all_eq_true]
  simp only [decide_eq_true_eq]
theorem one_ok {c : Nat} (h : c < 1114112) : PyData.strOk ⟨#[c]⟩ = true := strOk_tl.mpr fun d hd => by
  have : d = c := by simpa using hd
  omega
theorem natural_ok {z : Str} {most : Int} (ho : PyData.strOk z = true) (hs : z.length ≤ sizeLine) : callAt Dt Gt subt (k + 1) 0 [.str z, .int most] s = .ok (.bl (isNat (tl z) && decide ((z.length : Int) ≤ most))) s := by
  have ad := asc_dig (z := z)
  unfold isNat
  rw [← ad]
  clear ad
  cases h1 : PySem.Txt.isascii z with
  | false => simp -implicitDefEqProofs -dsimp only [↓bind_K, ↓out_K, ↓then_K, ↓optR_K, ↓cond_K, ↓forL_K, ↓lcL_K, ↓whileL_K, ↓catch_K, ↓catchK_nx, ↓catchK_rt, ↓catchK_exc, unset_rt, hush_rt, hush_nx, hush_ct, fin_exc, ↓bindK_ok, ↓outK_ok, ↓bindK_exc, ↓outK_exc, ↓thenK_nx, ↓thenK_rt, ↓thenK_exc, ↓thenK_bk, ↓thenK_ct, ↓optRK_some, ↓quiet_ok, ↓condK_t, ↓condK_f, ↓truth_bl, qE_slot, qE_isx, qE_k, qE_glob, qE_bin, qE_neg, qE_not, qE_and, qE_or, qE_cmp, qE_chain, qE_ife, qE_ix, qE_slc, qE_rev, qE_tup, qE_lst, qE_call, qE_bi, qE_isi, qE_meth, qE_lc, qE_smeth, qE_get2, qE_setd, qE_dnew, qEs_nil, qEs_cons, qAll_nil, qAll_cons, qO_no, qO_some, qI_seq, qI_range1, qI_range2, qI_range3, qI_zip, qI_enum, qI_enumK, qI_rev, qT_name, qT_tup, qT_sub, qTs_nil, qTs_cons, qS_asg, qS_par, qS_aug, qS_ife, qS_for, qS_forD, qS_while, qS_ret, qS_retN, qS_drop, qS_pass, qS_brk, qS_cont, qS_raise, qS_try, qS_pick, qSs_nil, qSs_cons, dv_int, dv_bl, dv_str, dv_non, List.getElem?_cons_zero, List.getElem?_cons_succ, List.set_cons_zero, List.set_cons_succ, List.length_cons, List.length_nil, Nat.reduceAdd, Nat.reduceLT, if_true, fin_rt, fin_nx, at_0, at_1, at_2, at_3, itemV_ref, itemV_tup, cmp_eq_int, cmp_ne_int, cmp_lt_int, cmp_le_int, cmp_gt_int, cmp_ge_int, bin_add, bin_sub, bi_int_int, call_0, b0, sm_asc, sm_dig, h1, Bool.not_false, Bool.false_and]
  | true =>
    cases h2 : PySem.Txt.isdigit z with
    | false => simp -implicitDefEqProofs -dsimp only [↓bind_K, ↓out_K, ↓then_K, ↓optR_K, ↓cond_K, ↓forL_K, ↓lcL_K, ↓whileL_K, ↓catch_K, ↓catchK_nx, ↓catchK_rt, ↓catchK_exc, unset_rt, hush_rt, hush_nx, hush_ct, fin_exc, ↓bindK_ok, ↓outK_ok, ↓bindK_exc, ↓outK_exc, ↓thenK_nx, ↓thenK_rt, ↓thenK_exc, ↓thenK_bk, ↓thenK_ct, ↓optRK_some, ↓quiet_ok, ↓condK_t, ↓condK_f, ↓truth_bl, qE_slot, qE_isx, qE_k, qE_glob, qE_bin, qE_neg, qE_not, qE_and, qE_or, qE_cmp, qE_chain, qE_ife, qE_ix, qE_slc, qE_rev, qE_tup, qE_lst, qE_call, qE_bi, qE_isi, qE_meth, qE_lc, qE_smeth, qE_get2, qE_setd, qE_dnew, qEs_nil, qEs_cons, qAll_nil, qAll_cons, qO_no, qO_some, qI_seq, qI_range1, qI_range2, qI_range3, qI_zip, qI_enum, qI_enumK, qI_rev, qT_name, qT_tup, qT_sub, qTs_nil, qTs_cons, qS_asg, qS_par, qS_aug, qS_ife, qS_for, qS_forD, qS_while, qS_ret, qS_retN, qS_drop, qS_pass, qS_brk, qS_cont, qS_raise, qS_try, qS_pick, qSs_nil, qSs_cons, dv_int, dv_bl, dv_str, dv_non, List.getElem?_cons_zero, List.getElem?_cons_succ, List.set_cons_zero, List.set_cons_succ, List.length_cons, List.length_nil, Nat.reduceAdd, Nat.reduceLT, if_true, fin_rt, fin_nx, at_0, at_1, at_2, at_3, itemV_ref, itemV_tup, cmp_eq_int, cmp_ne_int, cmp_lt_int, cmp_le_int, cmp_gt_int, cmp_ge_int, bin_add, bin_sub, bi_int_int, call_0, b0, sm_asc, sm_dig, h1, h2, Bool.not_false, Bool.false_and, Bool.and_false]
    | true =>
      have ll := fun s => len_str (z := z) (s := s) hs
      by_cases hm : (z.length : Int) ≤ most
      · have lm := decide_eq_true hm
        have hd : tl z ≠ [] := fun e => by
          unfold PySem.Txt.isdigit at h2
          rw [len_tl, e] at h2
          simp at h2
        obtain ⟨c, r, hcr⟩ : ∃ c r, tl z = c :: r := by
          cases hx : tl z with
          | nil => exact absurd hx hd
          | cons c r => exact ⟨c, r, rfl⟩
        have hc : c < 1114112 := strOk_tl.mp ho c (by rw [hcr]; exact List.mem_cons_self)
        have it := fun s => item_str (z := z) (i := 0) (c := c) (s := s) hs (by
          have : z.cps.toList = c :: r := hcr
          rw [this]
          exact at_0)
        have n1 := fun s => ne_str (s := s) (one_ok hc) ok_0
        have n2 := fun s => eq_str (s := s) ho ok_0
        rw [eq_lit tl_0] at n1 n2
        have hh : (tl (⟨#[c]⟩ : Str) = [48]) = (c = 48) := by
          show ([c] = [48]) = _
          simp
        simp only [hh] at n1
        rw [hcr] at n2 ⊢
        rw [List.headD_cons, lm, Bool.and_true]
        by_cases h3 : c = 48
        · have e3 := decide_eq_true h3
          have e4 : decide (c ≠ 48) = false := decide_eq_false (fun h => h h3)
          rw [e3] at n1
          rw [e4]
          generalize decide (c :: r = [48]) = B at n2 ⊢
          simp -implicitDefEqProofs -dsimp only [↓bind_K, ↓out_K, ↓then_K, ↓optR_K, ↓cond_K, ↓forL_K, ↓lcL_K, ↓whileL_K, ↓catch_K, ↓catchK_nx, ↓catchK_rt, ↓catchK_exc, unset_rt, hush_rt, hush_nx, hush_ct, fin_exc, ↓bindK_ok, ↓outK_ok, ↓bindK_exc, ↓outK_exc, ↓thenK_nx, ↓thenK_rt, ↓thenK_exc, ↓thenK_bk, ↓thenK_ct, ↓optRK_some, ↓quiet_ok, ↓condK_t, ↓condK_f, ↓truth_bl, qE_slot, qE_isx, qE_k, qE_glob, qE_bin, qE_neg, qE_not, qE_and, qE_or, qE_cmp, qE_chain, qE_ife, qE_ix, qE_slc, qE_rev, qE_tup, qE_lst, qE_call, qE_bi, qE_isi, qE_meth, qE_lc, qE_smeth, qE_get2, qE_setd, qE_dnew, qEs_nil, qEs_cons, qAll_nil, qAll_cons, qO_no, qO_some, qI_seq, qI_range1, qI_range2, qI_range3, qI_zip, qI_enum, qI_enumK, qI_rev, qT_name, qT_tup, qT_sub, qTs_nil, qTs_cons, qS_asg, qS_par, qS_aug, qS_ife, qS_for, qS_forD, qS_while, qS_ret, qS_retN, qS_drop, qS_pass, qS_brk, qS_cont, qS_raise, qS_try, qS_pick, qSs_nil, qSs_cons, dv_int, dv_bl, dv_str, dv_non, List.getElem?_cons_zero, List.getElem?_cons_succ, List.set_cons_zero, List.set_cons_succ, List.length_cons, List.length_nil, Nat.reduceAdd, Nat.reduceLT, if_true, fin_rt, fin_nx, at_0, at_1, at_2, at_3, itemV_ref, itemV_tup, cmp_eq_int, cmp_ne_int, cmp_lt_int, cmp_le_int, cmp_gt_int, cmp_ge_int, bin_add, bin_sub, bi_int_int, call_0, b0, sm_asc, sm_dig, h1, h2, Bool.not_true, ll, lm, it, n1, n2, Bool.true_and, Bool.false_or]
        · have e3 := decide_eq_false h3
          have e4 : decide (c ≠ 48) = true := decide_eq_true h3
          rw [e3] at n1
          rw [e4]
          simp -implicitDefEqProofs -dsimp only [↓bind_K, ↓out_K, ↓then_K, ↓optR_K, ↓cond_K, ↓forL_K, ↓lcL_K, ↓whileL_K, ↓catch_K, ↓catchK_nx, ↓catchK_rt, ↓catchK_exc, unset_rt, hush_rt, hush_nx, hush_ct, fin_exc, ↓bindK_ok, ↓outK_ok, ↓bindK_exc, ↓outK_exc, ↓thenK_nx, ↓thenK_rt, ↓thenK_exc, ↓thenK_bk, ↓thenK_ct, ↓optRK_some, ↓quiet_ok, ↓condK_t, ↓condK_f, ↓truth_bl, qE_slot, qE_isx, qE_k, qE_glob, qE_bin, qE_neg, qE_not, qE_and, qE_or, qE_cmp, qE_chain, qE_ife, qE_ix, qE_slc, qE_rev, qE_tup, qE_lst, qE_call, qE_bi, qE_isi, qE_meth, qE_lc, qE_smeth, qE_get2, qE_setd, qE_dnew, qEs_nil, qEs_cons, qAll_nil, qAll_cons, qO_no, qO_some, qI_seq, qI_range1, qI_range2, qI_range3, qI_zip, qI_enum, qI_enumK, qI_rev, qT_name, qT_tup, qT_sub, qTs_nil, qTs_cons, qS_asg, qS_par, qS_aug, qS_ife, qS_for, qS_forD, qS_while, qS_ret, qS_retN, qS_drop, qS_pass, qS_brk, qS_cont, qS_raise, qS_try, qS_pick, qSs_nil, qSs_cons, dv_int, dv_bl, dv_str, dv_non, List.getElem?_cons_zero, List.getElem?_cons_succ, List.set_cons_zero, List.set_cons_succ, List.length_cons, List.length_nil, Nat.reduceAdd, Nat.reduceLT, if_true, fin_rt, fin_nx, at_0, at_1, at_2, at_3, itemV_ref, itemV_tup, cmp_eq_int, cmp_ne_int, cmp_lt_int, cmp_le_int, cmp_gt_int, cmp_ge_int, bin_add, bin_sub, bi_int_int, call_0, b0, sm_asc, sm_dig, h1, h2, Bool.not_true, Bool.not_false, ll, lm, it, n1, Bool.true_and, Bool.true_or]
      · have lm := decide_eq_false hm
        rw [lm, Bool.and_false]
        simp -implicitDefEqProofs -dsimp only [↓bind_K, ↓out_K, ↓then_K, ↓optR_K, ↓cond_K, ↓forL_K, ↓lcL_K, ↓whileL_K, ↓catch_K, ↓catchK_nx, ↓catchK_rt, ↓catchK_exc, unset_rt, hush_rt, hush_nx, hush_ct, fin_exc, ↓bindK_ok, ↓outK_ok, ↓bindK_exc, ↓outK_exc, ↓thenK_nx, ↓thenK_rt, ↓thenK_exc, ↓thenK_bk, ↓thenK_ct, ↓optRK_some, ↓quiet_ok, ↓condK_t, ↓condK_f, ↓truth_bl, qE_slot, qE_isx, qE_k, qE_glob, qE_bin, qE_neg, qE_not, qE_and, qE_or, qE_cmp, qE_chain, qE_ife, qE_ix, qE_slc, qE_rev, qE_tup, qE_lst, qE_call, qE_bi, qE_isi, qE_meth, qE_lc, qE_smeth, qE_get2, qE_setd, qE_dnew, qEs_nil, qEs_cons, qAll_nil, qAll_cons, qO_no, qO_some, qI_seq, qI_range1, qI_range2, qI_range3, qI_zip, qI_enum, qI_enumK, qI_rev, qT_name, qT_tup, qT_sub, qTs_nil, qTs_cons, qS_asg, qS_par, qS_aug, qS_ife, qS_for, qS_forD, qS_while, qS_ret, qS_retN, qS_drop, qS_pass, qS_brk, qS_cont, qS_raise, qS_try, qS_pick, qSs_nil, qSs_cons, dv_int, dv_bl, dv_str, dv_non, List.getElem?_cons_zero, List.getElem?_cons_succ, List.set_cons_zero, List.set_cons_succ, List.length_cons, List.length_nil, Nat.reduceAdd, Nat.reduceLT, if_true, fin_rt, fin_nx, at_0, at_1, at_2, at_3, itemV_ref, itemV_tup, cmp_eq_int, cmp_ne_int, cmp_lt_int, cmp_le_int, cmp_gt_int, cmp_ge_int, bin_add, bin_sub, bi_int_int, call_0, b0, sm_asc, sm_dig, h1, h2, Bool.not_true, ll, lm, Bool.true_and]
theorem sm_start {z w : Str} : smV .startswith z [.str w] s = .ok (.bl (PySem.Txt.startswith z w)) s := rfl
theorem start_m {z : Str} : PySem.Txt.startswith z "-" = decide ((tl z).head? = some 45) := by
  obtain ⟨⟨l⟩⟩ := z
  have hm : ("-" : Str) = ⟨#[45]⟩ := by decide +kernel
  rw [hm]
  show (decide (0 + 1 ≤ l.length) && (Array.extract ⟨l⟩ 0 (0 + 1) == #[45])) = decide (l.head? = some 45)
  cases l with
  | nil => rfl
  | cons c r =>
    have e : Array.extract ⟨c :: r⟩ 0 (0 + 1) = #[c] := by simp
    rw [e, decide_eq_true (by simp), Bool.true_and, List.head?_cons]
    by_cases h : c = 45
    · subst h; rfl
    · rw [decide_eq_false (by simpa using h)]
      simpa using h
theorem cut_1 {c : Nat} {r : List Nat} : cut (c :: r) (some 1) none = r := by
  unfold cut
  rw [HT.sIx_none, show (1 : Int) = ((1 : Nat) : Int) from rfl, HT.sIx_nat, List.length_cons, Nat.min_eq_left (by omega)]
  show List.take (r.length + 1 - 1) r = r
  rw [Nat.add_sub_cancel, List.take_length]
theorem integer_ok {z : Str} (ho : PyData.strOk z = true) (hs : z.length ≤ sizeLine) : callAt Dt Gt subt (k + 2) 1 [.str z, .int 70] s = .ok (.bl (isI70 (tl z))) s := by
  have st := start_m (z := z)
  rcases neg_or (tl z) with ⟨r, hr⟩ | hne
  · rw [hr, List.head?_cons, decide_eq_true rfl] at st
    have n1 := fun s => ne_str (s := s) ho ok_m0
    rw [eq_lit tl_m0, hr] at n1
    have sl : ∀ s, sliceV (.str z) (some 1) none s = .ok (.str ⟨r.toArray⟩) s := fun s => by
      rw [slice_str hs]
      have : z.cps.toList = 45 :: r := hr
      rw [this, cut_1]
    have hlr : (⟨r.toArray⟩ : Str).length ≤ z.length := by
      rw [len_tl, len_tl, hr]
      show r.length ≤ r.length + 1
      omega
    have nk := fun s => natural_ok (k := k) (s := s) (z := ⟨r.toArray⟩) (most := 70) (strOk_tl.mpr fun c hc => strOk_tl.mp ho c (by rw [hr]; exact List.mem_cons_of_mem _ hc)) (by omega)
    have e6 : (⟨r.toArray⟩ : Str).length = r.length := rfl
    rw [e6] at nk
    rw [hr]
    show _ = Res.ok (DV.bl (decide (r ≠ [48]) && (isNat r && decide ((r.length : Int) ≤ 70)))) s
    have e5 : decide (45 :: r = [45, 48]) = decide (r = [48]) := by simp
    rw [e5] at n1
    by_cases h1 : r = [48]
    · rw [decide_eq_true h1] at n1
      rw [decide_eq_false (fun h => h h1)]
      simp -implicitDefEqProofs -dsimp only [↓bind_K, ↓out_K, ↓then_K, ↓optR_K, ↓cond_K, ↓forL_K, ↓lcL_K, ↓whileL_K, ↓catch_K, ↓catchK_nx, ↓catchK_rt, ↓catchK_exc, unset_rt, hush_rt, hush_nx, hush_ct, fin_exc, ↓bindK_ok, ↓outK_ok, ↓bindK_exc, ↓outK_exc, ↓thenK_nx, ↓thenK_rt, ↓thenK_exc, ↓thenK_bk, ↓thenK_ct, ↓optRK_some, ↓quiet_ok, ↓condK_t, ↓condK_f, ↓truth_bl, qE_slot, qE_isx, qE_k, qE_glob, qE_bin, qE_neg, qE_not, qE_and, qE_or, qE_cmp, qE_chain, qE_ife, qE_ix, qE_slc, qE_rev, qE_tup, qE_lst, qE_call, qE_bi, qE_isi, qE_meth, qE_lc, qE_smeth, qE_get2, qE_setd, qE_dnew, qEs_nil, qEs_cons, qAll_nil, qAll_cons, qO_no, qO_some, qI_seq, qI_range1, qI_range2, qI_range3, qI_zip, qI_enum, qI_enumK, qI_rev, qT_name, qT_tup, qT_sub, qTs_nil, qTs_cons, qS_asg, qS_par, qS_aug, qS_ife, qS_for, qS_forD, qS_while, qS_ret, qS_retN, qS_drop, qS_pass, qS_brk, qS_cont, qS_raise, qS_try, qS_pick, qSs_nil, qSs_cons, dv_int, dv_bl, dv_str, dv_non, List.getElem?_cons_zero, List.getElem?_cons_succ, List.set_cons_zero, List.set_cons_succ, List.length_cons, List.length_nil, Nat.reduceAdd, Nat.reduceLT, if_true, fin_rt, fin_nx, at_0, at_1, at_2, at_3, itemV_ref, itemV_tup, cmp_eq_int, cmp_ne_int, cmp_lt_int, cmp_le_int, cmp_gt_int, cmp_ge_int, bin_add, bin_sub, bi_int_int, call_1, b1, sm_start, st, n1, Bool.not_true, Bool.false_and]
    · rw [decide_eq_false h1] at n1
      rw [decide_eq_true h1]
      simp -implicitDefEqProofs -dsimp only [↓bind_K, ↓out_K, ↓then_K, ↓optR_K, ↓cond_K, ↓forL_K, ↓lcL_K, ↓whileL_K, ↓catch_K, ↓catchK_nx, ↓catchK_rt, ↓catchK_exc, unset_rt, hush_rt, hush_nx, hush_ct, fin_exc, ↓bindK_ok, ↓outK_ok, ↓bindK_exc, ↓outK_exc, ↓thenK_nx, ↓thenK_rt, ↓thenK_exc, ↓thenK_bk, ↓thenK_ct, ↓optRK_some, ↓quiet_ok, ↓condK_t, ↓condK_f, ↓truth_bl, qE_slot, qE_isx, qE_k, qE_glob, qE_bin, qE_neg, qE_not, qE_and, qE_or, qE_cmp, qE_chain, qE_ife, qE_ix, qE_slc, qE_rev, qE_tup, qE_lst, qE_call, qE_bi, qE_isi, qE_meth, qE_lc, qE_smeth, qE_get2, qE_setd, qE_dnew, qEs_nil, qEs_cons, qAll_nil, qAll_cons, qO_no, qO_some, qI_seq, qI_range1, qI_range2, qI_range3, qI_zip, qI_enum, qI_enumK, qI_rev, qT_name, qT_tup, qT_sub, qTs_nil, qTs_cons, qS_asg, qS_par, qS_aug, qS_ife, qS_for, qS_forD, qS_while, qS_ret, qS_retN, qS_drop, qS_pass, qS_brk, qS_cont, qS_raise, qS_try, qS_pick, qSs_nil, qSs_cons, dv_int, dv_bl, dv_str, dv_non, List.getElem?_cons_zero, List.getElem?_cons_succ, List.set_cons_zero, List.set_cons_succ, List.length_cons, List.length_nil, Nat.reduceAdd, Nat.reduceLT, if_true, fin_rt, fin_nx, at_0, at_1, at_2, at_3, itemV_ref, itemV_tup, cmp_eq_int, cmp_ne_int, cmp_lt_int, cmp_le_int, cmp_gt_int, cmp_ge_int, bin_add, bin_sub, bi_int_int, call_1, b1, sm_start, st, n1, Bool.not_false, Bool.true_and, sl, nk]
  · have st : PySem.Txt.startswith z "-" = false := by
      rw [st]
      refine decide_eq_false fun e => ?_
      cases hx : tl z with
      | nil => rw [hx] at e; cases e
      | cons c r =>
        rw [hx, List.head?_cons] at e
        cases e
        exact hne r hx
    have nk := fun s => natural_ok (k := k) (s := s) (most := 70) ho hs
    have e : isI70 (tl z) = (isNat (tl z) && decide ((z.length : Int) ≤ 70)) := by
      rw [len_tl]
      unfold isI70
      split
      · rename_i r e
        exact absurd e (hne r)
      · rfl
    rw [e]
    simp -implicitDefEqProofs -dsimp only [↓bind_K, ↓out_K, ↓then_K, ↓optR_K, ↓cond_K, ↓forL_K, ↓lcL_K, ↓whileL_K, ↓catch_K, ↓catchK_nx, ↓catchK_rt, ↓catchK_exc, unset_rt, hush_rt, hush_nx, hush_ct, fin_exc, ↓bindK_ok, ↓outK_ok, ↓bindK_exc, ↓outK_exc, ↓thenK_nx, ↓thenK_rt, ↓thenK_exc, ↓thenK_bk, ↓thenK_ct, ↓optRK_some, ↓quiet_ok, ↓condK_t, ↓condK_f, ↓truth_bl, qE_slot, qE_isx, qE_k, qE_glob, qE_bin, qE_neg, qE_not, qE_and, qE_or, qE_cmp, qE_chain, qE_ife, qE_ix, qE_slc, qE_rev, qE_tup, qE_lst, qE_call, qE_bi, qE_isi, qE_meth, qE_lc, qE_smeth, qE_get2, qE_setd, qE_dnew, qEs_nil, qEs_cons, qAll_nil, qAll_cons, qO_no, qO_some, qI_seq, qI_range1, qI_range2, qI_range3, qI_zip, qI_enum, qI_enumK, qI_rev, qT_name, qT_tup, qT_sub, qTs_nil, qTs_cons, qS_asg, qS_par, qS_aug, qS_ife, qS_for, qS_forD, qS_while, qS_ret, qS_retN, qS_drop, qS_pass, qS_brk, qS_cont, qS_raise, qS_try, qS_pick, qSs_nil, qSs_cons, dv_int, dv_bl, dv_str, dv_non, List.getElem?_cons_zero, List.getElem?_cons_succ, List.set_cons_zero, List.set_cons_succ, List.length_cons, List.length_nil, Nat.reduceAdd, Nat.reduceLT, if_true, fin_rt, fin_nx, at_0, at_1, at_2, at_3, itemV_ref, itemV_tup, cmp_eq_int, cmp_ne_int, cmp_lt_int, cmp_le_int, cmp_gt_int, cmp_ge_int, bin_add, bin_sub, bi_int_int, call_1, b1, sm_start, st, nk]
/-! ### the check number -/
theorem gt0 : Gt 0 = some (.int 70) := rfl
theorem gt1 : Gt 1 = some (.int 65521) := rfl
theorem gt2 : Gt 2 = some (.str "step") := rfl
theorem gt3 : Gt 3 = some (.str "check") := rfl
theorem gt4 : Gt 4 = some (.str ";") := rfl
theorem ints_map : ∀ ns : List Int, ints? (List.map DV.int ns) = some ns
  | [] => rfl
  | n :: ns => by
    show (match ints? (List.map DV.int ns) with | some is => some (n :: is) | none => none) = _
    rw [ints_map ns]
theorem strs_map : ∀ ws : List Str, strs? (List.map DV.str ws) = some ws
  | [] => rfl
  | n :: ns => by
    show (match strs? (List.map DV.str ns) with | some is => some (n :: is) | none => none) = _
    rw [strs_map ns]
theorem bools_map : ∀ ws : List Bool, bools? (List.map DV.bl ws) = some ws
  | [] => rfl
  | n :: ns => by
    show (match bools? (List.map DV.bl ns) with | some is => some (n :: is) | none => none) = _
    rw [bools_map ns]
def ckI : Nat → List Nat → List Int
  | _, [] => []
  | k, c :: r => (k : Int) * (c : Int) :: ckI (k + 1) r
theorem ckI_sum : ∀ (l : List Nat) (k : Nat), (ckI k l).sum = (ckN k l : Int)
  | [], _ => rfl
  | c :: r, k => by
    show (k : Int) * (c : Int) + (ckI (k + 1) r).sum = ((k * c + ckN (k + 1) r : Nat) : Int)
    rw [ckI_sum r (k + 1)]
    push_cast
    rfl
def ckG (x : DV) : Option DV := match x with
  | .tup [.int p, .str z] => some (.int (p * ((z.cps.getD 0 0 : Nat) : Int)))
  | _ => none
theorem ck_items : ∀ (l : List Nat) (k : Nat), (l.mapIdx fun i c => DV.tup [.int ((k : Int) + (i : Nat)), .str ⟨#[c]⟩]).filterMap ckG = (ckI k l).map DV.int
  | [], _ => rfl
  | c :: r, k => by
    rw [List.mapIdx_cons]
    have e : (fun (i : Nat) (c : Nat) => DV.tup [.int ((k : Int) + ((i + 1 : Nat) : Int)), .str ⟨#[c]⟩]) = fun i c => DV.tup [.int (((k + 1 : Nat) : Int) + (i : Nat)), .str ⟨#[c]⟩] := by
      funext i c
      have : (k : Int) + ((i + 1 : Nat) : Int) = ((k + 1 : Nat) : Int) + (i : Nat) := by omega
      rw [this]
    rw [e, List.filterMap_cons, ck_items r (k + 1)]
    show DV.int (((k : Int) + ((0 : Nat) : Int)) * (c : Int)) :: _ = _
    rw [show (k : Int) + ((0 : Nat) : Int) = k by omega]
    rfl
theorem map_mapIdx {α β γ : Type} {f : α → β} : ∀ {l : List α} {g : Nat → β → γ}, (l.map f).mapIdx g = l.mapIdx fun i x => g i (f x)
  | [], _ => rfl
  | a :: l, g => by
    rw [List.map_cons, List.mapIdx_cons, List.mapIdx_cons, map_mapIdx]
theorem ck_mem {l : List Nat} {x : DV} (h : x ∈ l.mapIdx fun i c => DV.tup [.int (1 + (i : Nat)), .str ⟨#[c]⟩]) : ∃ (p : Int) (c : Nat), x = .tup [.int p, .str ⟨#[c]⟩] ∧ c ∈ l := by
  rw [List.mem_mapIdx] at h
  obtain ⟨i, hi, rfl⟩ := h
  exact ⟨_, _, rfl, List.getElem_mem hi⟩
theorem sum_ref {r : Nat} {ns : List Int} (h : cellL s r = some (List.map DV.int ns)) : biV .sum [.ref r] s = .ok (.int ns.sum) s := by
  simp only [biV, h, optR, ints_map]
theorem ord_one {c : Nat} : biV .ord [.str ⟨#[c]⟩] s = .ok (.int (c : Nat)) s := by
  simp only [biV]
  rw [if_pos (show Str.length ⟨#[c]⟩ = 1 from rfl)]
  rfl
theorem check_ok {z : Str} (hz : z.length ≤ sizeLine) (ha : ∀ c ∈ tl z, c < 1114112) : ∃ t, callAt Dt Gt subt (k + 1) 2 [.str z] s = .ok (.int (chk (tl z))) (s ++ [t]) := by
  have hi : evI (callAt Dt Gt subt k) Gt subt (.enumK (.slot 0) (.k (.int 1))) [some (.str z), none, none] s = .ok (.free, (tl z).mapIdx fun i c => DV.tup [.int (1 + (i : Nat)), .str ⟨#[c]⟩]) s := by
    simp -implicitDefEqProofs -dsimp only [↓bind_K, ↓out_K, ↓then_K, ↓optR_K, ↓cond_K, ↓forL_K, ↓lcL_K, ↓whileL_K, ↓catch_K, ↓catchK_nx, ↓catchK_rt, ↓catchK_exc, unset_rt, hush_rt, hush_nx, hush_ct, fin_exc, ↓bindK_ok, ↓outK_ok, ↓bindK_exc, ↓outK_exc, ↓thenK_nx, ↓thenK_rt, ↓thenK_exc, ↓thenK_bk, ↓thenK_ct, ↓optRK_some, ↓quiet_ok, ↓condK_t, ↓condK_f, ↓truth_bl, qE_slot, qE_isx, qE_k, qE_glob, qE_bin, qE_neg, qE_not, qE_and, qE_or, qE_cmp, qE_chain, qE_ife, qE_ix, qE_slc, qE_rev, qE_tup, qE_lst, qE_call, qE_bi, qE_isi, qE_meth, qE_lc, qE_smeth, qE_get2, qE_setd, qE_dnew, qEs_nil, qEs_cons, qAll_nil, qAll_cons, qO_no, qO_some, qI_seq, qI_range1, qI_range2, qI_range3, qI_zip, qI_enum, qI_enumK, qI_rev, qT_name, qT_tup, qT_sub, qTs_nil, qTs_cons, qS_asg, qS_par, qS_aug, qS_ife, qS_for, qS_forD, qS_while, qS_ret, qS_retN, qS_drop, qS_pass, qS_brk, qS_cont, qS_raise, qS_try, qS_pick, qSs_nil, qSs_cons, dv_int, dv_bl, dv_str, dv_non, List.getElem?_cons_zero, List.getElem?_cons_succ, List.set_cons_zero, List.set_cons_succ, List.length_cons, List.length_nil, Nat.reduceAdd, Nat.reduceLT, if_true, fin_rt, fin_nx, at_0, at_1, at_2, at_3, itemV_ref, itemV_tup, cmp_eq_int, cmp_ne_int, cmp_lt_int, cmp_le_int, cmp_gt_int, cmp_ge_int, bin_add, bin_sub, bi_int_int]
    rw [if_pos (by decide), map_mapIdx]
  have key := lc_run (call := callAt Dt Gt subt k) (G := Gt) (sub := subt) (t := .tup (.cons (.name 1) (.cons (.name 2) (.nil)))) (ifs := .nil) (e := .bin .mul (.slot 1) (.bi .ord (.cons (.slot 2) (.nil)))) (own := [1, 2]) ckG hi (fun _ => free_ok) (fun x hx acc => by
      obtain ⟨p, c, rfl, hc⟩ := ck_mem hx
      have hm : ∀ s, binV .mul (.int p) (.int (c : Nat)) s = .ok (.int (p * (c : Nat))) s := fun s => bin_mul (mulOk_r (by have := ha c hc; omega))
      simp -implicitDefEqProofs -dsimp only [↓bind_K, ↓out_K, ↓then_K, ↓optR_K, ↓cond_K, ↓forL_K, ↓lcL_K, ↓whileL_K, ↓catch_K, ↓catchK_nx, ↓catchK_rt, ↓catchK_exc, unset_rt, hush_rt, hush_nx, hush_ct, fin_exc, ↓bindK_ok, ↓outK_ok, ↓bindK_exc, ↓outK_exc, ↓thenK_nx, ↓thenK_rt, ↓thenK_exc, ↓thenK_bk, ↓thenK_ct, ↓optRK_some, ↓quiet_ok, ↓condK_t, ↓condK_f, ↓truth_bl, qE_slot, qE_isx, qE_k, qE_glob, qE_bin, qE_neg, qE_not, qE_and, qE_or, qE_cmp, qE_chain, qE_ife, qE_ix, qE_slc, qE_rev, qE_tup, qE_lst, qE_call, qE_bi, qE_isi, qE_meth, qE_lc, qE_smeth, qE_get2, qE_setd, qE_dnew, qEs_nil, qEs_cons, qAll_nil, qAll_cons, qO_no, qO_some, qI_seq, qI_range1, qI_range2, qI_range3, qI_zip, qI_enum, qI_enumK, qI_rev, qT_name, qT_tup, qT_sub, qTs_nil, qTs_cons, qS_asg, qS_par, qS_aug, qS_ife, qS_for, qS_forD, qS_while, qS_ret, qS_retN, qS_drop, qS_pass, qS_brk, qS_cont, qS_raise, qS_try, qS_pick, qSs_nil, qSs_cons, dv_int, dv_bl, dv_str, dv_non, List.getElem?_cons_zero, List.getElem?_cons_succ, List.set_cons_zero, List.set_cons_succ, List.length_cons, List.length_nil, Nat.reduceAdd, Nat.reduceLT, if_true, fin_rt, fin_nx, at_0, at_1, at_2, at_3, itemV_ref, itemV_tup, cmp_eq_int, cmp_ne_int, cmp_lt_int, cmp_le_int, cmp_gt_int, cmp_ge_int, bin_add, bin_sub, bi_int_int, wipe, ord_one, hm]
      rfl) (by rw [List.length_mapIdx, ← len_tl]; exact hz)
  have e1 := ck_items (tl z) 1
  have e2 : (List.filterMap ckG ((tl z).mapIdx fun i c => DV.tup [.int (1 + (i : Nat)), .str ⟨#[c]⟩])) = (ckI 1 (tl z)).map DV.int := e1
  rw [e2] at key
  have sm := sum_ref (s := s ++ [.lst ((ckI 1 (tl z)).map DV.int)]) (cell_snoc (s := s) (xs := (ckI 1 (tl z)).map DV.int))
  rw [ckI_sum] at sm
  refine ⟨.lst ((ckI 1 (tl z)).map DV.int), ?_⟩
  simp -implicitDefEqProofs -dsimp only [↓bind_K, ↓out_K, ↓then_K, ↓optR_K, ↓cond_K, ↓forL_K, ↓lcL_K, ↓whileL_K, ↓catch_K, ↓catchK_nx, ↓catchK_rt, ↓catchK_exc, unset_rt, hush_rt, hush_nx, hush_ct, fin_exc, ↓bindK_ok, ↓outK_ok, ↓bindK_exc, ↓outK_exc, ↓thenK_nx, ↓thenK_rt, ↓thenK_exc, ↓thenK_bk, ↓thenK_ct, ↓optRK_some, ↓quiet_ok, ↓condK_t, ↓condK_f, ↓truth_bl, qE_slot, qE_isx, qE_k, qE_glob, qE_bin, qE_neg, qE_not, qE_and, qE_or, qE_cmp, qE_chain, qE_ife, qE_ix, qE_slc, qE_rev, qE_tup, qE_lst, qE_call, qE_bi, qE_isi, qE_meth, qE_lc, qE_smeth, qE_get2, qE_setd, qE_dnew, qEs_nil, qEs_cons, qAll_nil, qAll_cons, qO_no, qO_some, qI_seq, qI_range1, qI_range2, qI_range3, qI_zip, qI_enum, qI_enumK, qI_rev, qT_name, qT_tup, qT_sub, qTs_nil, qTs_cons, qS_asg, qS_par, qS_aug, qS_ife, qS_for, qS_forD, qS_while, qS_ret, qS_retN, qS_drop, qS_pass, qS_brk, qS_cont, qS_raise, qS_try, qS_pick, qSs_nil, qSs_cons, dv_int, dv_bl, dv_str, dv_non, List.getElem?_cons_zero, List.getElem?_cons_succ, List.set_cons_zero, List.set_cons_succ, List.length_cons, List.length_nil, Nat.reduceAdd, Nat.reduceLT, if_true, fin_rt, fin_nx, at_0, at_1, at_2, at_3, itemV_ref, itemV_tup, cmp_eq_int, cmp_ne_int, cmp_lt_int, cmp_le_int, cmp_gt_int, cmp_ge_int, bin_add, bin_sub, bi_int_int, call_2, b2, ↓key, sm, gt1, bin_mod (show (0 : Int) < 65521 by decide)]
  have : (ckN 1 (tl z) : Int) % 65521 = (chk (tl z) : Nat) := by unfold chk; omega
  rw [this]
end
section
variable {k : Nat} {s : Store}
/-- nothing that stood is changed -/
def Ext (s s' : Store) : Prop := s.length ≤ s'.length ∧ ∀ n, n < s.length → s'[n]? = s[n]?
theorem Ext.refl : Ext s s := ⟨Nat.le_refl _, fun _ _ => rfl⟩
theorem Ext.trans {s1 s2 : Store} (h : Ext s s1) (h2 : Ext s1 s2) : Ext s s2 := ⟨Nat.le_trans h.1 h2.1, fun n hn => (h2.2 n (Nat.lt_of_lt_of_le hn h.1)).trans (h.2 n hn)⟩
theorem Ext.app {t : Store} : Ext s (s ++ t) := ⟨by rw [List.length_append]; omega, fun n hn => List.getElem?_append_left hn⟩
theorem Ext.put {s1 : Store} (h : Ext s s1) {p : Nat} {c : Cell} (hp : s.length ≤ p) : Ext s (s1.set p c) := ⟨by rw [List.length_set]; exact h.1, fun n hn => (get_set_ne (by omega)).trans (h.2 n hn)⟩
theorem Ext.get {s1 : Store} (h : Ext s s1) {n : Nat} {c : Cell} (hn : s[n]? = some c) : s1[n]? = some c := (h.2 n (lt_of_get hn)).trans hn
theorem lt_of_cell {n : Nat} {xs : List DV} (h : cellL s n = some xs) : n < s.length := by
  unfold cellL at h
  cases e : s[n]? with
  | none => rw [e] at h; cases h
  | some c => exact lt_of_get e
theorem Ext.cell {s1 : Store} (h : Ext s s1) {n : Nat} {xs : List DV} (hn : cellL s n = some xs) : cellL s1 n = some xs := by
  have hl := lt_of_cell hn
  unfold cellL at hn ⊢
  rw [h.2 n hl]
  exact hn
theorem Ext.kp {s1 : Store} (h : Ext s s1) (d : Nat) : Kp d s s1 := ⟨h.1, fun n hn _ => h.2 n hn⟩
theorem Ext.dr {s1 : Store} {d : Nat} (h : Ext s s1) (D : Dr s d) : Dr s1 d := D.keep fun n hn => h.2 n (by
  obtain ⟨l, ns, i, cur, seed, hd, -⟩ := D
  have := lt_of_get hd
  omega)
/-- texts of this law -/
structure Tx (z : Str) : Prop where
  as : ∀ c ∈ tl z, c < 128
  ln : z.length ≤ 60000
theorem Tx.ok {z : Str} (h : Tx z) : PyData.strOk z = true := strOk_tl.mpr fun c hc => Nat.lt_trans (h.as c hc) (by decide)
theorem Tx.sz {z : Str} (h : Tx z) : z.length ≤ sizeLine := Nat.le_trans h.ln (by decide)
theorem Tx.uni {z : Str} (h : Tx z) : ∀ c ∈ tl z, c < 1114112 := fun c hc => Nat.lt_trans (h.as c hc) (by decide)
theorem tl_len {z : Str} : z.length = (tl z).length := len_tl z
theorem sp_tl : tl (" " : Str) = [32] := by decide +kernel
theorem at_2l {α : Type} {A : List α} {u v : α} : L2.atI (A ++ [u, v]) (-2) = some u ∧ L2.atI (A ++ [u, v]) (-1) = some v := by
  have hl : (A ++ [u, v]).length = A.length + 2 := by rw [List.length_append]; rfl
  have e1 : L2.ixN (A.length + 2) (-2) = some A.length := by
    unfold L2.ixN
    rw [if_neg (by decide), if_pos (by omega)]
    congr 1
    omega
  have e2 : L2.ixN (A.length + 2) (-1) = some (A.length + 1) := by
    unfold L2.ixN
    rw [if_neg (by decide), if_pos (by omega)]
    congr 1
    omega
  unfold L2.atI
  rw [hl, e1, e2]
  constructor
  · show (A ++ [u, v])[A.length]? = some u
    rw [List.getElem?_append_right (Nat.le_refl _), Nat.sub_self]
    rfl
  · show (A ++ [u, v])[A.length + 1]? = some v
    rw [List.getElem?_append_right (by omega), Nat.add_sub_cancel_left]
    rfl
theorem sIx_2 {n d : Nat} : HT.sIx (n + 2) d (some (-2)) = n := by
  show (if (-2 : Int) < 0 then ((-2 : Int) + ((n + 2 : Nat) : Int)).toNat else min (-2 : Int).toNat (n + 2)) = n
  rw [if_pos (by decide)]
  omega
theorem cut_2l {α : Type} {A : List α} {u v : α} : cut (A ++ [u, v]) none (some (-2)) = A := by
  have hl : (A ++ [u, v]).length = A.length + 2 := by rw [List.length_append]; rfl
  unfold cut
  rw [HT.sIx_none, hl]
  rw [sIx_2, List.drop_zero, Nat.sub_zero, List.take_left]
theorem cut_22 {α : Type} {A : List α} {u v : α} : cut (A ++ [u, v]) (some 2) (some (-2)) = A.drop 2 := by
  have hl : (A ++ [u, v]).length = A.length + 2 := by rw [List.length_append]; rfl
  unfold cut
  have e2 : HT.sIx (A.length + 2) 0 (some 2) = 2 := by
    have := HT.sIx_nat (A.length + 2) 0 2
    rw [Nat.min_eq_left (by omega)] at this
    exact this
  rw [hl, sIx_2, e2]
  by_cases h : 2 ≤ A.length
  · rw [List.drop_append_of_le_length h, List.take_append_of_le_length (by rw [List.length_drop]; exact Nat.le_refl _)]
    exact List.take_of_length_le (by rw [List.length_drop]; exact Nat.le_refl _)
  · rw [show A.length - 2 = 0 by omega, List.take_zero, List.drop_eq_nil_of_le (by omega)]
theorem cut_nat {α : Type} {L : List α} {a b : Nat} (h : a ≤ b) : cut L (some (a : Int)) (some (b : Int)) = (L.drop a).take (b - a) := by
  unfold cut
  rw [HT.sIx_nat, HT.sIx_nat]
  by_cases h1 : a ≤ L.length
  · rw [Nat.min_eq_left h1]
    by_cases h2 : b ≤ L.length
    · rw [Nat.min_eq_left h2]
    · rw [Nat.min_eq_right (by omega), List.take_of_length_le (by rw [List.length_drop]; exact Nat.le_refl _), List.take_of_length_le (by rw [List.length_drop]; omega)]
  · rw [Nat.min_eq_right (by omega), Nat.min_eq_right (by omega), List.drop_eq_nil_of_le (Nat.le_refl _), List.drop_eq_nil_of_le (by omega), List.take_nil, List.take_nil]
theorem cut_map {α β : Type} {f : α → β} {L : List α} {lo hi : Option Int} : cut (L.map f) lo hi = (cut L lo hi).map f := by
  unfold cut
  rw [List.length_map, ← List.map_drop, ← List.map_take]
theorem slice_ref {q : Nat} {xs : List DV} {lo hi : Option Int} (h : cellL s q = some xs) : sliceV (.ref q) lo hi s = .ok (.ref s.length) (s ++ [.lst (cut xs lo hi)]) := by
  simp only [sliceV, h]
theorem join_ok {p : Nat} {ts : List Str} (h : cellL s p = some (ts.map DV.str)) (hl : (ts.map (·.length)).sum + ts.length ≤ 16777216) : smV .join " " [.ref p] s = .ok (.str (PySem.Txt.join " " ts)) s := by
  have e : (" " : Str).length = 1 := by decide +kernel
  simp only [smV, h, optR, strs_map]
  rw [if_pos (by rw [e]; omega)]
theorem tl_joinT {ts : List Str} : tl (PySem.Txt.join " " ts) = joinL [32] (ts.map tl) := by
  rw [join_eq, tl_join, sp_tl]
theorem join_sum : ∀ ps : List (List Nat), (ps.map List.length).sum ≤ (joinL [32] ps).length ∧ (ps.map List.length).sum + ps.length ≤ (joinL [32] ps).length + 1
  | [] => ⟨Nat.le_refl _, by decide⟩
  | [p] => by
    show p.length + 0 ≤ p.length ∧ p.length + 0 + 1 ≤ p.length + 1
    omega
  | p :: q :: r => by
    have ih := join_sum (q :: r)
    rw [joinL_cons (by simp), List.length_append, List.length_append, List.map_cons, List.sum_cons, List.length_cons (as := q :: r)]
    simp only [List.length_singleton]
    omega
theorem join_mem : ∀ {ps : List (List Nat)} {p : List Nat}, p ∈ ps → ∀ c ∈ p, c ∈ joinL [32] ps
  | [], _, h, _, _ => by cases h
  | [p], _, h, c, hc => by
    rcases List.mem_singleton.mp h with rfl
    exact hc
  | p :: q :: r, x, h, c, hc => by
    rw [joinL_cons (by simp)]
    rcases List.mem_cons.mp h with rfl | h
    · exact List.mem_append_left _ hc
    · exact List.mem_append_right _ (List.mem_append_right _ (join_mem h c hc))
theorem mem_join : ∀ {ps : List (List Nat)} {c : Nat}, c ∈ joinL [32] ps → c = 32 ∨ ∃ p ∈ ps, c ∈ p
  | [], _, h => by cases h
  | [p], c, h => .inr ⟨p, List.mem_singleton.mpr rfl, h⟩
  | p :: q :: r, c, h => by
    rw [joinL_cons (by simp)] at h
    rcases List.mem_append.mp h with h | h
    · exact .inr ⟨p, List.mem_cons_self, h⟩
    rcases List.mem_append.mp h with h | h
    · exact .inl (List.mem_singleton.mp h)
    rcases mem_join h with h | ⟨x, hx, hc⟩
    · exact .inl h
    · exact .inr ⟨x, List.mem_cons_of_mem _ hx, hc⟩
theorem sum_tl : ∀ ts : List Str, (ts.map (·.length)).sum = ((ts.map tl).map List.length).sum
  | [] => rfl
  | t :: ts => by
    rw [List.map_cons, List.map_cons, List.map_cons, List.sum_cons, List.sum_cons, sum_tl ts, len_tl]
theorem le_sum : ∀ {ts : List Nat} {t : Nat}, t ∈ ts → t ≤ ts.sum
  | [], _, h => by cases h
  | x :: ts, t, h => by
    rw [List.sum_cons]
    rcases List.mem_cons.mp h with rfl | h
    · omega
    · have := le_sum h
      omega
/-- words of a text -/
structure Wx (ws : List Str) : Prop where
  tx : ∀ w ∈ ws, Tx w
  sm : (ws.map (·.length)).sum + ws.length ≤ 60001
theorem Wx.len {ws : List Str} (h : Wx ws) : ws.length ≤ 60001 := by have := h.sm; omega
theorem wx_of {l : List Nat} {ws : List Str} (ha : ∀ c ∈ l, c < 128) (hl : l.length ≤ 60000) (h : ws.map tl = wds l) : Wx ws := by
  obtain ⟨-, -, h3⟩ := wds_ok l
  rw [← h] at h3
  have hs := join_sum (ws.map tl)
  rw [h3, List.length_map] at hs
  have st := sum_tl ws
  refine ⟨fun w hw => ⟨fun c hc => ha c ?_, ?_⟩, by omega⟩
  · rw [← h3]
    exact join_mem (List.mem_map_of_mem hw) c hc
  · have := le_sum (List.mem_map_of_mem (f := fun w : Str => w.length) hw)
    omega
theorem split_ok {z : Str} (hz : Tx z) : ∃ ws : List Str, ws.map tl = wds (tl z) ∧ Wx ws ∧ ∀ s, smV .split z [.str " "] s = .ok (.ref s.length) (s ++ [.lst (ws.map DV.str)]) := by
  have h1 := PyProof.Rows.split_le z " "
  have hl := hz.ln
  have h2 : (60010 : Nat) ≤ sizeLine := by decide
  have hm : (PySem.Txt.split z " ").map tl = wds (tl z) := by
    rw [split_spl z " " (by rw [sp_tl]; simp) (kind_ok (by decide +kernel)), sp_tl]
    rfl
  refine ⟨PySem.Txt.split z " ", hm, wx_of hz.as (by rw [← len_tl]; exact hl) hm, fun s => ?_⟩
  simp only [smV]
  rw [if_pos ⟨by decide +kernel, by omega, by omega⟩]
theorem tls (i : Int) : tl (toString i : String) = strI i := tl_int i
theorem strI_nat (n : Nat) : strI (n : Int) = numL n := by
  unfold strI
  rw [if_neg (by omega), Int.natAbs_natCast]
theorem num_tx {n : Nat} (h : n < 100000) : Tx ((toString (n : Int) : String) : Str) := by
  refine ⟨fun c hc => ?_, ?_⟩
  · rw [tls, strI_nat] at hc
    have := numL_digits n c hc
    omega
  · rw [tl_len, tls, strI_nat]
    have := numL_len (n := n) (k := 5) (by decide) h
    omega
theorem str_nat {n : Nat} (h : n < 100000) : biV .str [.int n] s = .ok (.str (toString (n : Int))) s := by
  simp only [biV]
  rw [if_pos (by
    rw [Int.natAbs_natCast]
    have := log2_lt (n := n) (m := 20) (Nat.lt_of_lt_of_le h (by decide)) (by decide)
    omega)]
theorem step_tl : tl ("step" : Str) = STEP := by decide +kernel
theorem chec_tl : tl ("check" : Str) = CHECK := by decide +kernel
theorem semi_tl : tl (";" : Str) = [59] := by decide +kernel
theorem step_ok : PyData.strOk "step" = true := by decide +kernel
theorem chec_ok : PyData.strOk "check" = true := by decide +kernel
theorem semi_ok : PyData.strOk ";" = true := by decide +kernel
theorem endL_app {A : List (List Nat)} {u v : List Nat} (h : 2 ≤ A.length) : endL (A ++ [u, v]) = (decide (A.getD 0 [] = STEP) && decide (u = CHECK) && decide (v = numL (chk (joinL [32] A)))) := by
  have hl : (A ++ [u, v]).length = A.length + 2 := by rw [List.length_append]; rfl
  unfold endL
  rw [hl, Nat.add_sub_cancel, List.take_left, decide_eq_true (show 4 ≤ A.length + 2 by omega), Bool.true_and]
  have g0 : (A ++ [u, v]).getD 0 [] = A.getD 0 [] := by
    rw [List.getD_eq_getElem?_getD, List.getD_eq_getElem?_getD, List.getElem?_append_left (by omega)]
  have g1 : (A ++ [u, v]).getD A.length [] = u := by
    rw [List.getD_eq_getElem?_getD, List.getElem?_append_right (Nat.le_refl _), Nat.sub_self]
    rfl
  have g2 : (A ++ [u, v]).getD (A.length + 2 - 1) [] = v := by
    rw [List.getD_eq_getElem?_getD, List.getElem?_append_right (by omega), show A.length + 2 - 1 - A.length = 1 by omega]
    rfl
  rw [g0, g1, g2]
theorem two_last {α : Type} {l : List α} (h : 2 ≤ l.length) : ∃ A u v, l = A ++ [u, v] := by
  refine ⟨l.take (l.length - 2), l[l.length - 2]'(by omega), l[l.length - 2 + 1]'(by omega), ?_⟩
  have e1 := List.drop_eq_getElem_cons (l := l) (i := l.length - 2) (by omega)
  have e2 := List.drop_eq_getElem_cons (l := l) (i := l.length - 2 + 1) (by omega)
  rw [List.drop_eq_nil_of_le (i := l.length - 2 + 1 + 1) (by omega)] at e2
  rw [e2] at e1
  rw [← e1, List.take_append_drop]
theorem ending_ok {z : Str} {q : Nat} {ws : List Str} (hc : cellL s q = some (ws.map DV.str)) (hw : Wx ws) : ∃ s', Ext s s' ∧ callAt Dt Gt subt (k + 2) 5 [.str z, .ref q] s = if endL (ws.map tl) = true then .ok .non s' else .exc 1 s' := by
  have ln : biV .len [.ref q] s = .ok (.int ws.length) s := by rw [len_ref hc, List.length_map]
  by_cases h4 : (ws.length : Int) < 4
  · have l4 := decide_eq_true h4
    have : ¬ endL (ws.map tl) = true := fun h => by
      obtain ⟨A, h2, hA⟩ := endL_iff h
      have := congrArg List.length hA
      rw [List.length_map, List.length_append] at this
      simp only [List.length_cons, List.length_nil] at this
      omega
    refine ⟨s, Ext.refl, ?_⟩
    rw [if_neg this]
    simp -implicitDefEqProofs -dsimp only [↓bind_K, ↓out_K, ↓then_K, ↓optR_K, ↓cond_K, ↓forL_K, ↓lcL_K, ↓whileL_K, ↓catch_K, ↓catchK_nx, ↓catchK_rt, ↓catchK_exc, unset_rt, hush_rt, hush_nx, hush_ct, fin_exc, ↓bindK_ok, ↓outK_ok, ↓bindK_exc, ↓outK_exc, ↓thenK_nx, ↓thenK_rt, ↓thenK_exc, ↓thenK_bk, ↓thenK_ct, ↓optRK_some, ↓quiet_ok, ↓condK_t, ↓condK_f, ↓truth_bl, qE_slot, qE_isx, qE_k, qE_glob, qE_bin, qE_neg, qE_not, qE_and, qE_or, qE_cmp, qE_chain, qE_ife, qE_ix, qE_slc, qE_rev, qE_tup, qE_lst, qE_call, qE_bi, qE_isi, qE_meth, qE_lc, qE_smeth, qE_get2, qE_setd, qE_dnew, qEs_nil, qEs_cons, qAll_nil, qAll_cons, qO_no, qO_some, qI_seq, qI_range1, qI_range2, qI_range3, qI_zip, qI_enum, qI_enumK, qI_rev, qT_name, qT_tup, qT_sub, qTs_nil, qTs_cons, qS_asg, qS_par, qS_aug, qS_ife, qS_for, qS_forD, qS_while, qS_ret, qS_retN, qS_drop, qS_pass, qS_brk, qS_cont, qS_raise, qS_try, qS_pick, qSs_nil, qSs_cons, dv_int, dv_bl, dv_str, dv_non, List.getElem?_cons_zero, List.getElem?_cons_succ, List.set_cons_zero, List.set_cons_succ, List.length_cons, List.length_nil, Nat.reduceAdd, Nat.reduceLT, if_true, fin_rt, fin_nx, at_0, at_1, at_2, at_3, itemV_ref, itemV_tup, cmp_eq_int, cmp_ne_int, cmp_lt_int, cmp_le_int, cmp_gt_int, cmp_ge_int, bin_add, bin_sub, bi_int_int, call_5, b5, ln, l4, fin_exc]
  · have l4 := decide_eq_false h4
    obtain ⟨A, u, v, rfl⟩ := two_last (l := ws) (by omega)
    have hlA : 2 ≤ A.length := by
      rw [List.length_append] at h4
      simp only [List.length_cons, List.length_nil] at h4
      omega
    obtain ⟨a, A', rfl⟩ : ∃ a A', A = a :: A' := by
      cases A with
      | nil => simp at hlA
      | cons a A' => exact ⟨a, A', rfl⟩
    have ta := hw.tx a (by simp)
    have tu := hw.tx u (by simp)
    have tv := hw.tx v (by simp)
    have hmap : ((a :: A') ++ [u, v]).map DV.str = (a :: A').map DV.str ++ [DV.str u, DV.str v] := by rw [List.map_append]; rfl
    have hmt : ((a :: A') ++ [u, v]).map tl = (a :: A').map tl ++ [tl u, tl v] := by rw [List.map_append]; rfl
    rw [hmap] at hc
    have i0 : ∀ s', cellL s' q = cellL s q → itemV (.ref q) (.int 0) s' = .ok (.str a) s' := fun s' h => item_ref (h.trans hc) at_0
    have i2 : itemV (.ref q) (.int (-2)) s = .ok (.str u) s := item_ref hc at_2l.1
    have i1 : itemV (.ref q) (.int (-1)) s = .ok (.str v) s := item_ref hc at_2l.2
    have i0 := i0 s rfl
    have n0 := ne_str (s := s) ta.ok step_ok
    have n2 := ne_str (s := s) tu.ok chec_ok
    rw [eq_lit step_tl] at n0
    rw [eq_lit chec_tl] at n2
    rw [hmt, endL_app (by rw [List.length_map]; exact hlA)]
    have g0 : ((a :: A').map tl).getD 0 [] = tl a := rfl
    rw [g0]
    by_cases h0 : tl a = STEP
    · rw [decide_eq_true h0] at n0 ⊢
      by_cases h2 : tl u = CHECK
      · rw [decide_eq_true h2] at n2 ⊢
        have sl := slice_ref (lo := none) (hi := some (-2)) hc
        rw [cut_2l] at sl
        have wA : (((a :: A').map (·.length)).sum + (a :: A').length ≤ 60001) := by
          have := hw.sm
          rw [List.map_append, List.sum_append, List.length_append] at this
          omega
        have jo := join_ok (s := s ++ [.lst ((a :: A').map DV.str)]) (p := s.length) (ts := a :: A') cell_snoc (by omega)
        have tj : Tx (PySem.Txt.join " " (a :: A')) := by
          refine ⟨fun c hc => ?_, ?_⟩
          · rw [tl_joinT] at hc
            rcases mem_join hc with rfl | ⟨p, hp, hc⟩
            · decide
            · obtain ⟨w, hw2, rfl⟩ := List.mem_map.mp hp
              exact (hw.tx w (List.mem_append_left _ hw2)).as c hc
          · rw [tl_len, tl_joinT]
            have hj : ∀ ps : List (List Nat), ps ≠ [] → (joinL [32] ps).length + 1 = (ps.map List.length).sum + ps.length := by
              intro ps
              induction ps with
              | nil => intro h; exact absurd rfl h
              | cons p r ih =>
                intro _
                cases r with
                | nil => show p.length + 1 = p.length + 0 + 1; omega
                | cons q r =>
                  have := ih (by simp)
                  rw [joinL_cons (by simp), List.length_append, List.length_append, List.map_cons, List.sum_cons, List.length_cons (as := q :: r)]
                  simp only [List.length_singleton]
                  omega
            have := hj ((a :: A').map tl) (by simp)
            rw [List.length_map, ← sum_tl] at this
            omega
        obtain ⟨t, ck⟩ := check_ok (k := k) (s := s ++ [.lst ((a :: A').map DV.str)]) tj.sz tj.uni
        rw [tl_joinT] at ck
        have hlt := chk_lt (joinL [32] ((a :: A').map tl))
        have st := fun s => str_nat (s := s) hlt
        have n1 := fun s => ne_str (s := s) tv.ok (num_tx hlt).ok
        rw [eq_lit (tls _), strI_nat] at n1
        refine ⟨s ++ [.lst ((a :: A').map DV.str)] ++ [t], Ext.app.trans Ext.app, ?_⟩
        by_cases h1 : tl v = numL (chk (joinL [32] ((a :: A').map tl)))
        · rw [decide_eq_true h1] at n1 ⊢
          rw [if_pos (show (true && true && true) = true from rfl)]
          simp -implicitDefEqProofs -dsimp only [↓bind_K, ↓out_K, ↓then_K, ↓optR_K, ↓cond_K, ↓forL_K, ↓lcL_K, ↓whileL_K, ↓catch_K, ↓catchK_nx, ↓catchK_rt, ↓catchK_exc, unset_rt, hush_rt, hush_nx, hush_ct, fin_exc, ↓bindK_ok, ↓outK_ok, ↓bindK_exc, ↓outK_exc, ↓thenK_nx, ↓thenK_rt, ↓thenK_exc, ↓thenK_bk, ↓thenK_ct, ↓optRK_some, ↓quiet_ok, ↓condK_t, ↓condK_f, ↓truth_bl, qE_slot, qE_isx, qE_k, qE_glob, qE_bin, qE_neg, qE_not, qE_and, qE_or, qE_cmp, qE_chain, qE_ife, qE_ix, qE_slc, qE_rev, qE_tup, qE_lst, qE_call, qE_bi, qE_isi, qE_meth, qE_lc, qE_smeth, qE_get2, qE_setd, qE_dnew, qEs_nil, qEs_cons, qAll_nil, qAll_cons, qO_no, qO_some, qI_seq, qI_range1, qI_range2, qI_range3, qI_zip, qI_enum, qI_enumK, qI_rev, qT_name, qT_tup, qT_sub, qTs_nil, qTs_cons, qS_asg, qS_par, qS_aug, qS_ife, qS_for, qS_forD, qS_while, qS_ret, qS_retN, qS_drop, qS_pass, qS_brk, qS_cont, qS_raise, qS_try, qS_pick, qSs_nil, qSs_cons, dv_int, dv_bl, dv_str, dv_non, List.getElem?_cons_zero, List.getElem?_cons_succ, List.set_cons_zero, List.set_cons_succ, List.length_cons, List.length_nil, Nat.reduceAdd, Nat.reduceLT, if_true, fin_rt, fin_nx, at_0, at_1, at_2, at_3, itemV_ref, itemV_tup, cmp_eq_int, cmp_ne_int, cmp_lt_int, cmp_le_int, cmp_gt_int, cmp_ge_int, bin_add, bin_sub, bi_int_int, call_5, b5, ln, l4, i0, i2, i1, n0, n2, n1, gt2, gt3, Bool.not_true, sl, jo, ck, st]
        · rw [decide_eq_false h1] at n1 ⊢
          rw [if_neg (by decide)]
          simp -implicitDefEqProofs -dsimp only [↓bind_K, ↓out_K, ↓then_K, ↓optR_K, ↓cond_K, ↓forL_K, ↓lcL_K, ↓whileL_K, ↓catch_K, ↓catchK_nx, ↓catchK_rt, ↓catchK_exc, unset_rt, hush_rt, hush_nx, hush_ct, fin_exc, ↓bindK_ok, ↓outK_ok, ↓bindK_exc, ↓outK_exc, ↓thenK_nx, ↓thenK_rt, ↓thenK_exc, ↓thenK_bk, ↓thenK_ct, ↓optRK_some, ↓quiet_ok, ↓condK_t, ↓condK_f, ↓truth_bl, qE_slot, qE_isx, qE_k, qE_glob, qE_bin, qE_neg, qE_not, qE_and, qE_or, qE_cmp, qE_chain, qE_ife, qE_ix, qE_slc, qE_rev, qE_tup, qE_lst, qE_call, qE_bi, qE_isi, qE_meth, qE_lc, qE_smeth, qE_get2, qE_setd, qE_dnew, qEs_nil, qEs_cons, qAll_nil, qAll_cons, qO_no, qO_some, qI_seq, qI_range1, qI_range2, qI_range3, qI_zip, qI_enum, qI_enumK, qI_rev, qT_name, qT_tup, qT_sub, qTs_nil, qTs_cons, qS_asg, qS_par, qS_aug, qS_ife, qS_for, qS_forD, qS_while, qS_ret, qS_retN, qS_drop, qS_pass, qS_brk, qS_cont, qS_raise, qS_try, qS_pick, qSs_nil, qSs_cons, dv_int, dv_bl, dv_str, dv_non, List.getElem?_cons_zero, List.getElem?_cons_succ, List.set_cons_zero, List.set_cons_succ, List.length_cons, List.length_nil, Nat.reduceAdd, Nat.reduceLT, if_true, fin_rt, fin_nx, at_0, at_1, at_2, at_3, itemV_ref, itemV_tup, cmp_eq_int, cmp_ne_int, cmp_lt_int, cmp_le_int, cmp_gt_int, cmp_ge_int, bin_add, bin_sub, bi_int_int, call_5, b5, ln, l4, i0, i2, i1, n0, n2, n1, gt2, gt3, Bool.not_true, Bool.not_false, sl, jo, ck, st, fin_exc]
      · rw [decide_eq_false h2] at n2 ⊢
        refine ⟨s, Ext.refl, ?_⟩
        rw [Bool.and_false, Bool.false_and, if_neg (by decide)]
        simp -implicitDefEqProofs -dsimp only [↓bind_K, ↓out_K, ↓then_K, ↓optR_K, ↓cond_K, ↓forL_K, ↓lcL_K, ↓whileL_K, ↓catch_K, ↓catchK_nx, ↓catchK_rt, ↓catchK_exc, unset_rt, hush_rt, hush_nx, hush_ct, fin_exc, ↓bindK_ok, ↓outK_ok, ↓bindK_exc, ↓outK_exc, ↓thenK_nx, ↓thenK_rt, ↓thenK_exc, ↓thenK_bk, ↓thenK_ct, ↓optRK_some, ↓quiet_ok, ↓condK_t, ↓condK_f, ↓truth_bl, qE_slot, qE_isx, qE_k, qE_glob, qE_bin, qE_neg, qE_not, qE_and, qE_or, qE_cmp, qE_chain, qE_ife, qE_ix, qE_slc, qE_rev, qE_tup, qE_lst, qE_call, qE_bi, qE_isi, qE_meth, qE_lc, qE_smeth, qE_get2, qE_setd, qE_dnew, qEs_nil, qEs_cons, qAll_nil, qAll_cons, qO_no, qO_some, qI_seq, qI_range1, qI_range2, qI_range3, qI_zip, qI_enum, qI_enumK, qI_rev, qT_name, qT_tup, qT_sub, qTs_nil, qTs_cons, qS_asg, qS_par, qS_aug, qS_ife, qS_for, qS_forD, qS_while, qS_ret, qS_retN, qS_drop, qS_pass, qS_brk, qS_cont, qS_raise, qS_try, qS_pick, qSs_nil, qSs_cons, dv_int, dv_bl, dv_str, dv_non, List.getElem?_cons_zero, List.getElem?_cons_succ, List.set_cons_zero, List.set_cons_succ, List.length_cons, List.length_nil, Nat.reduceAdd, Nat.reduceLT, if_true, fin_rt, fin_nx, at_0, at_1, at_2, at_3, itemV_ref, itemV_tup, cmp_eq_int, cmp_ne_int, cmp_lt_int, cmp_le_int, cmp_gt_int, cmp_ge_int, bin_add, bin_sub, bi_int_int, call_5, b5, ln, l4, i0, i2, n0, n2, gt2, gt3, Bool.not_true, Bool.not_false, fin_exc]
    · rw [decide_eq_false h0] at n0 ⊢
      refine ⟨s, Ext.refl, ?_⟩
      rw [Bool.false_and, Bool.false_and, if_neg (by decide)]
      simp -implicitDefEqProofs -dsimp only [↓bind_K, ↓out_K, ↓then_K, ↓optR_K, ↓cond_K, ↓forL_K, ↓lcL_K, ↓whileL_K, ↓catch_K, ↓catchK_nx, ↓catchK_rt, ↓catchK_exc, unset_rt, hush_rt, hush_nx, hush_ct, fin_exc, ↓bindK_ok, ↓outK_ok, ↓bindK_exc, ↓outK_exc, ↓thenK_nx, ↓thenK_rt, ↓thenK_exc, ↓thenK_bk, ↓thenK_ct, ↓optRK_some, ↓quiet_ok, ↓condK_t, ↓condK_f, ↓truth_bl, qE_slot, qE_isx, qE_k, qE_glob, qE_bin, qE_neg, qE_not, qE_and, qE_or, qE_cmp, qE_chain, qE_ife, qE_ix, qE_slc, qE_rev, qE_tup, qE_lst, qE_call, qE_bi, qE_isi, qE_meth, qE_lc, qE_smeth, qE_get2, qE_setd, qE_dnew, qEs_nil, qEs_cons, qAll_nil, qAll_cons, qO_no, qO_some, qI_seq, qI_range1, qI_range2, qI_range3, qI_zip, qI_enum, qI_enumK, qI_rev, qT_name, qT_tup, qT_sub, qTs_nil, qTs_cons, qS_asg, qS_par, qS_aug, qS_ife, qS_for, qS_forD, qS_while, qS_ret, qS_retN, qS_drop, qS_pass, qS_brk, qS_cont, qS_raise, qS_try, qS_pick, qSs_nil, qSs_cons, dv_int, dv_bl, dv_str, dv_non, List.getElem?_cons_zero, List.getElem?_cons_succ, List.set_cons_zero, List.set_cons_succ, List.length_cons, List.length_nil, Nat.reduceAdd, Nat.reduceLT, if_true, fin_rt, fin_nx, at_0, at_1, at_2, at_3, itemV_ref, itemV_tup, cmp_eq_int, cmp_ne_int, cmp_lt_int, cmp_le_int, cmp_gt_int, cmp_ge_int, bin_add, bin_sub, bi_int_int, call_5, b5, ln, l4, i0, n0, gt2, gt3, Bool.not_true, Bool.not_false, fin_exc]
end
section
variable {k : Nat} {s : Store}
def rowD (r : List Int) : DV := .tup (r.map DV.int)
theorem lay_str {w : Str} (h : PyData.strOk w = true) : PyData.canLay0 (.str w) = true := h
theorem ne_semi {i j : Nat} {L : List Str} (hi : cellL s i = some (L.map DV.str)) (hj : cellL s j = some [.str ";"]) (hl : L.length ≤ 1) (ho : ∀ w ∈ L, PyData.strOk w = true) :
    cmpV .ne (.ref i) (.ref j) s = .ok (!decide (L.map tl = [[59]])) s := by
  have c1 : cmpable (.ref i) = false := rfl
  show (if (cmpable (.ref i) && cmpable (.ref j)) = true then Res.ok (!deq (.ref i) (.ref j)) s else optR (lsEq (.ref i) (.ref j) s) fun b => Res.ok (!b) s) = _
  rw [c1, Bool.false_and, if_neg (by decide)]
  have key : lsEq (.ref i) (.ref j) s = some (decide (L.map tl = [[59]])) := by
    simp only [lsEq, hi, hj]
    cases L with
    | nil =>
      rw [if_pos (by
        simp [pures?, pure?, pds, pd, SeqAt.shaped, PyData.canLay0, PyData.canLayAll0, PyData.depth, PyData.depthAll, semi_ok])]
      congr 1
    | cons w r =>
      cases r with
      | cons w2 r => simp at hl
      | nil =>
        have hw := ho w List.mem_cons_self
        rw [if_pos (by
          simp [pures?, pure?, pds, pd, SeqAt.shaped, PyData.canLay0, PyData.canLayAll0, PyData.depth, PyData.depthAll, semi_ok, hw])]
        congr 1
        have e := eq_lit (z := w) semi_tl
        have e2 : decide (List.map tl [w] = [[59]]) = decide (tl w = [59]) := by simp
        rw [e2, ← e]
        by_cases h : w = ";"
        · subst h
          rfl
        · rw [decide_eq_false h]
          simp [pds, pd, PyData.eqv, PyData.eqvAll, h]
  rw [key]
  rfl
theorem rdW_cons {n a : Nat} {ns : List Nat} {ws : List Str} : rdW (n :: ns) ((ws.drop a).map tl) = if ((ws.drop a).take 1).map tl = [[59]] ∧ ((ws.drop (a + 1)).take n).length = n ∧ ((ws.drop (a + 1)).take n).all (fun w => isI70 (tl w)) = true then (rdW ns ((ws.drop (a + 1 + n)).map tl)).map fun W => ((ws.drop (a + 1)).take n).map (fun w => valI (tl w)) :: W else none := by
  conv => lhs; unfold rdW
  have e1 : ((ws.drop a).map tl).drop 1 = (ws.drop (a + 1)).map tl := by rw [← List.map_drop, List.drop_drop]
  have e2 : ((ws.drop a).map tl).drop (1 + n) = (ws.drop (a + 1 + n)).map tl := by rw [← List.map_drop, List.drop_drop, Nat.add_assoc]
  rw [e1, e2, ← List.map_take, ← List.map_take, List.length_map, List.all_map, List.map_map]
  rfl
def gI70 (x : DV) : Option DV := match x with
  | .str z => some (.bl (isI70 (tl z)))
  | _ => none
def gVal (x : DV) : Option DV := match x with
  | .str z => some (.int (valI (tl z)))
  | _ => none
theorem filt_I (N : List Str) : (N.map DV.str).filterMap gI70 = (N.map fun w => isI70 (tl w)).map DV.bl := by
  induction N with
  | nil => rfl
  | cons w N ih => rw [List.map_cons, List.map_cons, List.map_cons, ← ih]; rfl
theorem filt_V (N : List Str) : (N.map DV.str).filterMap gVal = (N.map fun w => valI (tl w)).map DV.int := by
  induction N with
  | nil => rfl
  | cons w N ih => rw [List.map_cons, List.map_cons, List.map_cons, ← ih]; rfl
theorem all_ref {r : Nat} {bs : List Bool} (h : cellL s r = some (bs.map DV.bl)) : biV .all [.ref r] s = .ok (.bl (bs.all id)) s := by
  simp only [biV, h, optR, bools_map]
noncomputable abbrev B6 (k : Nat) : DV → Ip.Loc → Store → Out := fun x r s => (evT (callAt Dt Gt subt k) Gt subt (.name 4) x r s).out r fun r s => evSs (callAt Dt Gt subt k) Gt subt b6l0 r s
abbrev R6 (q p : Nat) (sz : DV) (a : Nat) (w4 w5 w6 : Option DV)   : Ip.Loc := [some (.ref q), some sz, some (.ref p), some (.int (a : Int)), w4, w5, w6]
theorem rw_turn {q p a n : Nat} {sz : DV} {ws : List Str} {acc : List (List Int)} {w4 w5 w6 : Option DV} (hq : cellL s q = some (ws.map DV.str)) (hw : Wx ws) (hp : s[p]? = some (.lst (acc.map rowD))) (hpq : p ≠ q) (hacc : acc.length ≤ 1000) (hn : n ≤ 1000) :
    ∃ s', Kp p s s' ∧ (((ws.drop a).take 1).map tl = [[59]] ∧ ((ws.drop (a + 1)).take n).length = n ∧ ((ws.drop (a + 1)).take n).all (fun w => isI70 (tl w)) = true →
      s'[p]? = some (.lst ((acc ++ [((ws.drop (a + 1)).take n).map fun w => valI (tl w)]).map rowD)) ∧ ∃ w5' w6', B6 (k + 2) (.int (n : Int)) (R6 q p sz a w4 w5 w6) s = .nx (R6 q p sz (a + 1 + n) (some (.int (n : Int))) w5' w6') s') ∧
      (¬ (((ws.drop a).take 1).map tl = [[59]] ∧ ((ws.drop (a + 1)).take n).length = n ∧ ((ws.drop (a + 1)).take n).all (fun w => isI70 (tl w)) = true) → ∃ r', B6 (k + 2) (.int (n : Int)) (R6 q p sz a w4 w5 w6) s = .exc 1 r' s') := by
  obtain ⟨N, hN⟩ : ∃ N, (ws.drop (a + 1)).take n = N := ⟨_, rfl⟩
  obtain ⟨M, hM⟩ : ∃ M, (ws.drop a).take 1 = M := ⟨_, rfl⟩
  have mN : ∀ w ∈ N, Tx w := fun w h => hw.tx w (by rw [← hN] at h; exact List.mem_of_mem_drop (List.mem_of_mem_take h))
  have mM : ∀ w ∈ M, Tx w := fun w h => hw.tx w (by rw [← hM] at h; exact List.mem_of_mem_drop (List.mem_of_mem_take h))
  have lN : N.length ≤ 1000 := by rw [← hN, List.length_take]; omega
  have lM : M.length ≤ 1 := by rw [← hM, List.length_take]; omega
  have s1 : sliceV (.ref q) (some ((a : Int) + 1)) (some ((a : Int) + 1 + (n : Int))) s = .ok (.ref s.length) (s ++ [.lst (N.map DV.str)]) := by
    rw [slice_ref hq, cut_map, show (a : Int) + 1 + (n : Int) = ((a + 1 + n : Nat) : Int) by omega, show (a : Int) + 1 = ((a + 1 : Nat) : Int) by omega, cut_nat (by omega), show a + 1 + n - (a + 1) = n by omega, hN]
  obtain ⟨σ1, h1⟩ : ∃ σ1, s ++ [.lst (N.map DV.str)] = σ1 := ⟨_, rfl⟩
  have x1 : Ext s σ1 := by rw [← h1]; exact Ext.app
  have cN : cellL σ1 s.length = some (N.map DV.str) := by rw [← h1]; exact cell_snoc
  rw [h1] at s1
  have s2 : sliceV (.ref q) (some (a : Int)) (some ((a : Int) + 1)) σ1 = .ok (.ref σ1.length) (σ1 ++ [.lst (M.map DV.str)]) := by
    rw [slice_ref (x1.cell hq), cut_map, show (a : Int) + 1 = ((a + 1 : Nat) : Int) by omega, cut_nat (by omega), show a + 1 - a = 1 by omega, hM]
  obtain ⟨σ2, h2⟩ : ∃ σ2, σ1 ++ [.lst (M.map DV.str)] = σ2 := ⟨_, rfl⟩
  have x2 : Ext σ1 σ2 := by rw [← h2]; exact Ext.app
  have cM : cellL σ2 σ1.length = some (M.map DV.str) := by rw [← h2]; exact cell_snoc
  rw [h2] at s2
  obtain ⟨σ3, h3⟩ : ∃ σ3, σ2 ++ [.lst [.str ";"]] = σ3 := ⟨_, rfl⟩
  have x3 : Ext σ2 σ3 := by rw [← h3]; exact Ext.app
  have cS : cellL σ3 σ2.length = some [.str ";"] := by rw [← h3]; exact cell_snoc
  have nm := ne_semi (x3.cell cM) cS lM fun w h => (mM w h).ok
  have cN3 := x3.cell (x2.cell cN)
  have lnN : biV .len [.ref s.length] σ3 = .ok (.int N.length) σ3 := by rw [len_ref cN3, List.length_map]
  have x13 := x1.trans (x2.trans x3)
  rw [hN, hM]
  have z1 : (1 ≤ sizeLine) = True := eq_true (by decide)
  by_cases c1 : M.map tl = [[59]]
  · rw [decide_eq_true c1] at nm
    by_cases c2 : N.length = n
    · have n2 : (((N.length : Int) == (n : Int))) = true := by rw [c2]; exact beq_self_eq_true _
      have lc1 := lc_run (call := callAt Dt Gt subt (k + 2)) (G := Gt) (sub := subt) (t := .name 6) (it := .seq (.slot 5)) (ifs := .nil) (e := .call 1 (.cons (.slot 6) (.cons (.glob 0) (.nil)))) (own := [6]) (r := [some (.ref q), some sz, some (.ref p), some (.int (a : Int)), some (.int (n : Int)), some (.ref s.length), w6]) (s := σ3) (f := .cell s.length (N.map DV.str)) (xs := N.map DV.str) gI70 (by
          simp -implicitDefEqProofs -dsimp only [↓bind_K, ↓out_K, ↓then_K, ↓optR_K, ↓cond_K, ↓forL_K, ↓lcL_K, ↓whileL_K, ↓catch_K, ↓catchK_nx, ↓catchK_rt, ↓catchK_exc, unset_rt, hush_rt, hush_nx, hush_ct, fin_exc, ↓bindK_ok, ↓outK_ok, ↓bindK_exc, ↓outK_exc, ↓thenK_nx, ↓thenK_rt, ↓thenK_exc, ↓thenK_bk, ↓thenK_ct, ↓optRK_some, ↓quiet_ok, ↓condK_t, ↓condK_f, ↓truth_bl, qE_slot, qE_isx, qE_k, qE_glob, qE_bin, qE_neg, qE_not, qE_and, qE_or, qE_cmp, qE_chain, qE_ife, qE_ix, qE_slc, qE_rev, qE_tup, qE_lst, qE_call, qE_bi, qE_isi, qE_meth, qE_lc, qE_smeth, qE_get2, qE_setd, qE_dnew, qEs_nil, qEs_cons, qAll_nil, qAll_cons, qO_no, qO_some, qI_seq, qI_range1, qI_range2, qI_range3, qI_zip, qI_enum, qI_enumK, qI_rev, qT_name, qT_tup, qT_sub, qTs_nil, qTs_cons, qS_asg, qS_par, qS_aug, qS_ife, qS_for, qS_forD, qS_while, qS_ret, qS_retN, qS_drop, qS_pass, qS_brk, qS_cont, qS_raise, qS_try, qS_pick, qSs_nil, qSs_cons, dv_int, dv_bl, dv_str, dv_non, List.getElem?_cons_zero, List.getElem?_cons_succ, List.set_cons_zero, List.set_cons_succ, List.length_cons, List.length_nil, Nat.reduceAdd, Nat.reduceLT, if_true, fin_rt, fin_nx, at_0, at_1, at_2, at_3, itemV_ref, itemV_tup, cmp_eq_int, cmp_ne_int, cmp_lt_int, cmp_le_int, cmp_gt_int, cmp_ge_int, bin_add, bin_sub, bi_int_int, cN3]) (fun acc => cell_app cN3) (fun x hx acc => by
          obtain ⟨w, hw2, rfl⟩ := List.mem_map.mp hx
          have io := fun s => integer_ok (k := k) (s := s) (mN w hw2).ok (mN w hw2).sz
          simp -implicitDefEqProofs -dsimp only [↓bind_K, ↓out_K, ↓then_K, ↓optR_K, ↓cond_K, ↓forL_K, ↓lcL_K, ↓whileL_K, ↓catch_K, ↓catchK_nx, ↓catchK_rt, ↓catchK_exc, unset_rt, hush_rt, hush_nx, hush_ct, fin_exc, ↓bindK_ok, ↓outK_ok, ↓bindK_exc, ↓outK_exc, ↓thenK_nx, ↓thenK_rt, ↓thenK_exc, ↓thenK_bk, ↓thenK_ct, ↓optRK_some, ↓quiet_ok, ↓condK_t, ↓condK_f, ↓truth_bl, qE_slot, qE_isx, qE_k, qE_glob, qE_bin, qE_neg, qE_not, qE_and, qE_or, qE_cmp, qE_chain, qE_ife, qE_ix, qE_slc, qE_rev, qE_tup, qE_lst, qE_call, qE_bi, qE_isi, qE_meth, qE_lc, qE_smeth, qE_get2, qE_setd, qE_dnew, qEs_nil, qEs_cons, qAll_nil, qAll_cons, qO_no, qO_some, qI_seq, qI_range1, qI_range2, qI_range3, qI_zip, qI_enum, qI_enumK, qI_rev, qT_name, qT_tup, qT_sub, qTs_nil, qTs_cons, qS_asg, qS_par, qS_aug, qS_ife, qS_for, qS_forD, qS_while, qS_ret, qS_retN, qS_drop, qS_pass, qS_brk, qS_cont, qS_raise, qS_try, qS_pick, qSs_nil, qSs_cons, dv_int, dv_bl, dv_str, dv_non, List.getElem?_cons_zero, List.getElem?_cons_succ, List.set_cons_zero, List.set_cons_succ, List.length_cons, List.length_nil, Nat.reduceAdd, Nat.reduceLT, if_true, fin_rt, fin_nx, at_0, at_1, at_2, at_3, itemV_ref, itemV_tup, cmp_eq_int, cmp_ne_int, cmp_lt_int, cmp_le_int, cmp_gt_int, cmp_ge_int, bin_add, bin_sub, bi_int_int, wipe, io, gt0]
          rfl) (by rw [List.length_map]; exact Nat.le_trans lN (by decide))
      rw [filt_I] at lc1
      obtain ⟨σ4, h4⟩ : ∃ σ4, σ3 ++ [.lst ((N.map fun w => isI70 (tl w)).map DV.bl)] = σ4 := ⟨_, rfl⟩
      have x4 : Ext σ3 σ4 := by rw [← h4]; exact Ext.app
      have cB : cellL σ4 σ3.length = some ((N.map fun w => isI70 (tl w)).map DV.bl) := by rw [← h4]; exact cell_snoc
      rw [h4] at lc1
      have al := all_ref cB
      have ea : (N.map fun w => isI70 (tl w)).all id = N.all fun w => isI70 (tl w) := by rw [List.all_map]; rfl
      rw [ea] at al
      have cN4 := x4.cell cN3
      by_cases c3 : (N.all fun w => isI70 (tl w)) = true
      · rw [c3] at al
        have lc2 := lc_run (call := callAt Dt Gt subt (k + 2)) (G := Gt) (sub := subt) (t := .name 6) (it := .seq (.slot 5)) (ifs := .nil) (e := .bi .int (.cons (.slot 6) (.nil))) (own := [6]) (r := [some (.ref q), some sz, some (.ref p), some (.int (a : Int)), some (.int (n : Int)), some (.ref s.length), w6]) (s := σ4) (f := .cell s.length (N.map DV.str)) (xs := N.map DV.str) gVal (by
            simp -implicitDefEqProofs -dsimp only [↓bind_K, ↓out_K, ↓then_K, ↓optR_K, ↓cond_K, ↓forL_K, ↓lcL_K, ↓whileL_K, ↓catch_K, ↓catchK_nx, ↓catchK_rt, ↓catchK_exc, unset_rt, hush_rt, hush_nx, hush_ct, fin_exc, ↓bindK_ok, ↓outK_ok, ↓bindK_exc, ↓outK_exc, ↓thenK_nx, ↓thenK_rt, ↓thenK_exc, ↓thenK_bk, ↓thenK_ct, ↓optRK_some, ↓quiet_ok, ↓condK_t, ↓condK_f, ↓truth_bl, qE_slot, qE_isx, qE_k, qE_glob, qE_bin, qE_neg, qE_not, qE_and, qE_or, qE_cmp, qE_chain, qE_ife, qE_ix, qE_slc, qE_rev, qE_tup, qE_lst, qE_call, qE_bi, qE_isi, qE_meth, qE_lc, qE_smeth, qE_get2, qE_setd, qE_dnew, qEs_nil, qEs_cons, qAll_nil, qAll_cons, qO_no, qO_some, qI_seq, qI_range1, qI_range2, qI_range3, qI_zip, qI_enum, qI_enumK, qI_rev, qT_name, qT_tup, qT_sub, qTs_nil, qTs_cons, qS_asg, qS_par, qS_aug, qS_ife, qS_for, qS_forD, qS_while, qS_ret, qS_retN, qS_drop, qS_pass, qS_brk, qS_cont, qS_raise, qS_try, qS_pick, qSs_nil, qSs_cons, dv_int, dv_bl, dv_str, dv_non, List.getElem?_cons_zero, List.getElem?_cons_succ, List.set_cons_zero, List.set_cons_succ, List.length_cons, List.length_nil, Nat.reduceAdd, Nat.reduceLT, if_true, fin_rt, fin_nx, at_0, at_1, at_2, at_3, itemV_ref, itemV_tup, cmp_eq_int, cmp_ne_int, cmp_lt_int, cmp_le_int, cmp_gt_int, cmp_ge_int, bin_add, bin_sub, bi_int_int, cN4]) (fun acc => cell_app cN4) (fun x hx acc => by
            obtain ⟨w, hw2, rfl⟩ := List.mem_map.mp hx
            have hI := isI70_int (List.all_eq_true.mp c3 w hw2)
            have io := fun s => int_read (s := s) hI.1 (by rw [tl_len]; omega)
            simp -implicitDefEqProofs -dsimp only [↓bind_K, ↓out_K, ↓then_K, ↓optR_K, ↓cond_K, ↓forL_K, ↓lcL_K, ↓whileL_K, ↓catch_K, ↓catchK_nx, ↓catchK_rt, ↓catchK_exc, unset_rt, hush_rt, hush_nx, hush_ct, fin_exc, ↓bindK_ok, ↓outK_ok, ↓bindK_exc, ↓outK_exc, ↓thenK_nx, ↓thenK_rt, ↓thenK_exc, ↓thenK_bk, ↓thenK_ct, ↓optRK_some, ↓quiet_ok, ↓condK_t, ↓condK_f, ↓truth_bl, qE_slot, qE_isx, qE_k, qE_glob, qE_bin, qE_neg, qE_not, qE_and, qE_or, qE_cmp, qE_chain, qE_ife, qE_ix, qE_slc, qE_rev, qE_tup, qE_lst, qE_call, qE_bi, qE_isi, qE_meth, qE_lc, qE_smeth, qE_get2, qE_setd, qE_dnew, qEs_nil, qEs_cons, qAll_nil, qAll_cons, qO_no, qO_some, qI_seq, qI_range1, qI_range2, qI_range3, qI_zip, qI_enum, qI_enumK, qI_rev, qT_name, qT_tup, qT_sub, qTs_nil, qTs_cons, qS_asg, qS_par, qS_aug, qS_ife, qS_for, qS_forD, qS_while, qS_ret, qS_retN, qS_drop, qS_pass, qS_brk, qS_cont, qS_raise, qS_try, qS_pick, qSs_nil, qSs_cons, dv_int, dv_bl, dv_str, dv_non, List.getElem?_cons_zero, List.getElem?_cons_succ, List.set_cons_zero, List.set_cons_succ, List.length_cons, List.length_nil, Nat.reduceAdd, Nat.reduceLT, if_true, fin_rt, fin_nx, at_0, at_1, at_2, at_3, itemV_ref, itemV_tup, cmp_eq_int, cmp_ne_int, cmp_lt_int, cmp_le_int, cmp_gt_int, cmp_ge_int, bin_add, bin_sub, bi_int_int, wipe, io]
            rfl) (by rw [List.length_map]; exact Nat.le_trans lN (by decide))
        rw [filt_V] at lc2
        obtain ⟨σ5, h5⟩ : ∃ σ5, σ4 ++ [.lst ((N.map fun w => valI (tl w)).map DV.int)] = σ5 := ⟨_, rfl⟩
        have x5 : Ext σ4 σ5 := by rw [← h5]; exact Ext.app
        have cV : cellL σ5 σ4.length = some ((N.map fun w => valI (tl w)).map DV.int) := by rw [← h5]; exact cell_snoc
        rw [h5] at lc2
        have tu := tuple_ref cV
        have xp := x13.trans (x4.trans x5)
        have hp4 := (x13.trans x4).get hp
        have hp5 := xp.get hp
        have cp4 := cellL_of hp4
        have ap := append_ok (v := DV.tup ((N.map fun w => valI (tl w)).map DV.int)) hp5 (by rw [List.length_map]; exact Nat.lt_of_le_of_lt hacc (by decide))
        refine ⟨σ5.set p (.lst (acc.map rowD ++ [.tup ((N.map fun w => valI (tl w)).map DV.int)])), ?_, fun _ => ⟨?_, some (.ref s.length), w6, ?_⟩, fun h => absurd ⟨c1, c2, c3⟩ h⟩
        · exact (xp.kp p).trans ⟨by rw [List.length_set]; exact Nat.le_refl _, fun m hm hd => get_set_ne (Ne.symm hd)⟩
        · rw [get_set hp5, List.map_append]
          rfl
        · have e7 : (a : Int) + 1 + (n : Int) = ((a + 1 + n : Nat) : Int) := by omega
          have eR : R6 q p sz (a + 1 + n) (some (.int (n : Int))) (some (.ref s.length)) w6 = [some (.ref q), some sz, some (.ref p), some (.int ((a : Int) + 1 + (n : Int))), some (.int (n : Int)), some (.ref s.length), w6] := by rw [e7]
          rw [eR]
          simp -implicitDefEqProofs -dsimp only [↓bind_K, ↓out_K, ↓then_K, ↓optR_K, ↓cond_K, ↓forL_K, ↓lcL_K, ↓whileL_K, ↓catch_K, ↓catchK_nx, ↓catchK_rt, ↓catchK_exc, unset_rt, hush_rt, hush_nx, hush_ct, fin_exc, ↓bindK_ok, ↓outK_ok, ↓bindK_exc, ↓outK_exc, ↓thenK_nx, ↓thenK_rt, ↓thenK_exc, ↓thenK_bk, ↓thenK_ct, ↓optRK_some, ↓quiet_ok, ↓condK_t, ↓condK_f, ↓truth_bl, qE_slot, qE_isx, qE_k, qE_glob, qE_bin, qE_neg, qE_not, qE_and, qE_or, qE_cmp, qE_chain, qE_ife, qE_ix, qE_slc, qE_rev, qE_tup, qE_lst, qE_call, qE_bi, qE_isi, qE_meth, qE_lc, qE_smeth, qE_get2, qE_setd, qE_dnew, qEs_nil, qEs_cons, qAll_nil, qAll_cons, qO_no, qO_some, qI_seq, qI_range1, qI_range2, qI_range3, qI_zip, qI_enum, qI_enumK, qI_rev, qT_name, qT_tup, qT_sub, qTs_nil, qTs_cons, qS_asg, qS_par, qS_aug, qS_ife, qS_for, qS_forD, qS_while, qS_ret, qS_retN, qS_drop, qS_pass, qS_brk, qS_cont, qS_raise, qS_try, qS_pick, qSs_nil, qSs_cons, dv_int, dv_bl, dv_str, dv_non, List.getElem?_cons_zero, List.getElem?_cons_succ, List.set_cons_zero, List.set_cons_succ, List.length_cons, List.length_nil, Nat.reduceAdd, Nat.reduceLT, if_true, fin_rt, fin_nx, at_0, at_1, at_2, at_3, itemV_ref, itemV_tup, cmp_eq_int, cmp_ne_int, cmp_lt_int, cmp_le_int, cmp_gt_int, cmp_ge_int, bin_add, bin_sub, bi_int_int, b6l0, s1, s2, gt4, z1, h3, nm, Bool.not_true, Bool.not_false, lnN, n2, ↓lc1, al, cp4, ↓lc2, tu, ap]
      · have c3 := eq_false_of_ne_true c3
        rw [c3] at al
        refine ⟨σ4, (x13.trans x4).kp p, fun h => by (rw [h.2.2] at c3; cases c3), fun _ => ⟨[some (.ref q), some sz, some (.ref p), some (.int (a : Int)), some (.int (n : Int)), some (.ref s.length), w6], ?_⟩⟩
        simp -implicitDefEqProofs -dsimp only [↓bind_K, ↓out_K, ↓then_K, ↓optR_K, ↓cond_K, ↓forL_K, ↓lcL_K, ↓whileL_K, ↓catch_K, ↓catchK_nx, ↓catchK_rt, ↓catchK_exc, unset_rt, hush_rt, hush_nx, hush_ct, fin_exc, ↓bindK_ok, ↓outK_ok, ↓bindK_exc, ↓outK_exc, ↓thenK_nx, ↓thenK_rt, ↓thenK_exc, ↓thenK_bk, ↓thenK_ct, ↓optRK_some, ↓quiet_ok, ↓condK_t, ↓condK_f, ↓truth_bl, qE_slot, qE_isx, qE_k, qE_glob, qE_bin, qE_neg, qE_not, qE_and, qE_or, qE_cmp, qE_chain, qE_ife, qE_ix, qE_slc, qE_rev, qE_tup, qE_lst, qE_call, qE_bi, qE_isi, qE_meth, qE_lc, qE_smeth, qE_get2, qE_setd, qE_dnew, qEs_nil, qEs_cons, qAll_nil, qAll_cons, qO_no, qO_some, qI_seq, qI_range1, qI_range2, qI_range3, qI_zip, qI_enum, qI_enumK, qI_rev, qT_name, qT_tup, qT_sub, qTs_nil, qTs_cons, qS_asg, qS_par, qS_aug, qS_ife, qS_for, qS_forD, qS_while, qS_ret, qS_retN, qS_drop, qS_pass, qS_brk, qS_cont, qS_raise, qS_try, qS_pick, qSs_nil, qSs_cons, dv_int, dv_bl, dv_str, dv_non, List.getElem?_cons_zero, List.getElem?_cons_succ, List.set_cons_zero, List.set_cons_succ, List.length_cons, List.length_nil, Nat.reduceAdd, Nat.reduceLT, if_true, fin_rt, fin_nx, at_0, at_1, at_2, at_3, itemV_ref, itemV_tup, cmp_eq_int, cmp_ne_int, cmp_lt_int, cmp_le_int, cmp_gt_int, cmp_ge_int, bin_add, bin_sub, bi_int_int, b6l0, s1, s2, gt4, z1, h3, nm, Bool.not_true, Bool.not_false, lnN, n2, ↓lc1, al]
    · have n2 : (((N.length : Int) == (n : Int))) = false := by rw [beq_eq_false_iff_ne]; omega
      refine ⟨σ3, x13.kp p, fun h => absurd h.2.1 c2, fun _ => ⟨[some (.ref q), some sz, some (.ref p), some (.int (a : Int)), some (.int (n : Int)), some (.ref s.length), w6], ?_⟩⟩
      simp -implicitDefEqProofs -dsimp only [↓bind_K, ↓out_K, ↓then_K, ↓optR_K, ↓cond_K, ↓forL_K, ↓lcL_K, ↓whileL_K, ↓catch_K, ↓catchK_nx, ↓catchK_rt, ↓catchK_exc, unset_rt, hush_rt, hush_nx, hush_ct, fin_exc, ↓bindK_ok, ↓outK_ok, ↓bindK_exc, ↓outK_exc, ↓thenK_nx, ↓thenK_rt, ↓thenK_exc, ↓thenK_bk, ↓thenK_ct, ↓optRK_some, ↓quiet_ok, ↓condK_t, ↓condK_f, ↓truth_bl, qE_slot, qE_isx, qE_k, qE_glob, qE_bin, qE_neg, qE_not, qE_and, qE_or, qE_cmp, qE_chain, qE_ife, qE_ix, qE_slc, qE_rev, qE_tup, qE_lst, qE_call, qE_bi, qE_isi, qE_meth, qE_lc, qE_smeth, qE_get2, qE_setd, qE_dnew, qEs_nil, qEs_cons, qAll_nil, qAll_cons, qO_no, qO_some, qI_seq, qI_range1, qI_range2, qI_range3, qI_zip, qI_enum, qI_enumK, qI_rev, qT_name, qT_tup, qT_sub, qTs_nil, qTs_cons, qS_asg, qS_par, qS_aug, qS_ife, qS_for, qS_forD, qS_while, qS_ret, qS_retN, qS_drop, qS_pass, qS_brk, qS_cont, qS_raise, qS_try, qS_pick, qSs_nil, qSs_cons, dv_int, dv_bl, dv_str, dv_non, List.getElem?_cons_zero, List.getElem?_cons_succ, List.set_cons_zero, List.set_cons_succ, List.length_cons, List.length_nil, Nat.reduceAdd, Nat.reduceLT, if_true, fin_rt, fin_nx, at_0, at_1, at_2, at_3, itemV_ref, itemV_tup, cmp_eq_int, cmp_ne_int, cmp_lt_int, cmp_le_int, cmp_gt_int, cmp_ge_int, bin_add, bin_sub, bi_int_int, b6l0, s1, s2, gt4, z1, h3, nm, Bool.not_true, Bool.not_false, lnN, n2]
  · rw [decide_eq_false c1] at nm
    refine ⟨σ3, x13.kp p, fun h => absurd h.1 c1, fun _ => ⟨[some (.ref q), some sz, some (.ref p), some (.int (a : Int)), some (.int (n : Int)), some (.ref s.length), w6], ?_⟩⟩
    simp -implicitDefEqProofs -dsimp only [↓bind_K, ↓out_K, ↓then_K, ↓optR_K, ↓cond_K, ↓forL_K, ↓lcL_K, ↓whileL_K, ↓catch_K, ↓catchK_nx, ↓catchK_rt, ↓catchK_exc, unset_rt, hush_rt, hush_nx, hush_ct, fin_exc, ↓bindK_ok, ↓outK_ok, ↓bindK_exc, ↓outK_exc, ↓thenK_nx, ↓thenK_rt, ↓thenK_exc, ↓thenK_bk, ↓thenK_ct, ↓optRK_some, ↓quiet_ok, ↓condK_t, ↓condK_f, ↓truth_bl, qE_slot, qE_isx, qE_k, qE_glob, qE_bin, qE_neg, qE_not, qE_and, qE_or, qE_cmp, qE_chain, qE_ife, qE_ix, qE_slc, qE_rev, qE_tup, qE_lst, qE_call, qE_bi, qE_isi, qE_meth, qE_lc, qE_smeth, qE_get2, qE_setd, qE_dnew, qEs_nil, qEs_cons, qAll_nil, qAll_cons, qO_no, qO_some, qI_seq, qI_range1, qI_range2, qI_range3, qI_zip, qI_enum, qI_enumK, qI_rev, qT_name, qT_tup, qT_sub, qTs_nil, qTs_cons, qS_asg, qS_par, qS_aug, qS_ife, qS_for, qS_forD, qS_while, qS_ret, qS_retN, qS_drop, qS_pass, qS_brk, qS_cont, qS_raise, qS_try, qS_pick, qSs_nil, qSs_cons, dv_int, dv_bl, dv_str, dv_non, List.getElem?_cons_zero, List.getElem?_cons_succ, List.set_cons_zero, List.set_cons_succ, List.length_cons, List.length_nil, Nat.reduceAdd, Nat.reduceLT, if_true, fin_rt, fin_nx, at_0, at_1, at_2, at_3, itemV_ref, itemV_tup, cmp_eq_int, cmp_ne_int, cmp_lt_int, cmp_le_int, cmp_gt_int, cmp_ge_int, bin_add, bin_sub, bi_int_int, b6l0, s1, s2, gt4, z1, h3, nm, Bool.not_true, Bool.not_false]
end
section
variable {k : Nat} {s : Store}
def szD (ns : List Nat) : List DV := ns.map fun (n : Nat) => DV.int (n : Int)
theorem rw_loop {q p : Nat} {sz : DV} {ws : List Str} (hw : Wx ws) (hpq : p ≠ q) : ∀ (ns : List Nat) (a : Nat) (acc : List (List Int)) (w4 w5 w6 : Option DV) (s : Store), cellL s q = some (ws.map DV.str) → s[p]? = some (.lst (acc.map rowD)) → acc.length + ns.length ≤ 1000 → (∀ n ∈ ns, n ≤ 1000) → a ≤ ws.length →
    ∃ s', Kp p s s' ∧ ((∃ r', forL .free (B6 (k + 2)) (szD ns) (R6 q p sz a w4 w5 w6) s = .exc 1 r' s' ∧ rdW ns ((ws.drop a).map tl) = none) ∨
      (∃ w4' w5' w6' W, forL .free (B6 (k + 2)) (szD ns) (R6 q p sz a w4 w5 w6) s = .nx (R6 q p sz (a + need ns) w4' w5' w6') s' ∧ s'[p]? = some (.lst ((acc ++ W).map rowD)) ∧ a + need ns ≤ ws.length ∧ rdW ns ((ws.drop a).map tl) = if a + need ns = ws.length then some W else none))
  | [], a, acc, w4, w5, w6, s, hq, hp, hl, hn, ha => by
    refine ⟨s, Kp.refl, .inr ⟨w4, w5, w6, [], forL_nil free_ok, by rw [List.append_nil]; exact hp, ha, ?_⟩⟩
    unfold rdW
    show _ = if a = ws.length then some [] else none
    by_cases h : a = ws.length
    · rw [if_pos h, List.drop_eq_nil_of_le (by omega)]
      rfl
    · rw [if_neg h, if_neg]
      intro e
      have := congrArg List.length e
      rw [List.length_map, List.length_drop, List.length_nil] at this
      omega
  | n :: ns, a, acc, w4, w5, w6, s, hq, hp, hl, hn, ha => by
    rw [List.length_cons] at hl
    obtain ⟨s1, K1, hyes, hno⟩ := rw_turn (k := k) (n := n) (a := a) (sz := sz) (w4 := w4) (w5 := w5) (w6 := w6) hq hw hp hpq (by omega) (hn n List.mem_cons_self)
    rw [rdW_cons]
    by_cases hC : ((ws.drop a).take 1).map tl = [[59]] ∧ ((ws.drop (a + 1)).take n).length = n ∧ ((ws.drop (a + 1)).take n).all (fun w => isI70 (tl w)) = true
    · rw [if_pos hC]
      obtain ⟨hp1, w5', w6', hb⟩ := hyes hC
      have hlen : a + 1 + n ≤ ws.length := by
        have q1 := congrArg List.length hC.1
        rw [List.length_map, List.length_take, List.length_drop, List.length_singleton] at q1
        have q2 := hC.2.1
        rw [List.length_take, List.length_drop] at q2
        omega
      obtain ⟨s2, K2, h2⟩ := rw_loop hw hpq (sz := sz) ns (a + 1 + n) _ (some (.int (n : Int))) w5' w6' s1 (K1.cell hq (Ne.symm hpq)) hp1 (by rw [List.length_append, List.length_singleton]; omega) (fun m hm => hn m (List.mem_cons_of_mem _ hm)) hlen
      have e1 : forL .free (B6 (k + 2)) (szD (n :: ns)) (R6 q p sz a w4 w5 w6) s = forL .free (B6 (k + 2)) (szD ns) (R6 q p sz (a + 1 + n) (some (.int (n : Int))) w5' w6') s1 := forL_nx free_ok hb
      refine ⟨s2, K1.trans K2, ?_⟩
      rw [e1]
      rcases h2 with ⟨r', h3, h4⟩ | ⟨w4', w5'', w6'', W, h3, h4, h5, h6⟩
      · exact .inl ⟨r', h3, by rw [h4]; rfl⟩
      · have en : a + need (n :: ns) = a + 1 + n + need ns := by
          show a + (1 + n + need ns) = _
          omega
        refine .inr ⟨w4', w5'', w6'', _ :: W, by rw [en]; exact h3, by rw [List.append_assoc] at h4; exact h4, by rw [en]; exact h5, ?_⟩
        rw [h6, en]
        split <;> rfl
    · rw [if_neg hC]
      obtain ⟨r', hb⟩ := hno hC
      exact ⟨s1, K1, .inl ⟨r', forL_exc free_ok hb, rfl⟩⟩
def wO (o : Option (List (List Int))) (s' : Store) : Res DV := match o with
  | some W => .ok (.tup (W.map rowD)) s'
  | none => .exc 1 s'
theorem kp_ext {p : Nat} {c : Cell} {s1 : Store} (K : Kp s.length (s ++ [c]) s1) : Ext s s1 := by
  refine ⟨?_, fun n hn => ?_⟩
  · have := K.1
    rw [List.length_append] at this
    omega
  · rw [K.2 n (by rw [List.length_append]; omega) (by omega)]
    exact List.getElem?_append_left hn
theorem weights_ok {q : Nat} {ws : List Str} {ns : List Nat} (hq : cellL s q = some (ws.map DV.str)) (hw : Wx ws) (hl : ns.length ≤ 1000) (hn : ∀ n ∈ ns, n ≤ 1000) : ∃ s', Ext s s' ∧ callAt Dt Gt subt (k + 3) 6 [.ref q, .tup (szD ns)] s = wO (rdW ns (ws.map tl)) s' := by
  have hqs := lt_of_cell hq
  obtain ⟨s1, K, h1⟩ := rw_loop (k := k) (sz := .tup (szD ns)) hw (show s.length ≠ q by omega) ns 0 [] none none none (s ++ [.lst []]) (cell_app hq) get_snoc (by simpa using hl) hn (Nat.zero_le _)
  have X := kp_ext (p := s.length) K
  rw [List.drop_zero] at h1
  refine ⟨s1, X, ?_⟩
  rcases h1 with ⟨r', h3, h4⟩ | ⟨w4, w5, w6, W, h3, h4, h5, h6⟩
  · have h7 : evS (callAt Dt Gt subt (k + 2)) Gt subt (.for_ (.name 4) (.seq (.slot 1)) b6l0) [some (.ref q), some (.tup (szD ns)), some (.ref s.length), some (.int 0), none, none, none] (s ++ [.lst []]) = _ := evS_for (by
      simp -implicitDefEqProofs -dsimp only [↓bind_K, ↓out_K, ↓then_K, ↓optR_K, ↓cond_K, ↓forL_K, ↓lcL_K, ↓whileL_K, ↓catch_K, ↓catchK_nx, ↓catchK_rt, ↓catchK_exc, unset_rt, hush_rt, hush_nx, hush_ct, fin_exc, ↓bindK_ok, ↓outK_ok, ↓bindK_exc, ↓outK_exc, ↓thenK_nx, ↓thenK_rt, ↓thenK_exc, ↓thenK_bk, ↓thenK_ct, ↓optRK_some, ↓quiet_ok, ↓condK_t, ↓condK_f, ↓truth_bl, qE_slot, qE_isx, qE_k, qE_glob, qE_bin, qE_neg, qE_not, qE_and, qE_or, qE_cmp, qE_chain, qE_ife, qE_ix, qE_slc, qE_rev, qE_tup, qE_lst, qE_call, qE_bi, qE_isi, qE_meth, qE_lc, qE_smeth, qE_get2, qE_setd, qE_dnew, qEs_nil, qEs_cons, qAll_nil, qAll_cons, qO_no, qO_some, qI_seq, qI_range1, qI_range2, qI_range3, qI_zip, qI_enum, qI_enumK, qI_rev, qT_name, qT_tup, qT_sub, qTs_nil, qTs_cons, qS_asg, qS_par, qS_aug, qS_ife, qS_for, qS_forD, qS_while, qS_ret, qS_retN, qS_drop, qS_pass, qS_brk, qS_cont, qS_raise, qS_try, qS_pick, qSs_nil, qSs_cons, dv_int, dv_bl, dv_str, dv_non, List.getElem?_cons_zero, List.getElem?_cons_succ, List.set_cons_zero, List.set_cons_succ, List.length_cons, List.length_nil, Nat.reduceAdd, Nat.reduceLT, if_true, fin_rt, fin_nx, at_0, at_1, at_2, at_3, itemV_ref, itemV_tup, cmp_eq_int, cmp_ne_int, cmp_lt_int, cmp_le_int, cmp_gt_int, cmp_ge_int, bin_add, bin_sub, bi_int_int]) h3
    rw [h4]
    simp -implicitDefEqProofs -dsimp only [↓bind_K, ↓out_K, ↓then_K, ↓optR_K, ↓cond_K, ↓forL_K, ↓lcL_K, ↓whileL_K, ↓catch_K, ↓catchK_nx, ↓catchK_rt, ↓catchK_exc, unset_rt, hush_rt, hush_nx, hush_ct, fin_exc, ↓bindK_ok, ↓outK_ok, ↓bindK_exc, ↓outK_exc, ↓thenK_nx, ↓thenK_rt, ↓thenK_exc, ↓thenK_bk, ↓thenK_ct, ↓optRK_some, ↓quiet_ok, ↓condK_t, ↓condK_f, ↓truth_bl, qE_slot, qE_isx, qE_k, qE_glob, qE_bin, qE_neg, qE_not, qE_and, qE_or, qE_cmp, qE_chain, qE_ife, qE_ix, qE_slc, qE_rev, qE_tup, qE_lst, qE_call, qE_bi, qE_isi, qE_meth, qE_lc, qE_smeth, qE_get2, qE_setd, qE_dnew, qEs_nil, qEs_cons, qAll_nil, qAll_cons, qO_no, qO_some, qI_seq, qI_range1, qI_range2, qI_range3, qI_zip, qI_enum, qI_enumK, qI_rev, qT_name, qT_tup, qT_sub, qTs_nil, qTs_cons, qS_asg, qS_par, qS_aug, qS_ife, qS_for, qS_forD, qS_while, qS_ret, qS_retN, qS_drop, qS_pass, qS_brk, qS_cont, qS_raise, qS_try, qS_pick, qSs_nil, qSs_cons, dv_int, dv_bl, dv_str, dv_non, List.getElem?_cons_zero, List.getElem?_cons_succ, List.set_cons_zero, List.set_cons_succ, List.length_cons, List.length_nil, Nat.reduceAdd, Nat.reduceLT, if_true, fin_rt, fin_nx, at_0, at_1, at_2, at_3, itemV_ref, itemV_tup, cmp_eq_int, cmp_ne_int, cmp_lt_int, cmp_le_int, cmp_gt_int, cmp_ge_int, bin_add, bin_sub, bi_int_int, call_6, b6, Nat.zero_le, ↓h7, fin_exc, wO]
  · have h7 : evS (callAt Dt Gt subt (k + 2)) Gt subt (.for_ (.name 4) (.seq (.slot 1)) b6l0) [some (.ref q), some (.tup (szD ns)), some (.ref s.length), some (.int 0), none, none, none] (s ++ [.lst []]) = _ := evS_for (by
      simp -implicitDefEqProofs -dsimp only [↓bind_K, ↓out_K, ↓then_K, ↓optR_K, ↓cond_K, ↓forL_K, ↓lcL_K, ↓whileL_K, ↓catch_K, ↓catchK_nx, ↓catchK_rt, ↓catchK_exc, unset_rt, hush_rt, hush_nx, hush_ct, fin_exc, ↓bindK_ok, ↓outK_ok, ↓bindK_exc, ↓outK_exc, ↓thenK_nx, ↓thenK_rt, ↓thenK_exc, ↓thenK_bk, ↓thenK_ct, ↓optRK_some, ↓quiet_ok, ↓condK_t, ↓condK_f, ↓truth_bl, qE_slot, qE_isx, qE_k, qE_glob, qE_bin, qE_neg, qE_not, qE_and, qE_or, qE_cmp, qE_chain, qE_ife, qE_ix, qE_slc, qE_rev, qE_tup, qE_lst, qE_call, qE_bi, qE_isi, qE_meth, qE_lc, qE_smeth, qE_get2, qE_setd, qE_dnew, qEs_nil, qEs_cons, qAll_nil, qAll_cons, qO_no, qO_some, qI_seq, qI_range1, qI_range2, qI_range3, qI_zip, qI_enum, qI_enumK, qI_rev, qT_name, qT_tup, qT_sub, qTs_nil, qTs_cons, qS_asg, qS_par, qS_aug, qS_ife, qS_for, qS_forD, qS_while, qS_ret, qS_retN, qS_drop, qS_pass, qS_brk, qS_cont, qS_raise, qS_try, qS_pick, qSs_nil, qSs_cons, dv_int, dv_bl, dv_str, dv_non, List.getElem?_cons_zero, List.getElem?_cons_succ, List.set_cons_zero, List.set_cons_succ, List.length_cons, List.length_nil, Nat.reduceAdd, Nat.reduceLT, if_true, fin_rt, fin_nx, at_0, at_1, at_2, at_3, itemV_ref, itemV_tup, cmp_eq_int, cmp_ne_int, cmp_lt_int, cmp_le_int, cmp_gt_int, cmp_ge_int, bin_add, bin_sub, bi_int_int]) h3
    have ln : biV .len [.ref q] s1 = .ok (.int ws.length) s1 := by rw [len_ref (X.cell hq), List.length_map]
    rw [Nat.zero_add] at h6 h7
    rw [List.nil_append] at h4
    have tu := tuple_ref (cellL_of h4)
    rw [h6]
    by_cases h : need ns = ws.length
    · have e : ((need ns : Int) == (ws.length : Int)) = true := by rw [h]; exact beq_self_eq_true _
      rw [if_pos h]
      simp -implicitDefEqProofs -dsimp only [↓bind_K, ↓out_K, ↓then_K, ↓optR_K, ↓cond_K, ↓forL_K, ↓lcL_K, ↓whileL_K, ↓catch_K, ↓catchK_nx, ↓catchK_rt, ↓catchK_exc, unset_rt, hush_rt, hush_nx, hush_ct, fin_exc, ↓bindK_ok, ↓outK_ok, ↓bindK_exc, ↓outK_exc, ↓thenK_nx, ↓thenK_rt, ↓thenK_exc, ↓thenK_bk, ↓thenK_ct, ↓optRK_some, ↓quiet_ok, ↓condK_t, ↓condK_f, ↓truth_bl, qE_slot, qE_isx, qE_k, qE_glob, qE_bin, qE_neg, qE_not, qE_and, qE_or, qE_cmp, qE_chain, qE_ife, qE_ix, qE_slc, qE_rev, qE_tup, qE_lst, qE_call, qE_bi, qE_isi, qE_meth, qE_lc, qE_smeth, qE_get2, qE_setd, qE_dnew, qEs_nil, qEs_cons, qAll_nil, qAll_cons, qO_no, qO_some, qI_seq, qI_range1, qI_range2, qI_range3, qI_zip, qI_enum, qI_enumK, qI_rev, qT_name, qT_tup, qT_sub, qTs_nil, qTs_cons, qS_asg, qS_par, qS_aug, qS_ife, qS_for, qS_forD, qS_while, qS_ret, qS_retN, qS_drop, qS_pass, qS_brk, qS_cont, qS_raise, qS_try, qS_pick, qSs_nil, qSs_cons, dv_int, dv_bl, dv_str, dv_non, List.getElem?_cons_zero, List.getElem?_cons_succ, List.set_cons_zero, List.set_cons_succ, List.length_cons, List.length_nil, Nat.reduceAdd, Nat.reduceLT, if_true, fin_rt, fin_nx, at_0, at_1, at_2, at_3, itemV_ref, itemV_tup, cmp_eq_int, cmp_ne_int, cmp_lt_int, cmp_le_int, cmp_gt_int, cmp_ge_int, bin_add, bin_sub, bi_int_int, call_6, b6, Nat.zero_le, ↓h7, ln, e, Bool.not_true, tu, wO]
    · have e : ((need ns : Int) == (ws.length : Int)) = false := by rw [beq_eq_false_iff_ne]; omega
      rw [if_neg h]
      simp -implicitDefEqProofs -dsimp only [↓bind_K, ↓out_K, ↓then_K, ↓optR_K, ↓cond_K, ↓forL_K, ↓lcL_K, ↓whileL_K, ↓catch_K, ↓catchK_nx, ↓catchK_rt, ↓catchK_exc, unset_rt, hush_rt, hush_nx, hush_ct, fin_exc, ↓bindK_ok, ↓outK_ok, ↓bindK_exc, ↓outK_exc, ↓thenK_nx, ↓thenK_rt, ↓thenK_exc, ↓thenK_bk, ↓thenK_ct, ↓optRK_some, ↓quiet_ok, ↓condK_t, ↓condK_f, ↓truth_bl, qE_slot, qE_isx, qE_k, qE_glob, qE_bin, qE_neg, qE_not, qE_and, qE_or, qE_cmp, qE_chain, qE_ife, qE_ix, qE_slc, qE_rev, qE_tup, qE_lst, qE_call, qE_bi, qE_isi, qE_meth, qE_lc, qE_smeth, qE_get2, qE_setd, qE_dnew, qEs_nil, qEs_cons, qAll_nil, qAll_cons, qO_no, qO_some, qI_seq, qI_range1, qI_range2, qI_range3, qI_zip, qI_enum, qI_enumK, qI_rev, qT_name, qT_tup, qT_sub, qTs_nil, qTs_cons, qS_asg, qS_par, qS_aug, qS_ife, qS_for, qS_forD, qS_while, qS_ret, qS_retN, qS_drop, qS_pass, qS_brk, qS_cont, qS_raise, qS_try, qS_pick, qSs_nil, qSs_cons, dv_int, dv_bl, dv_str, dv_non, List.getElem?_cons_zero, List.getElem?_cons_succ, List.set_cons_zero, List.set_cons_succ, List.length_cons, List.length_nil, Nat.reduceAdd, Nat.reduceLT, if_true, fin_rt, fin_nx, at_0, at_1, at_2, at_3, itemV_ref, itemV_tup, cmp_eq_int, cmp_ne_int, cmp_lt_int, cmp_le_int, cmp_gt_int, cmp_ge_int, bin_add, bin_sub, bi_int_int, call_6, b6, Nat.zero_le, ↓h7, ln, e, Bool.not_false, fin_exc, wO]
theorem isNat_isInt {l : List Nat} (h : isNat l = true) : isInt l = true := by
  rw [isInt_pos fun r e => by
    have := isNat_digits h 45 (by rw [e]; exact List.mem_cons_self)
    omega]
  exact h
def lO (o : Option (Int × List (List Int))) (s' : Store) : Res DV := match o with
  | some (n, W) => .ok (.tup [.int n, .tup (W.map rowD)]) s'
  | none => .exc 1 s'
theorem cut_A {α : Type} {A : List α} {u v : α} : ((A ++ [u, v]).take ((A ++ [u, v]).length - 2)).drop 2 = A.drop 2 := by
  have hl : (A ++ [u, v]).length = A.length + 2 := by rw [List.length_append]; rfl
  rw [hl, Nat.add_sub_cancel, List.take_left]
theorem Wx.sub {ws ws' : List Str} (h : Wx ws) (hs : ws'.Sublist ws) : Wx ws' := by
  refine ⟨fun w hw => h.tx w (hs.subset hw), ?_⟩
  have h1 := hs.length_le
  have h2 : ∀ {a b : List Str}, a.Sublist b → (a.map (·.length)).sum ≤ (b.map (·.length)).sum := by
    intro a b h
    induction h with
    | slnil => exact Nat.le_refl _
    | cons x h ih => rw [List.map_cons, List.sum_cons]; omega
    | cons_cons x h ih => rw [List.map_cons, List.map_cons, List.sum_cons, List.sum_cons]; omega
  have := h2 hs
  have := h.sm
  omega
theorem line_ok {z : Str} {ns : List Nat} (hz : Tx z) (hl : ns.length ≤ 1000) (hn : ∀ n ∈ ns, n ≤ 1000) : ∃ s', Ext s s' ∧ callAt Dt Gt subt (k + 4) 7 [.str z, .tup (szD ns)] s = lO (rdL (wds (tl z)) ns) s' := by
  obtain ⟨ws, hm, hw, sp⟩ := split_ok hz
  have sp1 := sp s
  clear sp
  obtain ⟨σ1, h1⟩ : ∃ σ1, s ++ [.lst (ws.map DV.str)] = σ1 := ⟨_, rfl⟩
  have x1 : Ext s σ1 := by rw [← h1]; exact Ext.app
  have hq : cellL σ1 s.length = some (ws.map DV.str) := by rw [← h1]; exact cell_snoc
  rw [h1] at sp1
  obtain ⟨σ2, x2, en0⟩ := ending_ok (k := k + 1) (z := z) hq hw
  have en : callAt Dt Gt subt (k + 3) 5 [.str z, .ref s.length] σ1 = _ := en0
  clear en0
  rw [← hm]
  unfold rdL
  by_cases hE : endL (ws.map tl) = true
  · rw [if_pos hE] at en
    obtain ⟨A, h2, hA⟩ := endL_iff hE
    have hlw : 4 ≤ ws.length := by
      have := congrArg List.length hA
      rw [List.length_map, List.length_append] at this
      simp only [List.length_cons, List.length_nil] at this
      omega
    obtain ⟨A, u, v, rfl⟩ := two_last (l := ws) (by omega)
    obtain ⟨a, b, A', rfl⟩ : ∃ a b A', A = a :: b :: A' := by
      rw [List.length_append] at hlw
      simp only [List.length_cons, List.length_nil] at hlw
      match A, hlw with
      | a :: b :: A', _ => exact ⟨a, b, A', rfl⟩
    have tb := hw.tx b (by simp)
    have hq2 := x2.cell hq
    have i1 : itemV (.ref s.length) (.int 1) σ2 = .ok (.str b) σ2 := item_ref hq2 at_1
    have nk0 := natural_ok (k := k + 2) (s := σ2) (z := b) (most := 70) tb.ok tb.sz
    have e1 : (isNat (tl b) && decide ((b.length : Int) ≤ 70)) = isN70 (tl b) := by
      unfold isN70
      rw [tl_len]
    rw [e1] at nk0
    have nk : callAt Dt Gt subt (k + 3) 0 [.str b, .int 70] σ2 = _ := nk0
    clear nk0
    have g1 : (((a :: b :: A') ++ [u, v]).map tl).getD 1 [] = tl b := rfl
    rw [g1]
    by_cases hN : isN70 (tl b) = true
    · rw [hN] at nk
      rw [if_pos ⟨hE, hN⟩]
      have hN2 : isNat (tl b) = true ∧ (tl b).length ≤ 70 := by
        unfold isN70 at hN
        rw [Bool.and_eq_true, decide_eq_true_eq] at hN
        exact ⟨hN.1, by omega⟩
      have io := fun s => int_read (s := s) (isNat_isInt hN2.1) (by rw [tl_len]; omega)
      have hmap : ((a :: b :: A') ++ [u, v]).map DV.str = (a :: b :: A').map DV.str ++ [DV.str u, DV.str v] := by rw [List.map_append]; rfl
      have sl := slice_ref (lo := some 2) (hi := some (-2)) hq2
      rw [hmap, cut_22] at sl
      have sl : sliceV (.ref s.length) (some 2) (some (-2)) σ2 = .ok (.ref σ2.length) (σ2 ++ [.lst (A'.map DV.str)]) := sl
      have wA : Wx A' := hw.sub (by
        have : List.Sublist A' (a :: b :: A') := (List.sublist_cons_self _ _).trans (List.sublist_cons_self _ _)
        exact this.trans (List.sublist_append_left _ _))
      obtain ⟨s3, x3, rw3⟩ := weights_ok (k := k) (q := σ2.length) (s := σ2 ++ [.lst (A'.map DV.str)]) (ns := ns) cell_snoc wA hl hn
      have e2 : ((((a :: b :: A') ++ [u, v]).map tl).take ((((a :: b :: A') ++ [u, v]).map tl).length - 2)).drop 2 = A'.map tl := by
        have hmt : ((a :: b :: A') ++ [u, v]).map tl = (a :: b :: A').map tl ++ [tl u, tl v] := by rw [List.map_append]; rfl
        rw [hmt, cut_A]
        rfl
      rw [e2]
      refine ⟨s3, x1.trans (x2.trans (Ext.app.trans x3)), ?_⟩
      cases hr : rdW ns (A'.map tl) with
      | none =>
        rw [hr] at rw3
        have rw3 : _ = Res.exc 1 s3 := rw3
        show _ = Res.exc 1 s3
        simp -implicitDefEqProofs -dsimp only [↓bind_K, ↓out_K, ↓then_K, ↓optR_K, ↓cond_K, ↓forL_K, ↓lcL_K, ↓whileL_K, ↓catch_K, ↓catchK_nx, ↓catchK_rt, ↓catchK_exc, unset_rt, hush_rt, hush_nx, hush_ct, fin_exc, ↓bindK_ok, ↓outK_ok, ↓bindK_exc, ↓outK_exc, ↓thenK_nx, ↓thenK_rt, ↓thenK_exc, ↓thenK_bk, ↓thenK_ct, ↓optRK_some, ↓quiet_ok, ↓condK_t, ↓condK_f, ↓truth_bl, qE_slot, qE_isx, qE_k, qE_glob, qE_bin, qE_neg, qE_not, qE_and, qE_or, qE_cmp, qE_chain, qE_ife, qE_ix, qE_slc, qE_rev, qE_tup, qE_lst, qE_call, qE_bi, qE_isi, qE_meth, qE_lc, qE_smeth, qE_get2, qE_setd, qE_dnew, qEs_nil, qEs_cons, qAll_nil, qAll_cons, qO_no, qO_some, qI_seq, qI_range1, qI_range2, qI_range3, qI_zip, qI_enum, qI_enumK, qI_rev, qT_name, qT_tup, qT_sub, qTs_nil, qTs_cons, qS_asg, qS_par, qS_aug, qS_ife, qS_for, qS_forD, qS_while, qS_ret, qS_retN, qS_drop, qS_pass, qS_brk, qS_cont, qS_raise, qS_try, qS_pick, qSs_nil, qSs_cons, dv_int, dv_bl, dv_str, dv_non, List.getElem?_cons_zero, List.getElem?_cons_succ, List.set_cons_zero, List.set_cons_succ, List.length_cons, List.length_nil, Nat.reduceAdd, Nat.reduceLT, if_true, fin_rt, fin_nx, at_0, at_1, at_2, at_3, itemV_ref, itemV_tup, cmp_eq_int, cmp_ne_int, cmp_lt_int, cmp_le_int, cmp_gt_int, cmp_ge_int, bin_add, bin_sub, bi_int_int, call_7, b7, sp1, en, i1, gt0, nk, Bool.not_true, io, sl, rw3, fin_exc]
      | some W =>
        rw [hr] at rw3
        have rw3 : _ = Res.ok (DV.tup (W.map rowD)) s3 := rw3
        show _ = Res.ok (DV.tup [.int (valI (tl b)), .tup (W.map rowD)]) s3
        have z2 : (2 ≤ sizeLine) = True := eq_true (by decide)
        simp -implicitDefEqProofs -dsimp only [↓bind_K, ↓out_K, ↓then_K, ↓optR_K, ↓cond_K, ↓forL_K, ↓lcL_K, ↓whileL_K, ↓catch_K, ↓catchK_nx, ↓catchK_rt, ↓catchK_exc, unset_rt, hush_rt, hush_nx, hush_ct, fin_exc, ↓bindK_ok, ↓outK_ok, ↓bindK_exc, ↓outK_exc, ↓thenK_nx, ↓thenK_rt, ↓thenK_exc, ↓thenK_bk, ↓thenK_ct, ↓optRK_some, ↓quiet_ok, ↓condK_t, ↓condK_f, ↓truth_bl, qE_slot, qE_isx, qE_k, qE_glob, qE_bin, qE_neg, qE_not, qE_and, qE_or, qE_cmp, qE_chain, qE_ife, qE_ix, qE_slc, qE_rev, qE_tup, qE_lst, qE_call, qE_bi, qE_isi, qE_meth, qE_lc, qE_smeth, qE_get2, qE_setd, qE_dnew, qEs_nil, qEs_cons, qAll_nil, qAll_cons, qO_no, qO_some, qI_seq, qI_range1, qI_range2, qI_range3, qI_zip, qI_enum, qI_enumK, qI_rev, qT_name, qT_tup, qT_sub, qTs_nil, qTs_cons, qS_asg, qS_par, qS_aug, qS_ife, qS_for, qS_forD, qS_while, qS_ret, qS_retN, qS_drop, qS_pass, qS_brk, qS_cont, qS_raise, qS_try, qS_pick, qSs_nil, qSs_cons, dv_int, dv_bl, dv_str, dv_non, List.getElem?_cons_zero, List.getElem?_cons_succ, List.set_cons_zero, List.set_cons_succ, List.length_cons, List.length_nil, Nat.reduceAdd, Nat.reduceLT, if_true, fin_rt, fin_nx, at_0, at_1, at_2, at_3, itemV_ref, itemV_tup, cmp_eq_int, cmp_ne_int, cmp_lt_int, cmp_le_int, cmp_gt_int, cmp_ge_int, bin_add, bin_sub, bi_int_int, call_7, b7, sp1, en, i1, gt0, nk, Bool.not_true, io, sl, rw3, z2]
    · have hN := eq_false_of_ne_true hN
      rw [hN] at nk
      rw [if_neg (fun h => by rw [h.2] at hN; cases hN)]
      refine ⟨σ2, x1.trans x2, ?_⟩
      show _ = Res.exc 1 σ2
      simp -implicitDefEqProofs -dsimp only [↓bind_K, ↓out_K, ↓then_K, ↓optR_K, ↓cond_K, ↓forL_K, ↓lcL_K, ↓whileL_K, ↓catch_K, ↓catchK_nx, ↓catchK_rt, ↓catchK_exc, unset_rt, hush_rt, hush_nx, hush_ct, fin_exc, ↓bindK_ok, ↓outK_ok, ↓bindK_exc, ↓outK_exc, ↓thenK_nx, ↓thenK_rt, ↓thenK_exc, ↓thenK_bk, ↓thenK_ct, ↓optRK_some, ↓quiet_ok, ↓condK_t, ↓condK_f, ↓truth_bl, qE_slot, qE_isx, qE_k, qE_glob, qE_bin, qE_neg, qE_not, qE_and, qE_or, qE_cmp, qE_chain, qE_ife, qE_ix, qE_slc, qE_rev, qE_tup, qE_lst, qE_call, qE_bi, qE_isi, qE_meth, qE_lc, qE_smeth, qE_get2, qE_setd, qE_dnew, qEs_nil, qEs_cons, qAll_nil, qAll_cons, qO_no, qO_some, qI_seq, qI_range1, qI_range2, qI_range3, qI_zip, qI_enum, qI_enumK, qI_rev, qT_name, qT_tup, qT_sub, qTs_nil, qTs_cons, qS_asg, qS_par, qS_aug, qS_ife, qS_for, qS_forD, qS_while, qS_ret, qS_retN, qS_drop, qS_pass, qS_brk, qS_cont, qS_raise, qS_try, qS_pick, qSs_nil, qSs_cons, dv_int, dv_bl, dv_str, dv_non, List.getElem?_cons_zero, List.getElem?_cons_succ, List.set_cons_zero, List.set_cons_succ, List.length_cons, List.length_nil, Nat.reduceAdd, Nat.reduceLT, if_true, fin_rt, fin_nx, at_0, at_1, at_2, at_3, itemV_ref, itemV_tup, cmp_eq_int, cmp_ne_int, cmp_lt_int, cmp_le_int, cmp_gt_int, cmp_ge_int, bin_add, bin_sub, bi_int_int, call_7, b7, sp1, en, i1, gt0, nk, Bool.not_false, fin_exc]
  · rw [if_neg hE] at en
    rw [if_neg (fun h => hE h.1)]
    refine ⟨σ2, x1.trans x2, ?_⟩
    show _ = Res.exc 1 σ2
    simp -implicitDefEqProofs -dsimp only [↓bind_K, ↓out_K, ↓then_K, ↓optR_K, ↓cond_K, ↓forL_K, ↓lcL_K, ↓whileL_K, ↓catch_K, ↓catchK_nx, ↓catchK_rt, ↓catchK_exc, unset_rt, hush_rt, hush_nx, hush_ct, fin_exc, ↓bindK_ok, ↓outK_ok, ↓bindK_exc, ↓outK_exc, ↓thenK_nx, ↓thenK_rt, ↓thenK_exc, ↓thenK_bk, ↓thenK_ct, ↓optRK_some, ↓quiet_ok, ↓condK_t, ↓condK_f, ↓truth_bl, qE_slot, qE_isx, qE_k, qE_glob, qE_bin, qE_neg, qE_not, qE_and, qE_or, qE_cmp, qE_chain, qE_ife, qE_ix, qE_slc, qE_rev, qE_tup, qE_lst, qE_call, qE_bi, qE_isi, qE_meth, qE_lc, qE_smeth, qE_get2, qE_setd, qE_dnew, qEs_nil, qEs_cons, qAll_nil, qAll_cons, qO_no, qO_some, qI_seq, qI_range1, qI_range2, qI_range3, qI_zip, qI_enum, qI_enumK, qI_rev, qT_name, qT_tup, qT_sub, qTs_nil, qTs_cons, qS_asg, qS_par, qS_aug, qS_ife, qS_for, qS_forD, qS_while, qS_ret, qS_retN, qS_drop, qS_pass, qS_brk, qS_cont, qS_raise, qS_try, qS_pick, qSs_nil, qSs_cons, dv_int, dv_bl, dv_str, dv_non, List.getElem?_cons_zero, List.getElem?_cons_succ, List.set_cons_zero, List.set_cons_succ, List.length_cons, List.length_nil, Nat.reduceAdd, Nat.reduceLT, if_true, fin_rt, fin_nx, at_0, at_1, at_2, at_3, itemV_ref, itemV_tup, cmp_eq_int, cmp_ne_int, cmp_lt_int, cmp_le_int, cmp_gt_int, cmp_ge_int, bin_add, bin_sub, bi_int_int, call_7, b7, sp1, en, fin_exc]
def toldD (o : Option (Int × List (List Int))) : DV := match o with
  | some (n, W) => .tup [.int n, .tup (W.map rowD)]
  | none => .non
theorem told_ok {z : Str} {ns : List Nat} (hz : Tx z) (hl : ns.length ≤ 1000) (hn : ∀ n ∈ ns, n ≤ 1000) : ∃ s', Ext s s' ∧ callAt Dt Gt subt (k + 5) 11 [.str z, .tup (szD ns)] s = .ok (toldD (rdL (wds (tl z)) ns)) s' := by
  obtain ⟨s', X, c⟩ := line_ok (k := k) (s := s) hz hl hn
  refine ⟨s', X, ?_⟩
  cases hr : rdL (wds (tl z)) ns with
  | none =>
    rw [hr] at c
    have c : _ = Res.exc 1 s' := c
    show _ = Res.ok DV.non s'
    simp -implicitDefEqProofs -dsimp only [↓bind_K, ↓out_K, ↓then_K, ↓optR_K, ↓cond_K, ↓forL_K, ↓lcL_K, ↓whileL_K, ↓catch_K, ↓catchK_nx, ↓catchK_rt, ↓catchK_exc, unset_rt, hush_rt, hush_nx, hush_ct, fin_exc, ↓bindK_ok, ↓outK_ok, ↓bindK_exc, ↓outK_exc, ↓thenK_nx, ↓thenK_rt, ↓thenK_exc, ↓thenK_bk, ↓thenK_ct, ↓optRK_some, ↓quiet_ok, ↓condK_t, ↓condK_f, ↓truth_bl, qE_slot, qE_isx, qE_k, qE_glob, qE_bin, qE_neg, qE_not, qE_and, qE_or, qE_cmp, qE_chain, qE_ife, qE_ix, qE_slc, qE_rev, qE_tup, qE_lst, qE_call, qE_bi, qE_isi, qE_meth, qE_lc, qE_smeth, qE_get2, qE_setd, qE_dnew, qEs_nil, qEs_cons, qAll_nil, qAll_cons, qO_no, qO_some, qI_seq, qI_range1, qI_range2, qI_range3, qI_zip, qI_enum, qI_enumK, qI_rev, qT_name, qT_tup, qT_sub, qTs_nil, qTs_cons, qS_asg, qS_par, qS_aug, qS_ife, qS_for, qS_forD, qS_while, qS_ret, qS_retN, qS_drop, qS_pass, qS_brk, qS_cont, qS_raise, qS_try, qS_pick, qSs_nil, qSs_cons, dv_int, dv_bl, dv_str, dv_non, List.getElem?_cons_zero, List.getElem?_cons_succ, List.set_cons_zero, List.set_cons_succ, List.length_cons, List.length_nil, Nat.reduceAdd, Nat.reduceLT, if_true, fin_rt, fin_nx, at_0, at_1, at_2, at_3, itemV_ref, itemV_tup, cmp_eq_int, cmp_ne_int, cmp_lt_int, cmp_le_int, cmp_gt_int, cmp_ge_int, bin_add, bin_sub, bi_int_int, call_11, b11, b11l0, b11l1, c, sub_1_0, sub_1_1]
  | some nW =>
    obtain ⟨n, W⟩ := nW
    rw [hr] at c
    have c : _ = Res.ok (DV.tup [.int n, .tup (W.map rowD)]) s' := c
    show _ = Res.ok (DV.tup [.int n, .tup (W.map rowD)]) s'
    simp -implicitDefEqProofs -dsimp only [↓bind_K, ↓out_K, ↓then_K, ↓optR_K, ↓cond_K, ↓forL_K, ↓lcL_K, ↓whileL_K, ↓catch_K, ↓catchK_nx, ↓catchK_rt, ↓catchK_exc, unset_rt, hush_rt, hush_nx, hush_ct, fin_exc, ↓bindK_ok, ↓outK_ok, ↓bindK_exc, ↓outK_exc, ↓thenK_nx, ↓thenK_rt, ↓thenK_exc, ↓thenK_bk, ↓thenK_ct, ↓optRK_some, ↓quiet_ok, ↓condK_t, ↓condK_f, ↓truth_bl, qE_slot, qE_isx, qE_k, qE_glob, qE_bin, qE_neg, qE_not, qE_and, qE_or, qE_cmp, qE_chain, qE_ife, qE_ix, qE_slc, qE_rev, qE_tup, qE_lst, qE_call, qE_bi, qE_isi, qE_meth, qE_lc, qE_smeth, qE_get2, qE_setd, qE_dnew, qEs_nil, qEs_cons, qAll_nil, qAll_cons, qO_no, qO_some, qI_seq, qI_range1, qI_range2, qI_range3, qI_zip, qI_enum, qI_enumK, qI_rev, qT_name, qT_tup, qT_sub, qTs_nil, qTs_cons, qS_asg, qS_par, qS_aug, qS_ife, qS_for, qS_forD, qS_while, qS_ret, qS_retN, qS_drop, qS_pass, qS_brk, qS_cont, qS_raise, qS_try, qS_pick, qSs_nil, qSs_cons, dv_int, dv_bl, dv_str, dv_non, List.getElem?_cons_zero, List.getElem?_cons_succ, List.set_cons_zero, List.set_cons_succ, List.length_cons, List.length_nil, Nat.reduceAdd, Nat.reduceLT, if_true, fin_rt, fin_nx, at_0, at_1, at_2, at_3, itemV_ref, itemV_tup, cmp_eq_int, cmp_ne_int, cmp_lt_int, cmp_le_int, cmp_gt_int, cmp_ge_int, bin_add, bin_sub, bi_int_int, call_11, b11, b11l0, b11l1, c, cmpV]
end
section
variable {k : Nat} {s : Store}
theorem ckN_snoc : ∀ (l : List Nat) (j c : Nat), ckN j (l ++ [c]) = ckN j l + (j + l.length) * c
  | [], j, c => by
    show j * c + 0 = 0 + j * c
    omega
  | a :: r, j, c => by
    show j * a + ckN (j + 1) (r ++ [c]) = j * a + ckN (j + 1) r + (j + (r.length + 1)) * c
    rw [ckN_snoc r (j + 1) c, show j + 1 + r.length = j + (r.length + 1) by omega]
    omega
theorem lcheck_ok {z : Str} (hz : Tx z) : callAt Dt Gt subt (k + 1) 12 [.str z] s = .ok (.int (chk (tl z))) s := by
  have hl := hz.ln
  have key := for_word (f := .free) (body := fun x r s => (evT (callAt Dt Gt subt k) Gt subt (.name 2) x r s).out r fun r s => evSs (callAt Dt Gt subt k) Gt subt b12l0 r s) (all := (List.range (tl z).length).map fun (i : Nat) => DV.int (0 + (i : Int))) (r := [some (.str z), some (.int 0), none]) (s := s)
    (fun done r s0 => s0 = s ∧ ∃ w, r = [some (.str z), some (.int ((ckN 1 ((tl z).take done.length) % 65521 : Nat) : Int)), w]) ⟨rfl, none, rfl⟩ (fun _ _ _ _ => trivial)
    (fun d x e r s0 he h => by
      obtain ⟨rfl, w, rfl⟩ := h
      have hxd := congrArg (fun l => l[d.length]?) he
      rw [List.getElem?_append_right (Nat.le_refl _), Nat.sub_self, List.getElem?_cons_zero, List.getElem?_map] at hxd
      have hlen := congrArg List.length he
      rw [List.length_map, List.length_range, List.length_append, List.length_cons] at hlen
      have hlt : d.length < (tl z).length := by omega
      rw [List.getElem?_range hlt] at hxd
      have hx : x = DV.int (0 + (d.length : Int)) := (Option.some.inj hxd).symm
      subst hx
      obtain ⟨c, hc⟩ : ∃ c, (tl z)[d.length]? = some c := ⟨_, List.getElem?_eq_getElem hlt⟩
      have hca := hz.as c (List.mem_of_getElem? hc)
      have it := item_str (z := z) (i := 0 + (d.length : Int)) (c := c) (s := s0) hz.sz (by
        rw [Int.zero_add]
        exact L2.atI_nat hc)
      have hm : binV .mul (.int (0 + (d.length : Int) + 1)) (.int (c : Nat)) s0 = .ok (.int ((0 + (d.length : Int) + 1) * (c : Nat))) s0 := bin_mul (mulOk_r (by omega))
      refine ⟨[some (.str z), some (.int ((((ckN 1 ((tl z).take d.length) % 65521 : Nat) : Int) + (0 + (d.length : Int) + 1) * (c : Nat)) % 65521)), some (.int (0 + (d.length : Int)))], s0, .inl ?_, rfl, some (.int (0 + (d.length : Int))), ?_⟩
      · simp -implicitDefEqProofs -dsimp only [↓bind_K, ↓out_K, ↓then_K, ↓optR_K, ↓cond_K, ↓forL_K, ↓lcL_K, ↓whileL_K, ↓catch_K, ↓catchK_nx, ↓catchK_rt, ↓catchK_exc, unset_rt, hush_rt, hush_nx, hush_ct, fin_exc, ↓bindK_ok, ↓outK_ok, ↓bindK_exc, ↓outK_exc, ↓thenK_nx, ↓thenK_rt, ↓thenK_exc, ↓thenK_bk, ↓thenK_ct, ↓optRK_some, ↓quiet_ok, ↓condK_t, ↓condK_f, ↓truth_bl, qE_slot, qE_isx, qE_k, qE_glob, qE_bin, qE_neg, qE_not, qE_and, qE_or, qE_cmp, qE_chain, qE_ife, qE_ix, qE_slc, qE_rev, qE_tup, qE_lst, qE_call, qE_bi, qE_isi, qE_meth, qE_lc, qE_smeth, qE_get2, qE_setd, qE_dnew, qEs_nil, qEs_cons, qAll_nil, qAll_cons, qO_no, qO_some, qI_seq, qI_range1, qI_range2, qI_range3, qI_zip, qI_enum, qI_enumK, qI_rev, qT_name, qT_tup, qT_sub, qTs_nil, qTs_cons, qS_asg, qS_par, qS_aug, qS_ife, qS_for, qS_forD, qS_while, qS_ret, qS_retN, qS_drop, qS_pass, qS_brk, qS_cont, qS_raise, qS_try, qS_pick, qSs_nil, qSs_cons, dv_int, dv_bl, dv_str, dv_non, List.getElem?_cons_zero, List.getElem?_cons_succ, List.set_cons_zero, List.set_cons_succ, List.length_cons, List.length_nil, Nat.reduceAdd, Nat.reduceLT, if_true, fin_rt, fin_nx, at_0, at_1, at_2, at_3, itemV_ref, itemV_tup, cmp_eq_int, cmp_ne_int, cmp_lt_int, cmp_le_int, cmp_gt_int, cmp_ge_int, bin_add, bin_sub, bi_int_int, b12l0, it, ord_one, hm, bin_mod (show (0 : Int) < 65521 by decide)]
      · have e1 : (tl z).take (d ++ [DV.int (0 + (d.length : Int))]).length = (tl z).take d.length ++ [c] := by
          rw [List.length_append, List.length_singleton, List.take_add_one, hc]
          rfl
        rw [e1, ckN_snoc, List.length_take, Nat.min_eq_left (Nat.le_of_lt hlt)]
        have e2 : ((((ckN 1 ((tl z).take d.length) % 65521 : Nat) : Int) + (0 + (d.length : Int) + 1) * (c : Nat)) % 65521) = (((ckN 1 ((tl z).take d.length) + (1 + d.length) * c) % 65521 : Nat) : Int) := by
          have e3 : (0 + (d.length : Int) + 1) * (c : Nat) = (((1 + d.length) * c : Nat) : Int) := by
            push_cast
            rw [show 0 + (d.length : Int) + 1 = 1 + (d.length : Int) by omega]
          rw [e3]
          generalize (1 + d.length) * c = q
          omega
        rw [e2])
  obtain ⟨r', s', h1, rfl, w, rfl⟩ := key
  have ln := len_str (z := z) (s := s') hz.sz
  have h2 : evS (callAt Dt Gt subt k) Gt subt (.for_ (.name 2) (.range1 (.bi .len (.cons (.slot 0) (.nil)))) b12l0) [some (.str z), some (.int 0), none] s' = _ := evS_for (by
    simp -implicitDefEqProofs -dsimp only [↓bind_K, ↓out_K, ↓then_K, ↓optR_K, ↓cond_K, ↓forL_K, ↓lcL_K, ↓whileL_K, ↓catch_K, ↓catchK_nx, ↓catchK_rt, ↓catchK_exc, unset_rt, hush_rt, hush_nx, hush_ct, fin_exc, ↓bindK_ok, ↓outK_ok, ↓bindK_exc, ↓outK_exc, ↓thenK_nx, ↓thenK_rt, ↓thenK_exc, ↓thenK_bk, ↓thenK_ct, ↓optRK_some, ↓quiet_ok, ↓condK_t, ↓condK_f, ↓truth_bl, qE_slot, qE_isx, qE_k, qE_glob, qE_bin, qE_neg, qE_not, qE_and, qE_or, qE_cmp, qE_chain, qE_ife, qE_ix, qE_slc, qE_rev, qE_tup, qE_lst, qE_call, qE_bi, qE_isi, qE_meth, qE_lc, qE_smeth, qE_get2, qE_setd, qE_dnew, qEs_nil, qEs_cons, qAll_nil, qAll_cons, qO_no, qO_some, qI_seq, qI_range1, qI_range2, qI_range3, qI_zip, qI_enum, qI_enumK, qI_rev, qT_name, qT_tup, qT_sub, qTs_nil, qTs_cons, qS_asg, qS_par, qS_aug, qS_ife, qS_for, qS_forD, qS_while, qS_ret, qS_retN, qS_drop, qS_pass, qS_brk, qS_cont, qS_raise, qS_try, qS_pick, qSs_nil, qSs_cons, dv_int, dv_bl, dv_str, dv_non, List.getElem?_cons_zero, List.getElem?_cons_succ, List.set_cons_zero, List.set_cons_succ, List.length_cons, List.length_nil, Nat.reduceAdd, Nat.reduceLT, if_true, fin_rt, fin_nx, at_0, at_1, at_2, at_3, itemV_ref, itemV_tup, cmp_eq_int, cmp_ne_int, cmp_lt_int, cmp_le_int, cmp_gt_int, cmp_ge_int, bin_add, bin_sub, bi_int_int, ln]
    rw [if_pos ⟨by omega, by omega⟩, Int.toNat_natCast, tl_len]) h1
  rw [List.length_map, List.length_range, List.take_length] at h2
  simp -implicitDefEqProofs -dsimp only [↓bind_K, ↓out_K, ↓then_K, ↓optR_K, ↓cond_K, ↓forL_K, ↓lcL_K, ↓whileL_K, ↓catch_K, ↓catchK_nx, ↓catchK_rt, ↓catchK_exc, unset_rt, hush_rt, hush_nx, hush_ct, fin_exc, ↓bindK_ok, ↓outK_ok, ↓bindK_exc, ↓outK_exc, ↓thenK_nx, ↓thenK_rt, ↓thenK_exc, ↓thenK_bk, ↓thenK_ct, ↓optRK_some, ↓quiet_ok, ↓condK_t, ↓condK_f, ↓truth_bl, qE_slot, qE_isx, qE_k, qE_glob, qE_bin, qE_neg, qE_not, qE_and, qE_or, qE_cmp, qE_chain, qE_ife, qE_ix, qE_slc, qE_rev, qE_tup, qE_lst, qE_call, qE_bi, qE_isi, qE_meth, qE_lc, qE_smeth, qE_get2, qE_setd, qE_dnew, qEs_nil, qEs_cons, qAll_nil, qAll_cons, qO_no, qO_some, qI_seq, qI_range1, qI_range2, qI_range3, qI_zip, qI_enum, qI_enumK, qI_rev, qT_name, qT_tup, qT_sub, qTs_nil, qTs_cons, qS_asg, qS_par, qS_aug, qS_ife, qS_for, qS_forD, qS_while, qS_ret, qS_retN, qS_drop, qS_pass, qS_brk, qS_cont, qS_raise, qS_try, qS_pick, qSs_nil, qSs_cons, dv_int, dv_bl, dv_str, dv_non, List.getElem?_cons_zero, List.getElem?_cons_succ, List.set_cons_zero, List.set_cons_succ, List.length_cons, List.length_nil, Nat.reduceAdd, Nat.reduceLT, if_true, fin_rt, fin_nx, at_0, at_1, at_2, at_3, itemV_ref, itemV_tup, cmp_eq_int, cmp_ne_int, cmp_lt_int, cmp_le_int, cmp_gt_int, cmp_ge_int, bin_add, bin_sub, bi_int_int, call_12, b12, ↓h2]
  rfl
/-! ### numbers that are drawn -/
variable {d : Nat} {s' : Store}
theorem Dr.lt (h : Dr s d) : d < s.length := by
  obtain ⟨l, ns, i, cur, seed, hd, _⟩ := h
  exact lt_of_get hd
theorem Dr.up (h : Dr s d) {p : Nat} {c : Cell} (hp : d < p) : Dr (s.set p c) d := h.keep fun n hn => get_set_ne (by omega)
theorem Dr.more (h : Dr s d) {t : Store} : Dr (s ++ t) d := h.keep fun n hn => List.getElem?_append_left (Nat.lt_of_le_of_lt hn h.lt)
theorem kp_up {s0 : Store} (h : Kp d s0 s) {p : Nat} {c : Cell} (hp : s0.length ≤ p) : Kp d s0 (s.set p c) := ⟨by rw [List.length_set]; exact h.1, fun n hn hd => (get_set_ne (by omega)).trans (h.2 n hn hd)⟩
theorem draw {many : Int} (h : Dr s d) (hm : 0 < many) (hb : many.natAbs.log2 < 9000) : ∃ r s', callAt Dt Gt subt (k + 1) 9 [.ref d, .int many] s = .ok (.int r) s' ∧ 0 ≤ r ∧ r < many ∧ Dr s' d ∧ Kp d s s' := by
  obtain ⟨r, s1, e1, r0, r1, D1, k1, n1⟩ := take_ok (k := k) h hm hb
  exact ⟨r, s1, e1, r0, r1, D1, Kp.take k1 n1⟩
theorem small_log {x : Int} (h0 : 0 ≤ x) (h : x < 2 ^ 200) : x.natAbs.log2 < 9000 := by
  have : ((2 : Int) ^ 200) = ((2 ^ 200 : Nat) : Int) := by norm_cast
  rw [this] at h
  exact Nat.lt_trans (log2_lt (m := 200) (by omega) (by decide)) (by decide)
theorem signed_ok {most : Int} (h : Dr s d) (h0 : 0 ≤ most) (h1 : most ≤ 10 ^ 38) : ∃ r s', callAt Dt Gt subt (k + 2) 10 [.ref d, .int most] s = .ok (.int r) s' ∧ -most ≤ r ∧ r ≤ most ∧ Dr s' d ∧ Kp d s s' := by
  obtain ⟨r, s1, e1, r0, r1, D1, k1⟩ := draw (k := k) (many := 2 * most + 1) h (by omega) (small_log (by omega) (by omega))
  refine ⟨r - most, s1, ?_, by omega, by omega, D1, k1⟩
  simp -implicitDefEqProofs -dsimp only [↓bind_K, ↓out_K, ↓then_K, ↓optR_K, ↓cond_K, ↓forL_K, ↓lcL_K, ↓whileL_K, ↓catch_K, ↓catchK_nx, ↓catchK_rt, ↓catchK_exc, unset_rt, hush_rt, hush_nx, hush_ct, fin_exc, ↓bindK_ok, ↓outK_ok, ↓bindK_exc, ↓outK_exc, ↓thenK_nx, ↓thenK_rt, ↓thenK_exc, ↓thenK_bk, ↓thenK_ct, ↓optRK_some, ↓quiet_ok, ↓condK_t, ↓condK_f, ↓truth_bl, qE_slot, qE_isx, qE_k, qE_glob, qE_bin, qE_neg, qE_not, qE_and, qE_or, qE_cmp, qE_chain, qE_ife, qE_ix, qE_slc, qE_rev, qE_tup, qE_lst, qE_call, qE_bi, qE_isi, qE_meth, qE_lc, qE_smeth, qE_get2, qE_setd, qE_dnew, qEs_nil, qEs_cons, qAll_nil, qAll_cons, qO_no, qO_some, qI_seq, qI_range1, qI_range2, qI_range3, qI_zip, qI_enum, qI_enumK, qI_rev, qT_name, qT_tup, qT_sub, qTs_nil, qTs_cons, qS_asg, qS_par, qS_aug, qS_ife, qS_for, qS_forD, qS_while, qS_ret, qS_retN, qS_drop, qS_pass, qS_brk, qS_cont, qS_raise, qS_try, qS_pick, qSs_nil, qSs_cons, dv_int, dv_bl, dv_str, dv_non, List.getElem?_cons_zero, List.getElem?_cons_succ, List.set_cons_zero, List.set_cons_succ, List.length_cons, List.length_nil, Nat.reduceAdd, Nat.reduceLT, if_true, fin_rt, fin_nx, at_0, at_1, at_2, at_3, itemV_ref, itemV_tup, cmp_eq_int, cmp_ne_int, cmp_lt_int, cmp_le_int, cmp_gt_int, cmp_ge_int, bin_add, bin_sub, bi_int_int, call_10, b10, bin_mul (mulOk_l (i := 2) (j := most) (by decide)), e1]
theorem pow38 {s : Store} : binV .pow (.int 10) (.int 38) s = .ok (.int (10 ^ 38)) s := by
  simp only [binV, binI]
  rw [if_pos (by decide)]
  rfl
/-- numbers of at most forty digits -/
def Sh (i : Int) : Prop := i.natAbs < 10 ^ 40
theorem number_ok (h : Dr s d) : ∃ r s', callAt Dt Gt subt (k + 3) 13 [.ref d] s = .ok (.int r) s' ∧ Sh r ∧ Dr s' d ∧ Kp d s s' := by
  obtain ⟨n, s1, e1, n0, n1, D1, K1⟩ := signed_ok (k := k) (most := 40) h (by decide) (by decide)
  obtain ⟨t, s2, e2, t0, t1, D2, K2⟩ := draw (k := k + 1) (many := 4) D1 (by decide) (by decide)
  obtain ⟨m, s3, e3, m0, m1, D3, K3⟩ := signed_ok (k := k) (most := 10 ^ 38) D2 (by decide) (by decide)
  have e2 : callAt Dt Gt subt (k + 2) 9 [.ref d, .int 4] s1 = .ok (.int t) s2 := e2
  have hm : ∀ s, binV .mul (.int n) (.int (10 ^ 38)) s = .ok (.int (n * 10 ^ 38)) s := fun s => bin_mul (mulOk_l (by omega))
  have hs : Sh (n * 10 ^ 38 + m) := by
    unfold Sh
    have : (10 : Int) ^ 40 = ((10 ^ 40 : Nat) : Int) := by norm_cast
    omega
  have hn : Sh n := by
    unfold Sh
    have : (10 : Nat) ^ 40 ≥ 100 := by decide
    omega
  by_cases ht : t = 1
  · have c1 : (t == 1) = true := by rw [ht]; rfl
    refine ⟨_, s3, ?_, hs, D3, K1.trans (K2.trans K3)⟩
    simp -implicitDefEqProofs -dsimp only [↓bind_K, ↓out_K, ↓then_K, ↓optR_K, ↓cond_K, ↓forL_K, ↓lcL_K, ↓whileL_K, ↓catch_K, ↓catchK_nx, ↓catchK_rt, ↓catchK_exc, unset_rt, hush_rt, hush_nx, hush_ct, fin_exc, ↓bindK_ok, ↓outK_ok, ↓bindK_exc, ↓outK_exc, ↓thenK_nx, ↓thenK_rt, ↓thenK_exc, ↓thenK_bk, ↓thenK_ct, ↓optRK_some, ↓quiet_ok, ↓condK_t, ↓condK_f, ↓truth_bl, qE_slot, qE_isx, qE_k, qE_glob, qE_bin, qE_neg, qE_not, qE_and, qE_or, qE_cmp, qE_chain, qE_ife, qE_ix, qE_slc, qE_rev, qE_tup, qE_lst, qE_call, qE_bi, qE_isi, qE_meth, qE_lc, qE_smeth, qE_get2, qE_setd, qE_dnew, qEs_nil, qEs_cons, qAll_nil, qAll_cons, qO_no, qO_some, qI_seq, qI_range1, qI_range2, qI_range3, qI_zip, qI_enum, qI_enumK, qI_rev, qT_name, qT_tup, qT_sub, qTs_nil, qTs_cons, qS_asg, qS_par, qS_aug, qS_ife, qS_for, qS_forD, qS_while, qS_ret, qS_retN, qS_drop, qS_pass, qS_brk, qS_cont, qS_raise, qS_try, qS_pick, qSs_nil, qSs_cons, dv_int, dv_bl, dv_str, dv_non, List.getElem?_cons_zero, List.getElem?_cons_succ, List.set_cons_zero, List.set_cons_succ, List.length_cons, List.length_nil, Nat.reduceAdd, Nat.reduceLT, if_true, fin_rt, fin_nx, at_0, at_1, at_2, at_3, itemV_ref, itemV_tup, cmp_eq_int, cmp_ne_int, cmp_lt_int, cmp_le_int, cmp_gt_int, cmp_ge_int, bin_add, bin_sub, bi_int_int, call_13, b13, e1, e2, c1, pow38, hm, e3]
  · have c1 : (t == 1) = false := beq_eq_false_iff_ne.mpr ht
    refine ⟨n, s2, ?_, hn, D2, K1.trans K2⟩
    simp -implicitDefEqProofs -dsimp only [↓bind_K, ↓out_K, ↓then_K, ↓optR_K, ↓cond_K, ↓forL_K, ↓lcL_K, ↓whileL_K, ↓catch_K, ↓catchK_nx, ↓catchK_rt, ↓catchK_exc, unset_rt, hush_rt, hush_nx, hush_ct, fin_exc, ↓bindK_ok, ↓outK_ok, ↓bindK_exc, ↓outK_exc, ↓thenK_nx, ↓thenK_rt, ↓thenK_exc, ↓thenK_bk, ↓thenK_ct, ↓optRK_some, ↓quiet_ok, ↓condK_t, ↓condK_f, ↓truth_bl, qE_slot, qE_isx, qE_k, qE_glob, qE_bin, qE_neg, qE_not, qE_and, qE_or, qE_cmp, qE_chain, qE_ife, qE_ix, qE_slc, qE_rev, qE_tup, qE_lst, qE_call, qE_bi, qE_isi, qE_meth, qE_lc, qE_smeth, qE_get2, qE_setd, qE_dnew, qEs_nil, qEs_cons, qAll_nil, qAll_cons, qO_no, qO_some, qI_seq, qI_range1, qI_range2, qI_range3, qI_zip, qI_enum, qI_enumK, qI_rev, qT_name, qT_tup, qT_sub, qTs_nil, qTs_cons, qS_asg, qS_par, qS_aug, qS_ife, qS_for, qS_forD, qS_while, qS_ret, qS_retN, qS_drop, qS_pass, qS_brk, qS_cont, qS_raise, qS_try, qS_pick, qSs_nil, qSs_cons, dv_int, dv_bl, dv_str, dv_non, List.getElem?_cons_zero, List.getElem?_cons_succ, List.set_cons_zero, List.set_cons_succ, List.length_cons, List.length_nil, Nat.reduceAdd, Nat.reduceLT, if_true, fin_rt, fin_nx, at_0, at_1, at_2, at_3, itemV_ref, itemV_tup, cmp_eq_int, cmp_ne_int, cmp_lt_int, cmp_le_int, cmp_gt_int, cmp_ge_int, bin_add, bin_sub, bi_int_int, call_13, b13, e1, e2, c1]
theorem sh_len {i : Int} (h : Sh i) : (strI i).length ≤ 41 := by
  have := numL_len (n := i.natAbs) (k := 40) (by decide) h
  unfold strI
  split
  · rw [List.length_cons]; omega
  · omega
theorem sh_tx {i : Int} (h : Sh i) : Tx ((toString i : String) : Str) := by
  refine ⟨fun c hc => ?_, ?_⟩
  · rw [tls] at hc
    unfold strI at hc
    have h2 := numL_digits i.natAbs
    split at hc
    · rcases List.mem_cons.mp hc with rfl | hc
      · decide
      · have := h2 c hc
        omega
    · have := h2 c hc
      omega
  · rw [tl_len, tls]
    have := sh_len h
    omega
theorem str_int {i : Int} (h : Sh i) : biV .str [.int i] s = .ok (.str (toString i)) s := by
  simp only [biV]
  rw [if_pos (by
    have : (10 : Nat) ^ 40 ≤ 2 ^ 140 := by decide
    have := log2_lt (n := i.natAbs) (m := 140) (Nat.lt_of_lt_of_le h this) (by decide)
    omega)]
end
section
variable {k d : Nat} {s : Store}
def toS (i : Int) : Str := (toString i : String)
def rowS (r : List Int) : List Str := ";" :: r.map toS
theorem toS_tl (i : Int) : tl (toS i) = strI i := tls i
theorem rowS_tl (r : List Int) : (rowS r).map tl = rowL r := by
  unfold rowS rowL
  rw [List.map_cons, semi_tl, List.map_map]
  congr 1
  exact List.map_congr_left fun i _ => tls i
theorem rowsS_tl : ∀ W : List (List Int), (W.flatMap rowS).map tl = W.flatMap rowL
  | [] => rfl
  | r :: W => by rw [List.flatMap_cons, List.flatMap_cons, List.map_append, rowS_tl, rowsS_tl W]
/-- weights of this law -/
structure Wt (W : List (List Int)) : Prop where
  sh : ∀ r ∈ W, ∀ i ∈ r, Sh i
  ln : W.length ≤ 8
  rl : ∀ r ∈ W, 1 ≤ r.length ∧ r.length ≤ 60
theorem Wt.cons {r : List Int} {W : List (List Int)} (h : Wt (r :: W)) : Wt W := ⟨fun x hx => h.sh x (List.mem_cons_of_mem _ hx), by have := h.ln; rw [List.length_cons] at this; omega, fun x hx => h.rl x (List.mem_cons_of_mem _ hx)⟩
theorem rows_len : ∀ {W : List (List Int)} {m : Nat}, (∀ r ∈ W, r.length ≤ 60) → W.length ≤ m → (W.flatMap rowS).length ≤ 61 * m
  | [], m, _, _ => by simp
  | r :: W, m, h, hm => by
    rw [List.length_cons] at hm
    have := rows_len (W := W) (m := m - 1) (fun x hx => h x (List.mem_cons_of_mem _ hx)) (by omega)
    have h2 := h r List.mem_cons_self
    rw [List.flatMap_cons, List.length_append]
    unfold rowS at this ⊢
    rw [List.length_cons, List.length_map]
    omega
def gStr (x : DV) : Option DV := match x with
  | .int i => some (.str (toS i))
  | _ => none
theorem filt_S (r : List Int) : (r.map DV.int).filterMap gStr = (r.map toS).map DV.str := by
  induction r with
  | nil => rfl
  | cons w N ih => rw [List.map_cons, List.map_cons, List.map_cons, ← ih]; rfl
/-- [str(n) for n in row] -/
theorem strs_ok {K0 slot src : Nat} {rr : Ip.Loc} {row : List Int} (h1 : rr[src]? = some (some (rowD row))) (hne : src ≠ slot) (hlt : slot < rr.length) (hr : ∀ i ∈ row, Sh i) (hl : row.length ≤ 1000) :
    evE (callAt Dt Gt subt K0) Gt subt (.lc (.name slot) (.seq (.slot src)) .nil (.bi .str (.cons (.slot slot) .nil)) [slot]) rr s = .ok (.ref s.length) (s ++ [.lst ((row.map toS).map DV.str)]) := by
  rw [← filt_S]
  refine lc_run (f := .free) gStr ?_ (fun _ => free_ok) (fun x hx acc => ?_) (by rw [List.length_map]; exact Nat.le_trans hl (by decide))
  · simp only [evI, evE, h1]
    rfl
  · obtain ⟨i, hi, rfl⟩ := List.mem_map.mp hx
    have st := fun s => str_int (s := s) (hr i hi)
    have w1 : (wipe rr [slot]).length = rr.length := by simp [wipe]
    have w2 : ((wipe rr [slot]).set slot (some (DV.int i)))[slot]? = some (some (.int i)) := List.getElem?_set_self (by rw [w1]; exact hlt)
    simp -implicitDefEqProofs -dsimp only [↓bind_K, ↓out_K, ↓then_K, ↓optR_K, ↓cond_K, ↓forL_K, ↓lcL_K, ↓whileL_K, ↓catch_K, ↓catchK_nx, ↓catchK_rt, ↓catchK_exc, unset_rt, hush_rt, hush_nx, hush_ct, fin_exc, ↓bindK_ok, ↓outK_ok, ↓bindK_exc, ↓outK_exc, ↓thenK_nx, ↓thenK_rt, ↓thenK_exc, ↓thenK_bk, ↓thenK_ct, ↓optRK_some, ↓quiet_ok, ↓condK_t, ↓condK_f, ↓truth_bl, qE_slot, qE_isx, qE_k, qE_glob, qE_bin, qE_neg, qE_not, qE_and, qE_or, qE_cmp, qE_chain, qE_ife, qE_ix, qE_slc, qE_rev, qE_tup, qE_lst, qE_call, qE_bi, qE_isi, qE_meth, qE_lc, qE_smeth, qE_get2, qE_setd, qE_dnew, qEs_nil, qEs_cons, qAll_nil, qAll_cons, qO_no, qO_some, qI_seq, qI_range1, qI_range2, qI_range3, qI_zip, qI_enum, qI_enumK, qI_rev, qT_name, qT_tup, qT_sub, qTs_nil, qTs_cons, qS_asg, qS_par, qS_aug, qS_ife, qS_for, qS_forD, qS_while, qS_ret, qS_retN, qS_drop, qS_pass, qS_brk, qS_cont, qS_raise, qS_try, qS_pick, qSs_nil, qSs_cons, dv_int, dv_bl, dv_str, dv_non, List.getElem?_cons_zero, List.getElem?_cons_succ, List.set_cons_zero, List.set_cons_succ, List.length_cons, List.length_nil, Nat.reduceAdd, Nat.reduceLT, if_true, fin_rt, fin_nx, at_0, at_1, at_2, at_3, itemV_ref, itemV_tup, cmp_eq_int, cmp_ne_int, cmp_lt_int, cmp_le_int, cmp_gt_int, cmp_ge_int, bin_add, bin_sub, bi_int_int, w1, hlt, w2, st]
    rfl
noncomputable abbrev B3 (k : Nat) : DV → Ip.Loc → Store → Out := fun x r s => (evT (callAt Dt Gt subt k) Gt subt (.name 2) x r s).out r fun r s => evSs (callAt Dt Gt subt k) Gt subt b3l0 r s
theorem ww_loop {v : DV} {p : Nat} : ∀ (W : List (List Int)) (acc : List Str) (w2 w3 : Option DV) (s : Store), Wt W → s[p]? = some (.lst (acc.map DV.str)) → acc.length + 61 * W.length ≤ 2000 →
    ∃ s' w2' w3', Kp p s s' ∧ forL .free (B3 k) (W.map rowD) [some v, some (.ref p), w2, w3] s = .nx [some v, some (.ref p), w2', w3'] s' ∧ s'[p]? = some (.lst ((acc ++ W.flatMap rowS).map DV.str))
  | [], acc, w2, w3, s, _, hp, _ => ⟨s, w2, w3, Kp.refl, forL_nil free_ok, by rw [List.flatMap_nil, List.append_nil]; exact hp⟩
  | r :: W, acc, w2, w3, s, hW, hp, hz => by
    rw [List.length_cons] at hz
    have hrl := (hW.rl r List.mem_cons_self).2
    have cp := cellL_of hp
    have ap := append_ok (v := DV.str ";") hp (by rw [List.length_map]; exact Nat.lt_of_le_of_lt (show acc.length ≤ 2000 by omega) (by decide))
    obtain ⟨σ1, h1⟩ : ∃ σ1, s.set p (.lst (acc.map DV.str ++ [.str ";"])) = σ1 := ⟨_, rfl⟩
    have hp1 : σ1[p]? = some (.lst (acc.map DV.str ++ [.str ";"])) := by rw [← h1]; exact get_set hp
    have K1 : Kp p s σ1 := by rw [← h1]; exact ⟨by rw [List.length_set]; exact Nat.le_refl _, fun m hm hd => get_set_ne (Ne.symm hd)⟩
    rw [h1] at ap
    have cp1 := cellL_of hp1
    have lc := strs_ok (K0 := k) (s := σ1) (slot := 3) (src := 2) (rr := [some v, some (.ref p), some (rowD r), w3]) (row := r) rfl (by decide) (show 3 < 4 by decide) (hW.sh r List.mem_cons_self) (by omega)
    obtain ⟨σ2, h2⟩ : ∃ σ2, σ1 ++ [.lst ((r.map toS).map DV.str)] = σ2 := ⟨_, rfl⟩
    have hb : σ2[σ1.length]? = some (.lst ((r.map toS).map DV.str)) := by rw [← h2]; exact get_snoc
    have hp2 : σ2[p]? = some (.lst (acc.map DV.str ++ [.str ";"])) := by rw [← h2]; exact get_more hp1
    have K2 : Kp p σ1 σ2 := by rw [← h2]; exact Kp.app
    rw [h2] at lc
    have ex : mtV .extend (.ref p) [.ref σ1.length] σ2 = .ok .non (σ2.set p (.lst (acc.map DV.str ++ [.str ";"] ++ (r.map toS).map DV.str))) := by
      simp only [mtV, hp2, hb]
      rw [if_pos (by
        rw [List.length_append, List.length_map, List.length_map, List.length_map, List.length_singleton]
        exact Nat.le_trans (show acc.length + 1 + r.length ≤ 3000 by omega) (by decide))]
    obtain ⟨s', w2', w3', K3, e3, hp3⟩ := ww_loop (v := v) (p := p) W (acc ++ rowS r) (some (rowD r)) w3 (σ2.set p (.lst (acc.map DV.str ++ [.str ";"] ++ (r.map toS).map DV.str))) hW.cons (by
      rw [get_set hp2]
      unfold rowS
      rw [List.map_append, List.map_cons, List.append_assoc]
      rfl) (by
      unfold rowS
      rw [List.length_append, List.length_cons, List.length_map]
      omega)
    refine ⟨s', w2', w3', K1.trans (K2.trans (Kp.trans ⟨by rw [List.length_set]; exact Nat.le_refl _, fun m hm hd => get_set_ne (Ne.symm hd)⟩ K3)), ?_, by rw [hp3, List.flatMap_cons, List.append_assoc]⟩
    rw [List.map_cons]
    refine (forL_nx free_ok ?_).trans e3
    simp -implicitDefEqProofs -dsimp only [↓bind_K, ↓out_K, ↓then_K, ↓optR_K, ↓cond_K, ↓forL_K, ↓lcL_K, ↓whileL_K, ↓catch_K, ↓catchK_nx, ↓catchK_rt, ↓catchK_exc, unset_rt, hush_rt, hush_nx, hush_ct, fin_exc, ↓bindK_ok, ↓outK_ok, ↓bindK_exc, ↓outK_exc, ↓thenK_nx, ↓thenK_rt, ↓thenK_exc, ↓thenK_bk, ↓thenK_ct, ↓optRK_some, ↓quiet_ok, ↓condK_t, ↓condK_f, ↓truth_bl, qE_slot, qE_isx, qE_k, qE_glob, qE_bin, qE_neg, qE_not, qE_and, qE_or, qE_cmp, qE_chain, qE_ife, qE_ix, qE_slc, qE_rev, qE_tup, qE_lst, qE_call, qE_bi, qE_isi, qE_meth, qE_lc, qE_smeth, qE_get2, qE_setd, qE_dnew, qEs_nil, qEs_cons, qAll_nil, qAll_cons, qO_no, qO_some, qI_seq, qI_range1, qI_range2, qI_range3, qI_zip, qI_enum, qI_enumK, qI_rev, qT_name, qT_tup, qT_sub, qTs_nil, qTs_cons, qS_asg, qS_par, qS_aug, qS_ife, qS_for, qS_forD, qS_while, qS_ret, qS_retN, qS_drop, qS_pass, qS_brk, qS_cont, qS_raise, qS_try, qS_pick, qSs_nil, qSs_cons, dv_int, dv_bl, dv_str, dv_non, List.getElem?_cons_zero, List.getElem?_cons_succ, List.set_cons_zero, List.set_cons_succ, List.length_cons, List.length_nil, Nat.reduceAdd, Nat.reduceLT, if_true, fin_rt, fin_nx, at_0, at_1, at_2, at_3, itemV_ref, itemV_tup, cmp_eq_int, cmp_ne_int, cmp_lt_int, cmp_le_int, cmp_gt_int, cmp_ge_int, bin_add, bin_sub, bi_int_int, b3l0, cp, gt4, ap, cp1, ↓lc, ex]
theorem words_ok {W : List (List Int)} (hW : Wt W) : ∃ s', Ext s s' ∧ callAt Dt Gt subt (k + 1) 3 [.tup (W.map rowD)] s = .ok (.ref s.length) s' ∧ s'[s.length]? = some (.lst ((W.flatMap rowS).map DV.str)) := by
  have hl := hW.ln
  obtain ⟨s1, w2, w3, K, h1, hp⟩ := ww_loop (k := k) (v := .tup (W.map rowD)) (p := s.length) W [] none none (s ++ [.lst []]) hW get_snoc (by rw [List.length_nil]; omega)
  have h2 : evS (callAt Dt Gt subt k) Gt subt (.for_ (.name 2) (.seq (.slot 0)) b3l0) [some (.tup (W.map rowD)), some (.ref s.length), none, none] (s ++ [.lst []]) = _ := evS_for (by
    simp -implicitDefEqProofs -dsimp only [↓bind_K, ↓out_K, ↓then_K, ↓optR_K, ↓cond_K, ↓forL_K, ↓lcL_K, ↓whileL_K, ↓catch_K, ↓catchK_nx, ↓catchK_rt, ↓catchK_exc, unset_rt, hush_rt, hush_nx, hush_ct, fin_exc, ↓bindK_ok, ↓outK_ok, ↓bindK_exc, ↓outK_exc, ↓thenK_nx, ↓thenK_rt, ↓thenK_exc, ↓thenK_bk, ↓thenK_ct, ↓optRK_some, ↓quiet_ok, ↓condK_t, ↓condK_f, ↓truth_bl, qE_slot, qE_isx, qE_k, qE_glob, qE_bin, qE_neg, qE_not, qE_and, qE_or, qE_cmp, qE_chain, qE_ife, qE_ix, qE_slc, qE_rev, qE_tup, qE_lst, qE_call, qE_bi, qE_isi, qE_meth, qE_lc, qE_smeth, qE_get2, qE_setd, qE_dnew, qEs_nil, qEs_cons, qAll_nil, qAll_cons, qO_no, qO_some, qI_seq, qI_range1, qI_range2, qI_range3, qI_zip, qI_enum, qI_enumK, qI_rev, qT_name, qT_tup, qT_sub, qTs_nil, qTs_cons, qS_asg, qS_par, qS_aug, qS_ife, qS_for, qS_forD, qS_while, qS_ret, qS_retN, qS_drop, qS_pass, qS_brk, qS_cont, qS_raise, qS_try, qS_pick, qSs_nil, qSs_cons, dv_int, dv_bl, dv_str, dv_non, List.getElem?_cons_zero, List.getElem?_cons_succ, List.set_cons_zero, List.set_cons_succ, List.length_cons, List.length_nil, Nat.reduceAdd, Nat.reduceLT, if_true, fin_rt, fin_nx, at_0, at_1, at_2, at_3, itemV_ref, itemV_tup, cmp_eq_int, cmp_ne_int, cmp_lt_int, cmp_le_int, cmp_gt_int, cmp_ge_int, bin_add, bin_sub, bi_int_int]) h1
  refine ⟨s1, kp_ext (p := 0) K, ?_, by rw [List.nil_append] at hp; exact hp⟩
  simp -implicitDefEqProofs -dsimp only [↓bind_K, ↓out_K, ↓then_K, ↓optR_K, ↓cond_K, ↓forL_K, ↓lcL_K, ↓whileL_K, ↓catch_K, ↓catchK_nx, ↓catchK_rt, ↓catchK_exc, unset_rt, hush_rt, hush_nx, hush_ct, fin_exc, ↓bindK_ok, ↓outK_ok, ↓bindK_exc, ↓outK_exc, ↓thenK_nx, ↓thenK_rt, ↓thenK_exc, ↓thenK_bk, ↓thenK_ct, ↓optRK_some, ↓quiet_ok, ↓condK_t, ↓condK_f, ↓truth_bl, qE_slot, qE_isx, qE_k, qE_glob, qE_bin, qE_neg, qE_not, qE_and, qE_or, qE_cmp, qE_chain, qE_ife, qE_ix, qE_slc, qE_rev, qE_tup, qE_lst, qE_call, qE_bi, qE_isi, qE_meth, qE_lc, qE_smeth, qE_get2, qE_setd, qE_dnew, qEs_nil, qEs_cons, qAll_nil, qAll_cons, qO_no, qO_some, qI_seq, qI_range1, qI_range2, qI_range3, qI_zip, qI_enum, qI_enumK, qI_rev, qT_name, qT_tup, qT_sub, qTs_nil, qTs_cons, qS_asg, qS_par, qS_aug, qS_ife, qS_for, qS_forD, qS_while, qS_ret, qS_retN, qS_drop, qS_pass, qS_brk, qS_cont, qS_raise, qS_try, qS_pick, qSs_nil, qSs_cons, dv_int, dv_bl, dv_str, dv_non, List.getElem?_cons_zero, List.getElem?_cons_succ, List.set_cons_zero, List.set_cons_succ, List.length_cons, List.length_nil, Nat.reduceAdd, Nat.reduceLT, if_true, fin_rt, fin_nx, at_0, at_1, at_2, at_3, itemV_ref, itemV_tup, cmp_eq_int, cmp_ne_int, cmp_lt_int, cmp_le_int, cmp_gt_int, cmp_ge_int, bin_add, bin_sub, bi_int_int, call_3, b3, Nat.zero_le, ↓h2]
/-- lengths of the line -/
theorem joinL_len : ∀ {ps : List (List Nat)} {m n : Nat}, (∀ p ∈ ps, p.length ≤ m) → ps.length ≤ n → (joinL [32] ps).length ≤ (m + 1) * n
  | [], m, n, _, _ => by simp [joinL]
  | [p], m, n, h, hn => by
    show p.length ≤ _
    have := h p List.mem_cons_self
    rw [List.length_singleton] at hn
    exact Nat.le_trans (by omega) (Nat.mul_le_mul_left (m + 1) hn)
  | p :: q :: r, m, n, h, hn => by
    rw [List.length_cons] at hn
    have h1 := h p List.mem_cons_self
    have := joinL_len (ps := q :: r) (m := m) (n := n - 1) (fun x hx => h x (List.mem_cons_of_mem _ hx)) (by omega)
    rw [joinL_cons (by simp), List.length_append, List.length_append, List.length_singleton]
    have e : (m + 1) * n = (m + 1) * (n - 1) + (m + 1) := by
      conv => lhs; rw [show n = n - 1 + 1 by omega]
      rw [Nat.mul_add, Nat.mul_one]
    omega
theorem rowsL_mem {W : List (List Int)} {p : List Nat} (hW : ∀ r ∈ W, ∀ i ∈ r, Sh i) (h : p ∈ W.flatMap rowL) : p.length ≤ 41 ∧ ∀ c ∈ p, c < 128 := by
  obtain ⟨r, hr, hp⟩ := List.mem_flatMap.mp h
  unfold rowL at hp
  rcases List.mem_cons.mp hp with rfl | hp
  · exact ⟨by decide, by decide⟩
  · obtain ⟨i, hi, rfl⟩ := List.mem_map.mp hp
    have sh := hW r hr i hi
    refine ⟨sh_len sh, fun c hc => (sh_tx sh).as c ?_⟩
    rw [tls]
    exact hc
theorem head_mem {S : Int} {W : List (List Int)} (hS : Sh S) (hW : ∀ r ∈ W, ∀ i ∈ r, Sh i) {p : List Nat} (h : p ∈ headL S W) : p.length ≤ 41 ∧ ∀ c ∈ p, c < 128 := by
  unfold headL at h
  rcases List.mem_cons.mp h with rfl | h
  · exact ⟨by decide, by decide⟩
  rcases List.mem_cons.mp h with rfl | h
  · refine ⟨sh_len hS, fun c hc => (sh_tx hS).as c ?_⟩
    rw [tls]
    exact hc
  · exact rowsL_mem hW h
theorem head_as {S : Int} {W : List (List Int)} (hS : Sh S) (hW : ∀ r ∈ W, ∀ i ∈ r, Sh i) : ∀ c ∈ joinL [32] (headL S W), c < 128 := fun c hc => by
  rcases mem_join hc with rfl | ⟨p, hp, hc⟩
  · decide
  · exact (head_mem hS hW hp).2 c hc
theorem head_len {S : Int} {W : List (List Int)} (hS : Sh S) (hW : Wt W) : (joinL [32] (headL S W)).length ≤ 21000 := by
  have h1 := rows_len (W := W) (m := 8) (fun r hr => (hW.rl r hr).2) hW.ln
  have h2 : (headL S W).length ≤ 490 := by
    unfold headL
    rw [List.length_cons, List.length_cons, ← rowsS_tl, List.length_map]
    omega
  exact Nat.le_trans (joinL_len (m := 41) (fun p hp => (head_mem hS hW.sh hp).1) h2) (by decide)
theorem headS_tl {S : Int} {W : List (List Int)} : (("step" : Str) :: toS S :: W.flatMap rowS).map tl = headL S W := by
  rw [List.map_cons, List.map_cons, rowsS_tl, step_tl]
  show STEP :: tl (toS S) :: _ = _
  rw [toS_tl]
  rfl
theorem step_tx : Tx "step" := ⟨by rw [step_tl]; decide, by decide +kernel⟩
def jhead (S : Int) (W : List (List Int)) : Str := PySem.Txt.join " " (("step" : Str) :: toS S :: W.flatMap rowS)
theorem jhead_tl {S : Int} {W : List (List Int)} : tl (jhead S W) = joinL [32] (headL S W) := by
  unfold jhead
  rw [tl_joinT, headS_tl]
theorem jhead_tx {S : Int} {W : List (List Int)} (hS : Sh S) (hW : Wt W) : Tx (jhead S W) := ⟨by rw [jhead_tl]; exact head_as hS hW.sh, by rw [tl_len, jhead_tl]; exact Nat.le_trans (head_len hS hW) (by decide)⟩
def jline (S : Int) (W : List (List Int)) : Str := Str.empty ++ jhead S W ++ " " ++ "check" ++ " " ++ ((toString ((chk (joinL [32] (headL S W)) : Nat) : Int) : String) : Str) ++ "\n"
theorem jline_tl {S : Int} {W : List (List Int)} : tl (jline S W) = lineL (joinL [32] (headL S W)) ++ [10] := by
  unfold jline
  have e0 : tl Str.empty = [] := by decide +kernel
  have e1 : tl ("\n" : Str) = [10] := by decide +kernel
  rw [tl_append, tl_append, tl_append, tl_append, tl_append, tl_append, e0, e1, sp_tl, chec_tl, tls, strI_nat, jhead_tl]
  unfold lineL chkW CHECK
  simp
theorem fmt_str {z : Str} (h : z.length ≤ 100000) : biV .fmt [.str z] s = .ok (.str z) s := by
  simp only [biV]
  rw [if_pos h]
theorem fmt_nat {n : Nat} (h : n < 100000) : biV .fmt [.int n] s = .ok (.str (toString (n : Int))) s := by
  simp only [biV]
  rw [if_pos]
  refine ⟨?_, Nat.le_trans (num_tx h).ln (by decide)⟩
  rw [Int.natAbs_natCast]
  have := log2_lt (n := n) (m := 20) (Nat.lt_of_lt_of_le h (by decide)) (by decide)
  omega
theorem journal_ok {S : Int} {W : List (List Int)} (hS : Sh S) (hW : Wt W) : ∃ s', Ext s s' ∧ callAt Dt Gt subt (k + 2) 4 [.int S, .tup (W.map rowD)] s = .ok (.str (jline S W)) s' := by
  have st := str_int (s := s) hS
  obtain ⟨σ1, h1⟩ : ∃ σ1, s ++ [.lst [DV.str "step", .str (toS S)]] = σ1 := ⟨_, rfl⟩
  have x1 : Ext s σ1 := by rw [← h1]; exact Ext.app
  have ha : σ1[s.length]? = some (.lst [DV.str "step", .str (toS S)]) := by rw [← h1]; exact get_snoc
  obtain ⟨σ2, x2, ww, hb⟩ := words_ok (k := k) (s := σ1) hW
  have ha2 := x2.get ha
  have rl := rows_len (W := W) (m := 8) (fun r hr => (hW.rl r hr).2) hW.ln
  have ad : binV .add (.ref s.length) (.ref σ1.length) σ2 = .ok (.ref σ2.length) (σ2 ++ [.lst ([DV.str "step", .str (toS S)] ++ (W.flatMap rowS).map DV.str)]) := by
    simp only [binV, ha2, hb]
    rw [if_pos (by
      rw [List.length_map]
      exact Nat.le_trans (show 2 + (W.flatMap rowS).length ≤ 2000 by omega) (by decide))]
  have jo := join_ok (s := σ2 ++ [.lst ([DV.str "step", .str (toS S)] ++ (W.flatMap rowS).map DV.str)]) (p := σ2.length) (ts := ("step" : Str) :: toS S :: W.flatMap rowS) (by
    rw [cell_snoc]
    rfl) (by
    have h2 := join_sum (headL S W)
    have h3 := head_len hS hW
    have h4 := sum_tl (("step" : Str) :: toS S :: W.flatMap rowS)
    rw [headS_tl] at h4
    have h5 := congrArg List.length (headS_tl (S := S) (W := W))
    rw [List.length_map] at h5
    omega)
  have jo : _ = Res.ok (DV.str (jhead S W)) _ := jo
  have tx := jhead_tx hS hW
  obtain ⟨t, ck⟩ := check_ok (k := k) (s := σ2 ++ [.lst ([DV.str "step", .str (toS S)] ++ (W.flatMap rowS).map DV.str)]) tx.sz tx.uni
  rw [jhead_tl] at ck
  have hlt := chk_lt (joinL [32] (headL S W))
  have f1 := fun s => fmt_str (s := s) (z := jhead S W) (Nat.le_trans tx.ln (by decide))
  have f2 := fun s => fmt_str (s := s) (z := "check") (by decide +kernel)
  have f3 := fun s => fmt_nat (s := s) hlt
  have ct : ∀ (a b c e f g : Str) s, biV .cat [.str a, .str b, .str c, .str e, .str f, .str g] s = .ok (.str (Str.empty ++ a ++ b ++ c ++ e ++ f ++ g)) s := fun _ _ _ _ _ _ _ => rfl
  have z2 : (2 ≤ sizeLine) = True := eq_true (by decide)
  have st : biV .str [.int S] s = .ok (.str (toS S)) s := st
  refine ⟨σ2 ++ [.lst ([DV.str "step", .str (toS S)] ++ (W.flatMap rowS).map DV.str)] ++ [t], x1.trans (x2.trans (Ext.app.trans Ext.app)), ?_⟩
  unfold jline
  simp -implicitDefEqProofs -dsimp only [↓bind_K, ↓out_K, ↓then_K, ↓optR_K, ↓cond_K, ↓forL_K, ↓lcL_K, ↓whileL_K, ↓catch_K, ↓catchK_nx, ↓catchK_rt, ↓catchK_exc, unset_rt, hush_rt, hush_nx, hush_ct, fin_exc, ↓bindK_ok, ↓outK_ok, ↓bindK_exc, ↓outK_exc, ↓thenK_nx, ↓thenK_rt, ↓thenK_exc, ↓thenK_bk, ↓thenK_ct, ↓optRK_some, ↓quiet_ok, ↓condK_t, ↓condK_f, ↓truth_bl, qE_slot, qE_isx, qE_k, qE_glob, qE_bin, qE_neg, qE_not, qE_and, qE_or, qE_cmp, qE_chain, qE_ife, qE_ix, qE_slc, qE_rev, qE_tup, qE_lst, qE_call, qE_bi, qE_isi, qE_meth, qE_lc, qE_smeth, qE_get2, qE_setd, qE_dnew, qEs_nil, qEs_cons, qAll_nil, qAll_cons, qO_no, qO_some, qI_seq, qI_range1, qI_range2, qI_range3, qI_zip, qI_enum, qI_enumK, qI_rev, qT_name, qT_tup, qT_sub, qTs_nil, qTs_cons, qS_asg, qS_par, qS_aug, qS_ife, qS_for, qS_forD, qS_while, qS_ret, qS_retN, qS_drop, qS_pass, qS_brk, qS_cont, qS_raise, qS_try, qS_pick, qSs_nil, qSs_cons, dv_int, dv_bl, dv_str, dv_non, List.getElem?_cons_zero, List.getElem?_cons_succ, List.set_cons_zero, List.set_cons_succ, List.length_cons, List.length_nil, Nat.reduceAdd, Nat.reduceLT, if_true, fin_rt, fin_nx, at_0, at_1, at_2, at_3, itemV_ref, itemV_tup, cmp_eq_int, cmp_ne_int, cmp_lt_int, cmp_le_int, cmp_gt_int, cmp_ge_int, bin_add, bin_sub, bi_int_int, call_4, b4, gt2, gt3, st, z2, h1, ww, ad, jo, f1, f2, ck, f3, ct]
end
/-! ### data compared with itself -/
mutual
theorem eqv_self : ∀ d : PyData, PyData.canLay0 d = true → PyData.eqv d d = true
  | .none, _ => by simp [PyData.eqv]
  | .bool b, _ => by simp [PyData.eqv]
  | .int i, _ => by simp [PyData.eqv]
  | .str x, _ => by simp [PyData.eqv]
  | .list xs, h => by
    unfold PyData.eqv
    exact eqvAll_self xs (by unfold PyData.canLay0 at h; exact h)
  | .tuple xs, h => by
    unfold PyData.eqv
    exact eqvAll_self xs (by unfold PyData.canLay0 at h; exact h)
  | .dict _, h => by simp [PyData.canLay0] at h
theorem eqvAll_self : ∀ l : List PyData, PyData.canLayAll0 l = true → PyData.eqvAll l l = true
  | [], _ => by simp [PyData.eqvAll]
  | x :: l, h => by
    simp only [PyData.canLayAll0, Bool.and_eq_true] at h
    simp only [PyData.eqvAll, eqv_self x h.1, eqvAll_self l h.2, Bool.and_self]
end
section
variable {k d : Nat} {s s' : Store}
theorem ne_same {x : DV} (h : cmpable x = true) : cmpV .ne x x s = .ok false s := by
  show (if (cmpable x && cmpable x) = true then Res.ok (!deq x x) s else _) = _
  rw [h, if_pos (by decide)]
  have : PyData.canLay0 (pd x) = true := by
    unfold cmpable SeqAt.shaped at h
    simp only [Bool.and_eq_true] at h
    exact h.2.1
  unfold deq
  rw [eqv_self _ this]
  rfl
theorem ints_pure : ∀ r : List Int, pures? (r.map DV.int) = true ∧ PyData.canLayAll0 (pds (r.map DV.int)) = true ∧ PyData.depthAll (pds (r.map DV.int)) = 0
  | [] => ⟨rfl, rfl, by simp [pds, PyData.depthAll]⟩
  | i :: r => by
    obtain ⟨h1, h2, h3⟩ := ints_pure r
    rw [List.map_cons]
    refine ⟨?_, ?_, ?_⟩
    · simp only [pures?, pure?, h1, Bool.and_true]
    · simp only [pds, pd, PyData.canLayAll0, PyData.canLay0, h2, Bool.and_true]
    · simp only [pds, pd, PyData.depthAll, PyData.depth, h3]
      omega
theorem rows_pure : ∀ W : List (List Int), pures? (W.map rowD) = true ∧ PyData.canLayAll0 (pds (W.map rowD)) = true ∧ PyData.depthAll (pds (W.map rowD)) ≤ 1
  | [] => ⟨rfl, rfl, by simp [pds, PyData.depthAll]⟩
  | r :: W => by
    obtain ⟨h1, h2, h3⟩ := rows_pure W
    obtain ⟨g1, g2, g3⟩ := ints_pure r
    rw [List.map_cons]
    unfold rowD at *
    refine ⟨?_, ?_, ?_⟩
    · simp only [pures?, pure?, h1, g1, Bool.and_true]
    · simp only [pds, pd, PyData.canLayAll0, PyData.canLay0, h2, g2, Bool.and_true]
    · simp only [pds, pd, PyData.depthAll, PyData.depth, g3]
      omega
theorem pair_cmp (S : Int) (W : List (List Int)) : cmpable (.tup [.int S, .tup (W.map rowD)]) = true := by
  obtain ⟨h1, h2, h3⟩ := rows_pure W
  unfold cmpable SeqAt.shaped
  simp only [pure?, pures?, h1, pd, pds, PyData.canLay0, PyData.canLayAll0, h2, PyData.depth, PyData.depthAll, Bool.and_true, Bool.true_and]
  exact decide_eq_true (by omega)
/-! ### the place of a sign -/
theorem occ_in (x y : Str) (hi : Nat) : ∀ (l : List Nat) (st : Array Nat × Nat), (∀ j ∈ st.fst.toList, j + y.length ≤ hi) → ∀ j ∈ (forIn l st (StrLaws.occBody x y hi 1)).run.fst.toList, j + y.length ≤ hi
  | [], st, h => h
  | a :: l, st, h => by
    rw [List.forIn_cons]
    unfold StrLaws.occBody
    split
    · rename_i hc
      refine occ_in x y hi l _ fun j hj => ?_
      rw [Array.toList_push] at hj
      rcases List.mem_append.mp hj with hj | hj
      · exact h j hj
      · rw [List.mem_singleton.mp hj]
        exact hc.1.2
    · exact occ_in x y hi l _ h
theorem index_ok {z : Str} {i : Int} (h0 : 0 ≤ i) {j : Nat} (hj : i ≤ j) (hz : (tl z)[j]? = some 32) : ∃ p : Nat, p < (tl z).length ∧ ∀ s, smV .index z [.str " ", .int i] s = .ok (.int (p : Nat)) s := by
  have hsp : (" " : Str) = ⟨#[32]⟩ := by decide +kernel
  have hlt := lt_of_get hz
  obtain ⟨lo, hlo⟩ : ∃ lo : Nat, fromIndex z.length i = lo := ⟨_, rfl⟩
  have hlo2 : (lo : Int) = i := by
    rw [← hlo]
    unfold fromIndex
    rw [if_neg (by omega)]
    omega
  have hne : (forIn (List.range' lo (z.length + 1 - lo)) ((#[] : Array Nat), lo) (StrLaws.occBody z " " z.length 1)).run.fst ≠ #[] := fun h => by
    have q := (StrLaws.occ_none z " " z.length (List.range' lo (z.length + 1 - lo)) lo (fun i hi => (List.mem_range'_1.mp hi).1)).mp h j (by
      rw [List.mem_range'_1, tl_len]
      omega)
    rw [hsp] at q
    exact q ((StrLaws.subAt_one z 32 j).mpr hz)
  have hin := occ_in z " " z.length (List.range' lo (z.length + 1 - lo)) ((#[] : Array Nat), lo) (fun j hj => by simp at hj)
  have ho : Builtin.Str.occurrences z " " lo z.length 1 = _ := StrLaws.occ_eq z " " lo z.length 1
  cases hl : (forIn (List.range' lo (z.length + 1 - lo)) ((#[] : Array Nat), lo) (StrLaws.occBody z " " z.length 1)).run.fst.toList with
  | nil => exact absurd (Array.toList_eq_nil_iff.mp hl) hne
  | cons p r =>
    have hp := hin p (by rw [hl]; exact List.mem_cons_self)
    have e1 : (" " : Str).length = 1 := by decide +kernel
    rw [e1] at hp
    refine ⟨p, by rw [← tl_len]; omega, fun s => ?_⟩
    have e2 : PySem.Txt.indexFrom z " " i = some p := by
      unfold PySem.Txt.indexFrom
      rw [hlo, ho, hl]
      rfl
    simp only [smV, e2]
/-! ### one sign replaced -/
theorem cut_drop {α : Type} {L : List α} {a : Nat} (h : a ≤ L.length) : cut L (some (a : Int)) none = L.drop a := by
  unfold cut
  rw [HT.sIx_none, HT.sIx_nat, Nat.min_eq_left h]
  exact List.take_of_length_le (by rw [List.length_drop]; exact Nat.le_refl _)
theorem is_no {x : DV} (h : ∀ c, x ≠ .exc c) (hn : x ≠ .non) : cmpV .is x .non s = .ok false s ∧ cmpV .isNot x .non s = .ok true s := by
  cases x with
  | non => exact absurd rfl hn
  | exc c => exact absurd rfl (h c)
  | _ => exact ⟨rfl, rfl⟩
theorem is_non : cmpV .is .non .non s = .ok true s ∧ cmpV .isNot .non .non s = .ok false s := ⟨rfl, rfl⟩
theorem repl_ok {z : Str} {T : List Nat} {p c : Nat} {ns : List Nat} {w0 w2 w4 w5 w6 w7 w9 w10 w11 w14 w15 w16 w17 w18 w19 w20 : Option DV} (hz : Tx z) (hT : tl z = lineL T) (hp : p < (tl z).length) (hc : c < 128) (hl : ns.length ≤ 1000) (hn : ∀ n ∈ ns, n ≤ 1000) :
    ∃ s', Ext s s' ∧ evS (callAt Dt Gt subt (k + 5)) Gt subt (.ife (.and (.cmp .ne (.ix (.slot 8) (.slot 12)) (.slot 13)) (.cmp .isNot (.call 11 (.cons (.bin .add (.bin .add (.slc (.slot 8) .no (.some (.slot 12))) (.slot 13)) (.slc (.slot 8) (.some (.bin .add (.slot 12) (.k (.int 1)))) .no)) (.cons (.slot 3) (.nil)))) (.k .non))) (.cons (.ret (.k (.bl false))) (.nil)) (.nil))
      [w0, some (.ref d), w2, some (.tup (szD ns)), w4, w5, w6, w7, some (.str z), w9, w10, w11, some (.int (p : Int)), some (.str ⟨#[c]⟩), w14, w15, w16, w17, w18, w19, w20] s = .nx [w0, some (.ref d), w2, some (.tup (szD ns)), w4, w5, w6, w7, some (.str z), w9, w10, w11, some (.int (p : Int)), some (.str ⟨#[c]⟩), w14, w15, w16, w17, w18, w19, w20] s' := by
  obtain ⟨x, hx⟩ : ∃ x, (tl z)[p]? = some x := ⟨_, List.getElem?_eq_getElem hp⟩
  have hxa := hz.as x (List.mem_of_getElem? hx)
  have it := item_str (z := z) (i := (p : Int)) (c := x) (s := s) hz.sz (L2.atI_nat hx)
  have ok1 : ∀ c, c < 128 → PyData.strOk ⟨#[c]⟩ = true := fun c h => one_ok (Nat.lt_trans h (by decide))
  have n1 := ne_str (s := s) (ok1 x hxa) (ok1 c hc)
  have hl8 := hz.ln
  by_cases hxc : (⟨#[x]⟩ : Str) = ⟨#[c]⟩
  · rw [decide_eq_true hxc] at n1
    refine ⟨s, Ext.refl, ?_⟩
    simp -implicitDefEqProofs -dsimp only [↓bind_K, ↓out_K, ↓then_K, ↓optR_K, ↓cond_K, ↓forL_K, ↓lcL_K, ↓whileL_K, ↓catch_K, ↓catchK_nx, ↓catchK_rt, ↓catchK_exc, unset_rt, hush_rt, hush_nx, hush_ct, fin_exc, ↓bindK_ok, ↓outK_ok, ↓bindK_exc, ↓outK_exc, ↓thenK_nx, ↓thenK_rt, ↓thenK_exc, ↓thenK_bk, ↓thenK_ct, ↓optRK_some, ↓quiet_ok, ↓condK_t, ↓condK_f, ↓truth_bl, qE_slot, qE_isx, qE_k, qE_glob, qE_bin, qE_neg, qE_not, qE_and, qE_or, qE_cmp, qE_chain, qE_ife, qE_ix, qE_slc, qE_rev, qE_tup, qE_lst, qE_call, qE_bi, qE_isi, qE_meth, qE_lc, qE_smeth, qE_get2, qE_setd, qE_dnew, qEs_nil, qEs_cons, qAll_nil, qAll_cons, qO_no, qO_some, qI_seq, qI_range1, qI_range2, qI_range3, qI_zip, qI_enum, qI_enumK, qI_rev, qT_name, qT_tup, qT_sub, qTs_nil, qTs_cons, qS_asg, qS_par, qS_aug, qS_ife, qS_for, qS_forD, qS_while, qS_ret, qS_retN, qS_drop, qS_pass, qS_brk, qS_cont, qS_raise, qS_try, qS_pick, qSs_nil, qSs_cons, dv_int, dv_bl, dv_str, dv_non, List.getElem?_cons_zero, List.getElem?_cons_succ, List.set_cons_zero, List.set_cons_succ, List.length_cons, List.length_nil, Nat.reduceAdd, Nat.reduceLT, if_true, fin_rt, fin_nx, at_0, at_1, at_2, at_3, itemV_ref, itemV_tup, cmp_eq_int, cmp_ne_int, cmp_lt_int, cmp_le_int, cmp_gt_int, cmp_ge_int, bin_add, bin_sub, bi_int_int, it, n1, Bool.not_true]
  · rw [decide_eq_false hxc] at n1
    have hne : c ≠ x := fun h => hxc (by rw [h])
    obtain ⟨A, hA⟩ : ∃ A : Str, A = ⟨((tl z).take p).toArray⟩ := ⟨_, rfl⟩
    obtain ⟨B, hB⟩ : ∃ B : Str, B = ⟨((tl z).drop (p + 1)).toArray⟩ := ⟨_, rfl⟩
    have tA : tl A = (tl z).take p := by rw [hA]
    have tB : tl B = (tl z).drop (p + 1) := by rw [hB]
    have lA : A.length ≤ 60000 := by rw [tl_len, tA, List.length_take, ← tl_len]; omega
    have lB : B.length ≤ 60000 := by rw [tl_len, tB, List.length_drop, ← tl_len]; omega
    have sA : sliceV (.str z) none (some (p : Int)) s = .ok (.str A) s := by
      rw [slice_str hz.sz, hA, cut_take (Nat.le_of_lt hp)]
    have sB : sliceV (.str z) (some ((p : Int) + 1)) none s = .ok (.str B) s := by
      rw [slice_str hz.sz, hB, show (p : Int) + 1 = ((p + 1 : Nat) : Int) by omega, cut_drop hp]
    have b1 : binV .add (.str A) (.str ⟨#[c]⟩) s = .ok (.str (A ++ ⟨#[c]⟩)) s := bin_cat (by
      rw [show (⟨#[c]⟩ : Str).length = 1 from rfl]
      exact Nat.le_trans (show A.length + 1 ≤ 60001 by omega) (by decide))
    have lC : (A ++ ⟨#[c]⟩ : Str).length = A.length + 1 := by rw [tl_len, tl_append, List.length_append, tl_len]; rfl
    have b2 : binV .add (.str (A ++ ⟨#[c]⟩)) (.str B) s = .ok (.str (A ++ ⟨#[c]⟩ ++ B)) s := bin_cat (by
      rw [lC]
      exact Nat.le_trans (show A.length + 1 + B.length ≤ 120001 by omega) (by decide))
    have hset : tl (A ++ ⟨#[c]⟩ ++ B) = (tl z).set p c := by
      rw [tl_append, tl_append, tA, tB, List.set_eq_take_append_cons_drop, if_pos hp, List.append_assoc]
      rfl
    have tx : Tx (A ++ ⟨#[c]⟩ ++ B) := by
      refine ⟨fun y hy => ?_, ?_⟩
      · rw [hset] at hy
        rcases List.mem_or_eq_of_mem_set hy with hy | rfl
        · exact hz.as y hy
        · exact hc
      · rw [tl_len, hset, List.length_set, ← tl_len]
        exact hl8
    obtain ⟨s1, X, to⟩ := told_ok (k := k) (s := s) (z := A ++ ⟨#[c]⟩ ++ B) (ns := ns) tx hl hn
    have hno : rdL (wds (tl (A ++ ⟨#[c]⟩ ++ B))) ns = none := Classical.byContradiction fun h => by
      obtain ⟨T', hT'⟩ := rdL_some_line h
      rw [hset, hT] at hT'
      refine flip (by rw [← hT]; exact hx) (by rw [← hT, ← tl_len]; exact hl8) hc (fun y hy => hz.as y ?_) hne hT'
      rw [hT]
      exact List.mem_append_left _ hy
    rw [hno] at to
    have to : _ = Res.ok DV.non s1 := to
    refine ⟨s1, X, ?_⟩
    simp -implicitDefEqProofs -dsimp only [↓bind_K, ↓out_K, ↓then_K, ↓optR_K, ↓cond_K, ↓forL_K, ↓lcL_K, ↓whileL_K, ↓catch_K, ↓catchK_nx, ↓catchK_rt, ↓catchK_exc, unset_rt, hush_rt, hush_nx, hush_ct, fin_exc, ↓bindK_ok, ↓outK_ok, ↓bindK_exc, ↓outK_exc, ↓thenK_nx, ↓thenK_rt, ↓thenK_exc, ↓thenK_bk, ↓thenK_ct, ↓optRK_some, ↓quiet_ok, ↓condK_t, ↓condK_f, ↓truth_bl, qE_slot, qE_isx, qE_k, qE_glob, qE_bin, qE_neg, qE_not, qE_and, qE_or, qE_cmp, qE_chain, qE_ife, qE_ix, qE_slc, qE_rev, qE_tup, qE_lst, qE_call, qE_bi, qE_isi, qE_meth, qE_lc, qE_smeth, qE_get2, qE_setd, qE_dnew, qEs_nil, qEs_cons, qAll_nil, qAll_cons, qO_no, qO_some, qI_seq, qI_range1, qI_range2, qI_range3, qI_zip, qI_enum, qI_enumK, qI_rev, qT_name, qT_tup, qT_sub, qTs_nil, qTs_cons, qS_asg, qS_par, qS_aug, qS_ife, qS_for, qS_forD, qS_while, qS_ret, qS_retN, qS_drop, qS_pass, qS_brk, qS_cont, qS_raise, qS_try, qS_pick, qSs_nil, qSs_cons, dv_int, dv_bl, dv_str, dv_non, List.getElem?_cons_zero, List.getElem?_cons_succ, List.set_cons_zero, List.set_cons_succ, List.length_cons, List.length_nil, Nat.reduceAdd, Nat.reduceLT, if_true, fin_rt, fin_nx, at_0, at_1, at_2, at_3, itemV_ref, itemV_tup, cmp_eq_int, cmp_ne_int, cmp_lt_int, cmp_le_int, cmp_gt_int, cmp_ge_int, bin_add, bin_sub, bi_int_int, it, n1, Bool.not_false, sA, sB, b1, b2, to, is_non]
end
section
variable {k d : Nat} {s s' : Store}
/-! ### comprehensions that draw -/
def Rels (R : DV → DV → Prop) : List DV → List DV → Prop
  | [], [] => True
  | x :: xs, v :: vs => R x v ∧ Rels R xs vs
  | _, _ => False
theorem lcL_drawR {f : Src} {body : DV → Store → Res (Option DV)} (R : DV → DV → Prop) {s1 : Store} (hd : d < s1.length) (hf : ∀ s, Kp d s1 s → f.ok s) : ∀ (xs acc : List DV) (s : Store), Dr s d → Kp d s1 s → s[s1.length]? = some (.lst acc) → acc.length + xs.length ≤ 1000 →
    (∀ x ∈ xs, ∀ s, Dr s d → Kp d s1 s → ∃ v s2, body x s = .ok (some v) s2 ∧ Dr s2 d ∧ Kp d s s2 ∧ R x v) →
    ∃ vs s', lcL s1.length f body xs s = .ok (.ref s1.length) s' ∧ s'[s1.length]? = some (.lst (acc ++ vs)) ∧ Rels R xs vs ∧ Dr s' d ∧ Kp d s1 s'
  | [], acc, s, D, K, hc, _, _ => ⟨[], s, by simp only [lcL]; rw [if_pos (hf _ K)], by rw [List.append_nil]; exact hc, trivial, D, K⟩
  | x :: xs, acc, s, D, K, hc, hz, hb => by
    rw [List.length_cons] at hz
    obtain ⟨v, s2, e1, D2, K2, g⟩ := hb x List.mem_cons_self s D K
    have c2 := K2.get hc (by omega)
    obtain ⟨vs, s', e3, c3, g3, D3, K3⟩ := lcL_drawR R hd hf xs (acc ++ [v]) (s2.set s1.length (.lst (acc ++ [v]))) (D2.up hd) (kp_up (K.trans K2) (Nat.le_refl _)) (get_set c2) (by rw [List.length_append, List.length_singleton]; omega) fun y hy => hb y (List.mem_cons_of_mem _ hy)
    refine ⟨v :: vs, s', ?_, by rw [c3, List.append_assoc]; rfl, ⟨g, g3⟩, D3, K3⟩
    simp only [lcL]
    rw [if_pos (hf _ K), e1]
    simp only [Res.quiet, Res.bind]
    rw [c2]
    simp only
    rw [if_pos (Nat.lt_of_le_of_lt (show acc.length ≤ 1000 by omega) (by decide))]
    exact e3
theorem lc_drawR {K0 : Nat} {t : CT} {it : CI} {e : CE} {own : List Nat} {r : Ip.Loc} {s s1 : Store} {f : Src} {xs : List DV} (R : DV → DV → Prop) (hi : evI (callAt Dt Gt subt K0) Gt subt it r s = .ok (f, xs) s1) (hD : Dr s1 d) (hf : ∀ s, Kp d s1 s → f.ok s) (hz : xs.length ≤ 1000)
    (hb : ∀ x ∈ xs, ∀ s, Dr s d → Kp d s1 s → ∃ v s2, (((evT (callAt Dt Gt subt K0) Gt subt t x (wipe r own) s).bind fun r s => evE (callAt Dt Gt subt K0) Gt subt e r s) = .ok v s2 ∧ Dr s2 d ∧ Kp d s s2 ∧ R x v)) :
    ∃ vs s', evE (callAt Dt Gt subt K0) Gt subt (.lc t it .nil e own) r s = .ok (.ref s1.length) s' ∧ s'[s1.length]? = some (.lst vs) ∧ Rels R xs vs ∧ Dr s' d ∧ Kp d s1 s' := by
  obtain ⟨vs, s', e1, c1, g1, D1, K1⟩ := lcL_drawR (d := d) (f := f) (body := fun x s => (evT (callAt Dt Gt subt K0) Gt subt t x (wipe r own) s).bind fun r s => (evAll (callAt Dt Gt subt K0) Gt subt .nil r s).bind fun b s => cond b ((evE (callAt Dt Gt subt K0) Gt subt e r s).bind fun v s => Res.ok (some v) s) (.ok none s))
    R hD.lt hf xs [] (s1 ++ [.lst []]) hD.more Kp.app get_snoc (by rw [List.length_nil]; omega) (fun x hx s Ds Ks => by
      obtain ⟨v, s2, e2, r2⟩ := hb x hx s Ds Ks
      refine ⟨v, s2, ?_, r2⟩
      cases ht : evT (callAt Dt Gt subt K0) Gt subt t x (wipe r own) s with
      | ok r3 s3 =>
        rw [ht] at e2
        simp only [Res.bind] at e2 ⊢
        rw [qAll_nil]
        simp only [cond]
        rw [e2]
      | exc c s3 => rw [ht] at e2; cases e2
      | stuck => rw [ht] at e2; cases e2)
  refine ⟨vs, s', ?_, c1, g1, D1, K1⟩
  rw [qE_lc, hi]
  simp only [Res.bind]
  exact e1
theorem rels_len {R : DV → DV → Prop} : ∀ {xs vs : List DV}, Rels R xs vs → vs.length = xs.length
  | [], [], _ => rfl
  | x :: xs, v :: vs, h => by rw [List.length_cons, List.length_cons, rels_len h.2]
  | [], _ :: _, h => h.elim
  | _ :: _, [], h => h.elim
theorem sizes_of {m : Nat} : ∀ {xs vs : List DV}, Rels (fun _ v => ∃ n : Nat, v = DV.int (n : Int) ∧ 1 ≤ n ∧ n ≤ m) xs vs → ∃ ns : List Nat, vs = szD ns ∧ ∀ n ∈ ns, 1 ≤ n ∧ n ≤ m
  | [], [], _ => ⟨[], rfl, fun _ h => by cases h⟩
  | x :: xs, v :: vs, h => by
    obtain ⟨⟨n, rfl, hn⟩, h2⟩ := h
    obtain ⟨ns, rfl, hs⟩ := sizes_of h2
    refine ⟨n :: ns, rfl, fun y hy => ?_⟩
    rcases List.mem_cons.mp hy with rfl | hy
    · exact hn
    · exact hs y hy
  | [], _ :: _, h => h.elim
  | _ :: _, [], h => h.elim
theorem nums_of : ∀ {xs vs : List DV}, Rels (fun _ v => ∃ i : Int, v = DV.int i ∧ Sh i) xs vs → ∃ r : List Int, vs = r.map DV.int ∧ ∀ i ∈ r, Sh i
  | [], [], _ => ⟨[], rfl, fun _ h => by cases h⟩
  | x :: xs, v :: vs, h => by
    obtain ⟨⟨n, rfl, hn⟩, h2⟩ := h
    obtain ⟨ns, rfl, hs⟩ := nums_of h2
    refine ⟨n :: ns, rfl, fun y hy => ?_⟩
    rcases List.mem_cons.mp hy with rfl | hy
    · exact hn
    · exact hs y hy
  | [], _ :: _, h => h.elim
  | _ :: _, [], h => h.elim
theorem rows_of : ∀ {ns : List Nat} {vs : List DV}, Rels (fun x v => ∃ (n : Nat) (r : List Int), x = DV.int (n : Int) ∧ v = rowD r ∧ r.length = n ∧ ∀ i ∈ r, Sh i) (szD ns) vs → ∃ W : List (List Int), vs = W.map rowD ∧ W.map List.length = ns ∧ ∀ r ∈ W, ∀ i ∈ r, Sh i
  | [], [], _ => ⟨[], rfl, rfl, fun _ h => by cases h⟩
  | n :: ns, v :: vs, h => by
    obtain ⟨⟨n', r, hx, rfl, hl, hr⟩, h2⟩ := h
    have hx : DV.int (n : Int) = DV.int (n' : Int) := hx
    injection hx with hx
    obtain ⟨W, rfl, hm, hs⟩ := rows_of h2
    refine ⟨r :: W, rfl, by rw [List.map_cons, hm, hl]; congr 1; omega, fun y hy => ?_⟩
    rcases List.mem_cons.mp hy with rfl | hy
    · exact hr
    · exact hs y hy
  | [], _ :: _, h => h.elim
  | _ :: _, [], h => h.elim
theorem four_m {r : Int} (h0 : 0 ≤ r) (h1 : r < 4) : ∃ m : Nat, L2.atI [DV.int 4, .int 4, .int 4, .int 60] r = some (.int (m : Int)) ∧ 1 ≤ m ∧ m ≤ 60 := by
  have : r = 0 ∨ r = 1 ∨ r = 2 ∨ r = 3 := by omega
  rcases this with rfl | rfl | rfl | rfl
  · exact ⟨4, at_0, by decide, by decide⟩
  · exact ⟨4, at_1, by decide, by decide⟩
  · exact ⟨4, at_2, by decide, by decide⟩
  · exact ⟨60, at_3, by decide, by decide⟩
theorem two_m {r : Int} (h0 : 0 ≤ r) (h1 : r < 2) : ∃ m : Int, L2.atI [DV.int 3, .int 8] r = some (.int m) ∧ 1 ≤ m ∧ m ≤ 8 := by
  have : r = 0 ∨ r = 1 := by omega
  rcases this with rfl | rfl
  · exact ⟨3, at_0, by decide, by decide⟩
  · exact ⟨8, at_1, by decide, by decide⟩
theorem sg_four {r : Int} (h0 : 0 ≤ r) (h1 : r < 4) : ∃ c : Nat, L2.atI [DV.str "\t", .str "_", .str ";", .str "\t"] r = some (.str ⟨#[c]⟩) ∧ c < 128 := by
  have e1 : ("\t" : Str) = ⟨#[9]⟩ := by decide +kernel
  have e2 : ("_" : Str) = ⟨#[95]⟩ := by decide +kernel
  have e3 : (";" : Str) = ⟨#[59]⟩ := by decide +kernel
  rw [e1, e2, e3]
  have : r = 0 ∨ r = 1 ∨ r = 2 ∨ r = 3 := by omega
  rcases this with rfl | rfl | rfl | rfl
  · exact ⟨9, at_0, by decide⟩
  · exact ⟨95, at_1, by decide⟩
  · exact ⟨59, at_2, by decide⟩
  · exact ⟨9, at_3, by decide⟩
def SG : Str := "	'`\\ !#$&()*+,-./0123456789:;<=>?@ABCDEFGHIJKLMNOPQRSTUVWXYZ[]^_abcdefghijklmnopqrstuvwxyz{|}~"
theorem sg_def : ("	'`\\ !#$&()*+,-./0123456789:;<=>?@ABCDEFGHIJKLMNOPQRSTUVWXYZ[]^_abcdefghijklmnopqrstuvwxyz{|}~" : Str) = SG := rfl
theorem sg_as : (∀ c ∈ tl SG, c < 128) ∧ (tl SG).length = 94 := by decide +kernel
theorem dg_as : (∀ c ∈ tl ("0123456789" : Str), c < 128) ∧ (tl ("0123456789" : Str)).length = 10 := by decide +kernel
theorem sign_at {z : Str} (ha : ∀ c ∈ tl z, c < 128) (hl : (tl z).length ≤ 200) {r : Int} (h0 : 0 ≤ r) (h1 : r < (tl z).length) : ∃ c : Nat, c < 128 ∧ ∀ s, itemV (.str z) (.int r) s = .ok (.str ⟨#[c]⟩) s := by
  obtain ⟨c, hc, hm⟩ := atI_ex h0 h1
  exact ⟨c, ha c hm, fun s => item_str (by rw [tl_len]; exact Nat.le_trans hl (by decide)) hc⟩
noncomputable abbrev B0 (k : Nat) : DV → Ip.Loc → Store → Out := fun x r s => (evT (callAt Dt Gt subt k) Gt subt (.name 11) x r s).out r fun r s => evSs (callAt Dt Gt subt k) Gt subt b14l0 r s
theorem turn_ok {x : Int} {z : Str} {T : List Nat} {ns : List Nat} {w0 w2 w4 w5 w6 w7 w9 w11 w12 w13 w14 w15 w16 w17 w18 w19 w20 : Option DV} (D : Dr s d) (hz : Tx z) (hT : tl z = lineL T) (hT5 : 5 ≤ T.length) (hl : ns.length ≤ 1000) (hn : ∀ n ∈ ns, n ≤ 1000) :
    ∃ w11' w12' w13' s', B0 (k + 5) (.int x) [w0, some (.ref d), w2, some (.tup (szD ns)), w4, w5, w6, w7, some (.str z), w9, some (.str SG), w11, w12, w13, w14, w15, w16, w17, w18, w19, w20] s = .nx [w0, some (.ref d), w2, some (.tup (szD ns)), w4, w5, w6, w7, some (.str z), w9, some (.str SG), w11', w12', w13', w14, w15, w16, w17, w18, w19, w20] s' ∧ Dr s' d := by
  have hl8 := hz.ln
  have hlz : (tl z).length = T.length + 7 + (numL (chk T)).length := by rw [hT, line_len]
  have dp := dg_pos T
  have dl := dg_len T
  have ln := fun s => len_str (z := z) (s := s) hz.sz
  have lg := fun s => len_str (z := SG) (s := s) (by rw [tl_len, sg_as.2]; decide)
  have eg : ((SG.length : Nat) : Int) = 94 := by rw [tl_len, sg_as.2]; rfl
  obtain ⟨p, s1, e1, p0, p1, D1, -⟩ := draw (k := k + 4) (many := ((z.length : Nat) : Int)) D (by rw [tl_len]; omega) (small_log (by omega) (by omega))
  obtain ⟨r, s2, e2, r0, r1, D2, -⟩ := draw (k := k + 4) (many := ((SG.length : Nat) : Int)) D1 (by rw [eg]; decide) (by rw [eg]; decide)
  obtain ⟨c, hc, it⟩ := sign_at sg_as.1 (by rw [sg_as.2]; decide) r0 (by rw [← tl_len]; exact r1)
  obtain ⟨P, hP⟩ : ∃ P : Nat, p = (P : Int) := ⟨p.toNat, by omega⟩
  subst hP
  have hPl : P < (tl z).length := by rw [← tl_len]; omega
  by_cases x1 : x = 1
  · have c1 : (x == 1) = true := by rw [x1]; rfl
    have c2 : (x == 2) = false := by rw [x1]; rfl
    obtain ⟨r', s3, e3, r0', r1', D3, -⟩ := draw (k := k + 4) (many := 10) D2 (by decide) (by decide)
    obtain ⟨c', hc', it'⟩ := sign_at dg_as.1 (by rw [dg_as.2]; decide) r0' (by rw [dg_as.2]; exact r1')
    obtain ⟨s4, X, re⟩ := repl_ok (k := k) (d := d) (s := s3) (z := z) (T := T) (p := P) (c := c') (ns := ns) (w0 := w0) (w2 := w2) (w4 := w4) (w5 := w5) (w6 := w6) (w7 := w7) (w9 := w9) (w10 := some (.str SG)) (w11 := some (.int x)) (w14 := w14) (w15 := w15) (w16 := w16) (w17 := w17) (w18 := w18) (w19 := w19) (w20 := w20) hz hT hPl hc' hl hn
    refine ⟨some (.int x), some (.int (P : Int)), some (.str ⟨#[c']⟩), s4, ?_, X.dr D3⟩
    simp -implicitDefEqProofs -dsimp only [↓bind_K, ↓out_K, ↓then_K, ↓optR_K, ↓cond_K, ↓forL_K, ↓lcL_K, ↓whileL_K, ↓catch_K, ↓catchK_nx, ↓catchK_rt, ↓catchK_exc, unset_rt, hush_rt, hush_nx, hush_ct, fin_exc, ↓bindK_ok, ↓outK_ok, ↓bindK_exc, ↓outK_exc, ↓thenK_nx, ↓thenK_rt, ↓thenK_exc, ↓thenK_bk, ↓thenK_ct, ↓optRK_some, ↓quiet_ok, ↓condK_t, ↓condK_f, ↓truth_bl, qE_slot, qE_isx, qE_k, qE_glob, qE_bin, qE_neg, qE_not, qE_and, qE_or, qE_cmp, qE_chain, qE_ife, qE_ix, qE_slc, qE_rev, qE_tup, qE_lst, qE_call, qE_bi, qE_isi, qE_meth, qE_lc, qE_smeth, qE_get2, qE_setd, qE_dnew, qEs_nil, qEs_cons, qAll_nil, qAll_cons, qO_no, qO_some, qI_seq, qI_range1, qI_range2, qI_range3, qI_zip, qI_enum, qI_enumK, qI_rev, qT_name, qT_tup, qT_sub, qTs_nil, qTs_cons, qS_asg, qS_par, qS_aug, qS_ife, qS_for, qS_forD, qS_while, qS_ret, qS_retN, qS_drop, qS_pass, qS_brk, qS_cont, qS_raise, qS_try, qS_pick, qSs_nil, qSs_cons, dv_int, dv_bl, dv_str, dv_non, List.getElem?_cons_zero, List.getElem?_cons_succ, List.set_cons_zero, List.set_cons_succ, List.length_cons, List.length_nil, Nat.reduceAdd, Nat.reduceLT, if_true, fin_rt, fin_nx, at_0, at_1, at_2, at_3, itemV_ref, itemV_tup, cmp_eq_int, cmp_ne_int, cmp_lt_int, cmp_le_int, cmp_gt_int, cmp_ge_int, bin_add, bin_sub, bi_int_int, b14l0, ln, lg, e1, e2, it, c1, c2, e3, it', ↓re]
  · have c1 : (x == 1) = false := beq_eq_false_iff_ne.mpr x1
    by_cases x2 : x = 2
    · have c2 : (x == 2) = true := by rw [x2]; rfl
      obtain ⟨i, hi⟩ : ∃ i : Int, (if (z.length : Int) - 12 < (P : Int) then (z.length : Int) - 12 else (P : Int)) = i := ⟨_, rfl⟩
      have mn : ∀ s, biV .min2 [.int (P : Int), .int ((z.length : Int) - 12)] s = .ok (.int i) s := fun s => by rw [← hi]; rfl
      have i0 : 0 ≤ i := by
        rw [← hi, tl_len]
        split <;> omega
      have i1 : i ≤ ((T.length + 6 : Nat) : Int) := by
        rw [← hi, tl_len]
        split <;> omega
      obtain ⟨P', hP', ix⟩ := index_ok (z := z) i0 i1 (by rw [hT]; exact line_32)
      obtain ⟨r', s3, e3, r0', r1', D3, -⟩ := draw (k := k + 4) (many := 4) D2 (by decide) (by decide)
      obtain ⟨c', at4, hc'⟩ := sg_four r0' r1'
      obtain ⟨s4, X, re⟩ := repl_ok (k := k) (d := d) (s := s3) (z := z) (T := T) (p := P') (c := c') (ns := ns) (w0 := w0) (w2 := w2) (w4 := w4) (w5 := w5) (w6 := w6) (w7 := w7) (w9 := w9) (w10 := some (.str SG)) (w11 := some (.int x)) (w14 := w14) (w15 := w15) (w16 := w16) (w17 := w17) (w18 := w18) (w19 := w19) (w20 := w20) hz hT hP' hc' hl hn
      have z4 : (4 ≤ sizeLine) = True := eq_true (by decide)
      refine ⟨some (.int x), some (.int (P' : Int)), some (.str ⟨#[c']⟩), s4, ?_, X.dr D3⟩
      simp -implicitDefEqProofs -dsimp only [↓bind_K, ↓out_K, ↓then_K, ↓optR_K, ↓cond_K, ↓forL_K, ↓lcL_K, ↓whileL_K, ↓catch_K, ↓catchK_nx, ↓catchK_rt, ↓catchK_exc, unset_rt, hush_rt, hush_nx, hush_ct, fin_exc, ↓bindK_ok, ↓outK_ok, ↓bindK_exc, ↓outK_exc, ↓thenK_nx, ↓thenK_rt, ↓thenK_exc, ↓thenK_bk, ↓thenK_ct, ↓optRK_some, ↓quiet_ok, ↓condK_t, ↓condK_f, ↓truth_bl, qE_slot, qE_isx, qE_k, qE_glob, qE_bin, qE_neg, qE_not, qE_and, qE_or, qE_cmp, qE_chain, qE_ife, qE_ix, qE_slc, qE_rev, qE_tup, qE_lst, qE_call, qE_bi, qE_isi, qE_meth, qE_lc, qE_smeth, qE_get2, qE_setd, qE_dnew, qEs_nil, qEs_cons, qAll_nil, qAll_cons, qO_no, qO_some, qI_seq, qI_range1, qI_range2, qI_range3, qI_zip, qI_enum, qI_enumK, qI_rev, qT_name, qT_tup, qT_sub, qTs_nil, qTs_cons, qS_asg, qS_par, qS_aug, qS_ife, qS_for, qS_forD, qS_while, qS_ret, qS_retN, qS_drop, qS_pass, qS_brk, qS_cont, qS_raise, qS_try, qS_pick, qSs_nil, qSs_cons, dv_int, dv_bl, dv_str, dv_non, List.getElem?_cons_zero, List.getElem?_cons_succ, List.set_cons_zero, List.set_cons_succ, List.length_cons, List.length_nil, Nat.reduceAdd, Nat.reduceLT, if_true, fin_rt, fin_nx, at_0, at_1, at_2, at_3, itemV_ref, itemV_tup, cmp_eq_int, cmp_ne_int, cmp_lt_int, cmp_le_int, cmp_gt_int, cmp_ge_int, bin_add, bin_sub, bi_int_int, b14l0, ln, lg, e1, e2, it, c1, c2, mn, ix, e3, z4, at4, ↓re]
    · have c2 : (x == 2) = false := beq_eq_false_iff_ne.mpr x2
      obtain ⟨s4, X, re⟩ := repl_ok (k := k) (d := d) (s := s2) (z := z) (T := T) (p := P) (c := c) (ns := ns) (w0 := w0) (w2 := w2) (w4 := w4) (w5 := w5) (w6 := w6) (w7 := w7) (w9 := w9) (w10 := some (.str SG)) (w11 := some (.int x)) (w14 := w14) (w15 := w15) (w16 := w16) (w17 := w17) (w18 := w18) (w19 := w19) (w20 := w20) hz hT hPl hc hl hn
      refine ⟨some (.int x), some (.int (P : Int)), some (.str ⟨#[c]⟩), s4, ?_, X.dr D2⟩
      simp -implicitDefEqProofs -dsimp only [↓bind_K, ↓out_K, ↓then_K, ↓optR_K, ↓cond_K, ↓forL_K, ↓lcL_K, ↓whileL_K, ↓catch_K, ↓catchK_nx, ↓catchK_rt, ↓catchK_exc, unset_rt, hush_rt, hush_nx, hush_ct, fin_exc, ↓bindK_ok, ↓outK_ok, ↓bindK_exc, ↓outK_exc, ↓thenK_nx, ↓thenK_rt, ↓thenK_exc, ↓thenK_bk, ↓thenK_ct, ↓optRK_some, ↓quiet_ok, ↓condK_t, ↓condK_f, ↓truth_bl, qE_slot, qE_isx, qE_k, qE_glob, qE_bin, qE_neg, qE_not, qE_and, qE_or, qE_cmp, qE_chain, qE_ife, qE_ix, qE_slc, qE_rev, qE_tup, qE_lst, qE_call, qE_bi, qE_isi, qE_meth, qE_lc, qE_smeth, qE_get2, qE_setd, qE_dnew, qEs_nil, qEs_cons, qAll_nil, qAll_cons, qO_no, qO_some, qI_seq, qI_range1, qI_range2, qI_range3, qI_zip, qI_enum, qI_enumK, qI_rev, qT_name, qT_tup, qT_sub, qTs_nil, qTs_cons, qS_asg, qS_par, qS_aug, qS_ife, qS_for, qS_forD, qS_while, qS_ret, qS_retN, qS_drop, qS_pass, qS_brk, qS_cont, qS_raise, qS_try, qS_pick, qSs_nil, qSs_cons, dv_int, dv_bl, dv_str, dv_non, List.getElem?_cons_zero, List.getElem?_cons_succ, List.set_cons_zero, List.set_cons_succ, List.length_cons, List.length_nil, Nat.reduceAdd, Nat.reduceLT, if_true, fin_rt, fin_nx, at_0, at_1, at_2, at_3, itemV_ref, itemV_tup, cmp_eq_int, cmp_ne_int, cmp_lt_int, cmp_le_int, cmp_gt_int, cmp_ge_int, bin_add, bin_sub, bi_int_int, b14l0, ln, lg, e1, e2, it, c1, c2, ↓re]
/-! ### the text is put together -/
noncomputable abbrev Bt (k : Nat) : DV → Ip.Loc → Store → Out := fun x r s => (evT (callAt Dt Gt subt k) Gt subt (.name 7) x r s).out r fun r s => evSs (callAt Dt Gt subt k) Gt subt b14l1 r s
theorem semi3_tl : tl (" ; " : Str) = [32, 59, 32] := by decide +kernel
theorem Wt.pre {A B : List (List Int)} (h : Wt (A ++ B)) : Wt A := ⟨fun x hx => h.sh x (List.mem_append_left _ hx), by have := h.ln; rw [List.length_append] at this; omega, fun x hx => h.rl x (List.mem_append_left _ hx)⟩
theorem head_more {S : Int} {A : List (List Int)} {r : List Int} (hr : r ≠ []) : joinL [32] (headL S (A ++ [r])) = joinL [32] (headL S A) ++ ([32, 59, 32] ++ joinL [32] (r.map strI)) := by
  have e : headL S (A ++ [r]) = headL S A ++ ([59] :: r.map strI) := by
    unfold headL
    rw [List.flatMap_append]
    show STEP :: strI S :: (A.flatMap rowL ++ (rowL r ++ [])) = _
    rw [List.append_nil]
    rfl
  rw [e, joinL_app (by unfold headL; simp) (by simp), joinL_cons (by simpa using hr)]
  rfl
theorem text_loop {S : Int} (hS : Sh S) {v0 v1 v2 v3 v4 v5 v8 v9 v10 v11 v12 v13 v14 v15 v16 v17 v18 v19 v20 : Option DV} : ∀ (W' W0 : List (List Int)) (t : Str) (v7 : Option DV) (s : Store), tl t = joinL [32] (headL S W0) → Wt (W0 ++ W') →
    ∃ t' v7' s', Ext s s' ∧ forL .free (Bt k) (W'.map rowD) [v0, v1, v2, v3, v4, v5, some (.str t), v7, v8, v9, v10, v11, v12, v13, v14, v15, v16, v17, v18, v19, v20] s = .nx [v0, v1, v2, v3, v4, v5, some (.str t'), v7', v8, v9, v10, v11, v12, v13, v14, v15, v16, v17, v18, v19, v20] s' ∧ tl t' = joinL [32] (headL S (W0 ++ W'))
  | [], W0, t, v7, s, ht, _ => ⟨t, v7, s, Ext.refl, forL_nil free_ok, by rw [List.append_nil]; exact ht⟩
  | r :: W', W0, t, v7, s, ht, hW => by
    have hr := hW.rl r (by simp)
    have hsh := hW.sh r (by simp)
    have hne : r ≠ [] := fun h => by rw [h] at hr; simp at hr
    have eW : W0 ++ r :: W' = W0 ++ [r] ++ W' := by rw [List.append_assoc]; rfl
    rw [eW] at hW ⊢
    have lt := head_len hS hW.pre.pre
    have lt2 := head_len hS hW.pre
    rw [head_more hne] at lt2
    rw [List.length_append, List.length_append] at lt2
    have l3 : (" ; " : Str).length = 3 := by decide +kernel
    have b1 : ∀ s, binV .add (.str t) (.str " ; ") s = .ok (.str (t ++ " ; ")) s := fun s => bin_cat (by
      rw [l3, tl_len, ht]
      exact Nat.le_trans (show (joinL [32] (headL S W0)).length + 3 ≤ 30000 by omega) (by decide))
    have lc := strs_ok (K0 := k) (s := s) (slot := 20) (src := 7) (rr := [v0, v1, v2, v3, v4, v5, some (.str t), some (rowD r), v8, v9, v10, v11, v12, v13, v14, v15, v16, v17, v18, v19, v20]) (row := r) rfl (by decide) (show 20 < 21 by decide) hsh (by omega)
    have jt : tl (PySem.Txt.join " " (r.map toS)) = joinL [32] (r.map strI) := by
      rw [tl_joinT, List.map_map]
      congr 1
      exact List.map_congr_left fun i _ => toS_tl i
    have jo := join_ok (s := s ++ [.lst ((r.map toS).map DV.str)]) (p := s.length) (ts := r.map toS) cell_snoc (by
      have h1 := join_sum (r.map strI)
      have h2 := sum_tl (r.map toS)
      rw [List.map_map (f := toS) (g := tl)] at h2
      have h3 : List.map (tl ∘ toS) r = r.map strI := List.map_congr_left fun i _ => toS_tl i
      rw [h3] at h2
      rw [List.length_map] at h1 ⊢
      omega)
    have b2 : ∀ s, binV .add (.str (t ++ " ; ")) (.str (PySem.Txt.join " " (r.map toS))) s = .ok (.str (t ++ " ; " ++ PySem.Txt.join " " (r.map toS))) s := fun s => bin_cat (by
      rw [tl_len, tl_len, tl_append, List.length_append, ht, jt, semi3_tl]
      exact Nat.le_trans (show (joinL [32] (headL S W0)).length + 3 + (joinL [32] (r.map strI)).length ≤ 30000 by omega) (by decide))
    obtain ⟨t', v7', s', X, e, h⟩ := text_loop hS (v0 := v0) (v1 := v1) (v2 := v2) (v3 := v3) (v4 := v4) (v5 := v5) (v8 := v8) (v9 := v9) (v10 := v10) (v11 := v11) (v12 := v12) (v13 := v13) (v14 := v14) (v15 := v15) (v16 := v16) (v17 := v17) (v18 := v18) (v19 := v19) (v20 := v20) W' (W0 ++ [r]) (t ++ " ; " ++ PySem.Txt.join " " (r.map toS)) (some (rowD r)) (s ++ [.lst ((r.map toS).map DV.str)]) (by
      rw [tl_append, tl_append, ht, jt, semi3_tl, head_more hne, List.append_assoc]) hW
    refine ⟨t', v7', s', Ext.app.trans X, ?_, h⟩
    rw [List.map_cons]
    refine (forL_nx free_ok ?_).trans e
    simp -implicitDefEqProofs -dsimp only [↓bind_K, ↓out_K, ↓then_K, ↓optR_K, ↓cond_K, ↓forL_K, ↓lcL_K, ↓whileL_K, ↓catch_K, ↓catchK_nx, ↓catchK_rt, ↓catchK_exc, unset_rt, hush_rt, hush_nx, hush_ct, fin_exc, ↓bindK_ok, ↓outK_ok, ↓bindK_exc, ↓outK_exc, ↓thenK_nx, ↓thenK_rt, ↓thenK_exc, ↓thenK_bk, ↓thenK_ct, ↓optRK_some, ↓quiet_ok, ↓condK_t, ↓condK_f, ↓truth_bl, qE_slot, qE_isx, qE_k, qE_glob, qE_bin, qE_neg, qE_not, qE_and, qE_or, qE_cmp, qE_chain, qE_ife, qE_ix, qE_slc, qE_rev, qE_tup, qE_lst, qE_call, qE_bi, qE_isi, qE_meth, qE_lc, qE_smeth, qE_get2, qE_setd, qE_dnew, qEs_nil, qEs_cons, qAll_nil, qAll_cons, qO_no, qO_some, qI_seq, qI_range1, qI_range2, qI_range3, qI_zip, qI_enum, qI_enumK, qI_rev, qT_name, qT_tup, qT_sub, qTs_nil, qTs_cons, qS_asg, qS_par, qS_aug, qS_ife, qS_for, qS_forD, qS_while, qS_ret, qS_retN, qS_drop, qS_pass, qS_brk, qS_cont, qS_raise, qS_try, qS_pick, qSs_nil, qSs_cons, dv_int, dv_bl, dv_str, dv_non, List.getElem?_cons_zero, List.getElem?_cons_succ, List.set_cons_zero, List.set_cons_succ, List.length_cons, List.length_nil, Nat.reduceAdd, Nat.reduceLT, if_true, fin_rt, fin_nx, at_0, at_1, at_2, at_3, itemV_ref, itemV_tup, cmp_eq_int, cmp_ne_int, cmp_lt_int, cmp_le_int, cmp_gt_int, cmp_ge_int, bin_add, bin_sub, bi_int_int, b14l1, b1, ↓lc, jo, b2]
end
section
variable {k d : Nat} {s s' : Store}
theorem cl_str {z : Str} : clIs (.str z) s (.ty "str") = some true := rfl
theorem need_app : ∀ {a b : List Nat}, need (a ++ b) = need a + need b
  | [], b => by show need b = 0 + need b; omega
  | n :: a, b => by
    show 1 + n + need (a ++ b) = 1 + n + need a + need b
    rw [need_app]
    omega
theorem bad_ok {z : Str} {ns : List Nat} (hz : Tx z) (hl : ns.length ≤ 1000) (hn : ∀ n ∈ ns, n ≤ 1000) (hw : (wds (tl z)).length ≠ 4 + need ns) : ∃ s', Ext s s' ∧ callAt Dt Gt subt (k + 5) 11 [.str z, .tup (szD ns)] s = .ok .non s' := by
  obtain ⟨s1, X, to⟩ := told_ok (k := k) (s := s) hz hl hn
  rw [rdL_none_len hw] at to
  exact ⟨s1, X, to⟩
theorem cut_takeA {α : Type} {L : List α} {a : Nat} (h : a ≤ L.length) : cut L none (some (a : Int)) = L.take a := by
  unfold cut
  rw [HT.sIx_none, HT.sIx_nat, List.drop_zero, Nat.sub_zero, Nat.min_eq_left h]
/-- words left out or doubled -/
theorem mangle {q a b : Nat} {ws : List Str} (hq : cellL s q = some (ws.map DV.str)) (hw : ∀ w ∈ ws, (32 ∉ tl w) ∧ (tl w).length ≤ 41 ∧ ∀ c ∈ tl w, c < 128) (hl : ws.length ≤ 600) (ha : a ≤ ws.length) (hb : b ≤ ws.length) (hne : 0 < a + (ws.length - b)) :
    ∃ s1 s2 s3 J, Ext s s3 ∧ sliceV (.ref q) none (some (a : Int)) s = .ok (.ref s.length) s1 ∧ sliceV (.ref q) (some (b : Int)) none s1 = .ok (.ref s1.length) s2 ∧ binV .add (.ref s.length) (.ref s1.length) s2 = .ok (.ref s2.length) s3 ∧ smV .join " " [.ref s2.length] s3 = .ok (.str J) s3 ∧ Tx J ∧ (wds (tl J)).length = a + (ws.length - b) := by
  obtain ⟨M, hM⟩ : ∃ M, ws.take a ++ ws.drop b = M := ⟨_, rfl⟩
  have mM : ∀ w ∈ M, w ∈ ws := fun w h => by
    rw [← hM] at h
    rcases List.mem_append.mp h with h | h
    · exact List.mem_of_mem_take h
    · exact List.mem_of_mem_drop h
  have lM : M.length = a + (ws.length - b) := by rw [← hM, List.length_append, List.length_take, List.length_drop]; omega
  have e1 : sliceV (.ref q) none (some (a : Int)) s = .ok (.ref s.length) (s ++ [.lst ((ws.take a).map DV.str)]) := by
    rw [slice_ref hq, cut_map, cut_takeA ha]
  obtain ⟨s1, h1⟩ : ∃ s1, s ++ [.lst ((ws.take a).map DV.str)] = s1 := ⟨_, rfl⟩
  have x1 : Ext s s1 := by rw [← h1]; exact Ext.app
  have c1 : s1[s.length]? = some (.lst ((ws.take a).map DV.str)) := by rw [← h1]; exact get_snoc
  rw [h1] at e1
  have e2 : sliceV (.ref q) (some (b : Int)) none s1 = .ok (.ref s1.length) (s1 ++ [.lst ((ws.drop b).map DV.str)]) := by
    rw [slice_ref (x1.cell hq), cut_map, cut_drop hb]
  obtain ⟨s2, h2⟩ : ∃ s2, s1 ++ [.lst ((ws.drop b).map DV.str)] = s2 := ⟨_, rfl⟩
  have x2 : Ext s1 s2 := by rw [← h2]; exact Ext.app
  have c2 : s2[s1.length]? = some (.lst ((ws.drop b).map DV.str)) := by rw [← h2]; exact get_snoc
  rw [h2] at e2
  have c1' := x2.get c1
  have e3 : binV .add (.ref s.length) (.ref s1.length) s2 = .ok (.ref s2.length) (s2 ++ [.lst (M.map DV.str)]) := by
    simp only [binV, c1', c2]
    rw [if_pos (by
      rw [List.length_map, List.length_map, List.length_take, List.length_drop]
      exact Nat.le_trans (show min a ws.length + (ws.length - b) ≤ 2000 by omega) (by decide)), ← List.map_append, hM]
  have tj : (joinL [32] (M.map tl)).length ≤ 50400 := Nat.le_trans (joinL_len (m := 41) (n := 1200) (fun p hp => by
    obtain ⟨w, hw2, rfl⟩ := List.mem_map.mp hp
    exact (hw w (mM w hw2)).2.1) (by rw [List.length_map]; omega)) (by decide)
  have jo := join_ok (s := s2 ++ [.lst (M.map DV.str)]) (p := s2.length) (ts := M) cell_snoc (by
    have h1 := join_sum (M.map tl)
    have h2 := sum_tl M
    rw [List.length_map] at h1
    omega)
  refine ⟨s1, s2, _, _, x1.trans (x2.trans Ext.app), e1, e2, e3, jo, ⟨fun c hc => ?_, ?_⟩, ?_⟩
  · rw [tl_joinT] at hc
    rcases mem_join hc with rfl | ⟨p, hp, hc⟩
    · decide
    · obtain ⟨w, hw2, rfl⟩ := List.mem_map.mp hp
      exact (hw w (mM w hw2)).2.2 c hc
  · rw [tl_len, tl_joinT]
    omega
  · rw [tl_joinT, wds_join, List.length_map, lM]
    · intro h
      have := congrArg List.length h
      rw [List.length_map, List.length_nil] at this
      omega
    · intro p hp
      obtain ⟨w, hw2, rfl⟩ := List.mem_map.mp hp
      exact (hw w (mM w hw2)).1
theorem all_len {S : Int} {W : List (List Int)} : (allL S W).length = 4 + need (W.map List.length) := by
  have h : ∀ W : List (List Int), (W.flatMap rowL).length = need (W.map List.length) := by
    intro W
    induction W with
    | nil => rfl
    | cons r W ih =>
      rw [List.flatMap_cons, List.length_append, ih]
      show (r.map strI).length + 1 + _ = 1 + r.length + _
      rw [List.length_map]
      omega
  unfold allL headL
  rw [List.length_append, List.length_cons, List.length_cons, h]
  simp only [List.length_cons, List.length_nil]
  omega
theorem all_mem {S : Int} {W : List (List Int)} (hS : Sh S) (hW : ∀ r ∈ W, ∀ i ∈ r, Sh i) {p : List Nat} (h : p ∈ allL S W) : p.length ≤ 41 ∧ ∀ c ∈ p, c < 128 := by
  unfold allL at h
  rcases List.mem_append.mp h with h | h
  · exact head_mem hS hW h
  rcases List.mem_cons.mp h with rfl | h
  · exact ⟨by decide, by decide⟩
  rcases List.mem_cons.mp h with rfl | h
  · refine ⟨Nat.le_trans (dg_len _) (by decide), fun c hc => ?_⟩
    have := numL_digits _ c hc
    omega
  · cases h
theorem weights_drawn {m : Nat} {ns : List Nat} {v0 v2 v5 v6 v7 v8 v9 v10 v11 v12 v13 v14 v15 v16 v17 v18 v19 v20 : Option DV} (D : Dr s 2) (hn : ∀ n ∈ ns, 1 ≤ n ∧ n ≤ m) (hm : m ≤ 60) (hl : ns.length ≤ 8) :
    ∃ (W : List (List Int)) (s' : Store) (q : Nat), W.map List.length = ns ∧ Wt W ∧ Dr s' 2 ∧ evE (callAt Dt Gt subt (k + 3)) Gt subt (.lc (.name 19) (.seq (.slot 3)) (.nil) (.bi .tuple (.cons (.lc (.name 18) (.range1 (.slot 19)) (.nil) (.call 13 (.cons (.slot 1) (.nil))) [18]) (.nil))) [19])
      [v0, some (.ref 2), v2, some (.tup (szD ns)), none, v5, v6, v7, v8, v9, v10, v11, v12, v13, v14, v15, v16, v17, v18, v19, v20] s = .ok (.ref q) s' ∧ cellL s' q = some (W.map rowD) := by
  obtain ⟨vs, s1, e1, c1, R1, D1, K1⟩ := lc_drawR (d := 2) (K0 := k + 3) (t := .name 19) (it := .seq (.slot 3)) (e := .bi .tuple (.cons (.lc (.name 18) (.range1 (.slot 19)) (.nil) (.call 13 (.cons (.slot 1) (.nil))) [18]) (.nil))) (own := [19])
    (r := [v0, some (.ref 2), v2, some (.tup (szD ns)), none, v5, v6, v7, v8, v9, v10, v11, v12, v13, v14, v15, v16, v17, v18, v19, v20]) (s := s) (s1 := s) (f := .free) (xs := szD ns) (fun x v => ∃ (n : Nat) (r : List Int), x = DV.int (n : Int) ∧ v = rowD r ∧ r.length = n ∧ ∀ i ∈ r, Sh i) (by
      simp -implicitDefEqProofs -dsimp only [↓bind_K, ↓out_K, ↓then_K, ↓optR_K, ↓cond_K, ↓forL_K, ↓lcL_K, ↓whileL_K, ↓catch_K, ↓catchK_nx, ↓catchK_rt, ↓catchK_exc, unset_rt, hush_rt, hush_nx, hush_ct, fin_exc, ↓bindK_ok, ↓outK_ok, ↓bindK_exc, ↓outK_exc, ↓thenK_nx, ↓thenK_rt, ↓thenK_exc, ↓thenK_bk, ↓thenK_ct, ↓optRK_some, ↓quiet_ok, ↓condK_t, ↓condK_f, ↓truth_bl, qE_slot, qE_isx, qE_k, qE_glob, qE_bin, qE_neg, qE_not, qE_and, qE_or, qE_cmp, qE_chain, qE_ife, qE_ix, qE_slc, qE_rev, qE_tup, qE_lst, qE_call, qE_bi, qE_isi, qE_meth, qE_lc, qE_smeth, qE_get2, qE_setd, qE_dnew, qEs_nil, qEs_cons, qAll_nil, qAll_cons, qO_no, qO_some, qI_seq, qI_range1, qI_range2, qI_range3, qI_zip, qI_enum, qI_enumK, qI_rev, qT_name, qT_tup, qT_sub, qTs_nil, qTs_cons, qS_asg, qS_par, qS_aug, qS_ife, qS_for, qS_forD, qS_while, qS_ret, qS_retN, qS_drop, qS_pass, qS_brk, qS_cont, qS_raise, qS_try, qS_pick, qSs_nil, qSs_cons, dv_int, dv_bl, dv_str, dv_non, List.getElem?_cons_zero, List.getElem?_cons_succ, List.set_cons_zero, List.set_cons_succ, List.length_cons, List.length_nil, Nat.reduceAdd, Nat.reduceLT, if_true, fin_rt, fin_nx, at_0, at_1, at_2, at_3, itemV_ref, itemV_tup, cmp_eq_int, cmp_ne_int, cmp_lt_int, cmp_le_int, cmp_gt_int, cmp_ge_int, bin_add, bin_sub, bi_int_int]) D (fun _ _ => free_ok) (by unfold szD; rw [List.length_map]; omega) (fun x hx sA DA KA => by
      obtain ⟨n, hnn, rfl⟩ := List.mem_map.mp hx
      have hn1 := hn n hnn
      have rg : (-(2 ^ 62) ≤ (n : Int) ∧ (n : Int) < 2 ^ 62) = True := eq_true (by omega)
      obtain ⟨us, sB, eB, cB, RB, DB, KB⟩ := lc_drawR (d := 2) (K0 := k + 3) (t := .name 18) (it := .range1 (.slot 19)) (e := .call 13 (.cons (.slot 1) (.nil))) (own := [18])
        (r := [v0, some (.ref 2), v2, some (.tup (szD ns)), none, v5, v6, v7, v8, v9, v10, v11, v12, v13, v14, v15, v16, v17, v18, some (.int (n : Int)), v20]) (s := sA) (s1 := sA) (f := .free) (xs := (List.range ((n : Int)).toNat).map fun (i : Nat) => DV.int (0 + (i : Int))) (fun _ v => ∃ i : Int, v = DV.int i ∧ Sh i) (by
          simp -implicitDefEqProofs -dsimp only [↓bind_K, ↓out_K, ↓then_K, ↓optR_K, ↓cond_K, ↓forL_K, ↓lcL_K, ↓whileL_K, ↓catch_K, ↓catchK_nx, ↓catchK_rt, ↓catchK_exc, unset_rt, hush_rt, hush_nx, hush_ct, fin_exc, ↓bindK_ok, ↓outK_ok, ↓bindK_exc, ↓outK_exc, ↓thenK_nx, ↓thenK_rt, ↓thenK_exc, ↓thenK_bk, ↓thenK_ct, ↓optRK_some, ↓quiet_ok, ↓condK_t, ↓condK_f, ↓truth_bl, qE_slot, qE_isx, qE_k, qE_glob, qE_bin, qE_neg, qE_not, qE_and, qE_or, qE_cmp, qE_chain, qE_ife, qE_ix, qE_slc, qE_rev, qE_tup, qE_lst, qE_call, qE_bi, qE_isi, qE_meth, qE_lc, qE_smeth, qE_get2, qE_setd, qE_dnew, qEs_nil, qEs_cons, qAll_nil, qAll_cons, qO_no, qO_some, qI_seq, qI_range1, qI_range2, qI_range3, qI_zip, qI_enum, qI_enumK, qI_rev, qT_name, qT_tup, qT_sub, qTs_nil, qTs_cons, qS_asg, qS_par, qS_aug, qS_ife, qS_for, qS_forD, qS_while, qS_ret, qS_retN, qS_drop, qS_pass, qS_brk, qS_cont, qS_raise, qS_try, qS_pick, qSs_nil, qSs_cons, dv_int, dv_bl, dv_str, dv_non, List.getElem?_cons_zero, List.getElem?_cons_succ, List.set_cons_zero, List.set_cons_succ, List.length_cons, List.length_nil, Nat.reduceAdd, Nat.reduceLT, if_true, fin_rt, fin_nx, at_0, at_1, at_2, at_3, itemV_ref, itemV_tup, cmp_eq_int, cmp_ne_int, cmp_lt_int, cmp_le_int, cmp_gt_int, cmp_ge_int, bin_add, bin_sub, bi_int_int, rg]) DA (fun _ _ => free_ok) (by rw [List.length_map, List.length_range]; omega) (fun y hy sC DC KC => by
          obtain ⟨r, sD, eD, hr, DD, KD⟩ := number_ok (k := k) DC
          refine ⟨_, sD, ?_, DD, KD, r, rfl, hr⟩
          simp -implicitDefEqProofs -dsimp only [↓bind_K, ↓out_K, ↓then_K, ↓optR_K, ↓cond_K, ↓forL_K, ↓lcL_K, ↓whileL_K, ↓catch_K, ↓catchK_nx, ↓catchK_rt, ↓catchK_exc, unset_rt, hush_rt, hush_nx, hush_ct, fin_exc, ↓bindK_ok, ↓outK_ok, ↓bindK_exc, ↓outK_exc, ↓thenK_nx, ↓thenK_rt, ↓thenK_exc, ↓thenK_bk, ↓thenK_ct, ↓optRK_some, ↓quiet_ok, ↓condK_t, ↓condK_f, ↓truth_bl, qE_slot, qE_isx, qE_k, qE_glob, qE_bin, qE_neg, qE_not, qE_and, qE_or, qE_cmp, qE_chain, qE_ife, qE_ix, qE_slc, qE_rev, qE_tup, qE_lst, qE_call, qE_bi, qE_isi, qE_meth, qE_lc, qE_smeth, qE_get2, qE_setd, qE_dnew, qEs_nil, qEs_cons, qAll_nil, qAll_cons, qO_no, qO_some, qI_seq, qI_range1, qI_range2, qI_range3, qI_zip, qI_enum, qI_enumK, qI_rev, qT_name, qT_tup, qT_sub, qTs_nil, qTs_cons, qS_asg, qS_par, qS_aug, qS_ife, qS_for, qS_forD, qS_while, qS_ret, qS_retN, qS_drop, qS_pass, qS_brk, qS_cont, qS_raise, qS_try, qS_pick, qSs_nil, qSs_cons, dv_int, dv_bl, dv_str, dv_non, List.getElem?_cons_zero, List.getElem?_cons_succ, List.set_cons_zero, List.set_cons_succ, List.length_cons, List.length_nil, Nat.reduceAdd, Nat.reduceLT, if_true, fin_rt, fin_nx, at_0, at_1, at_2, at_3, itemV_ref, itemV_tup, cmp_eq_int, cmp_ne_int, cmp_lt_int, cmp_le_int, cmp_gt_int, cmp_ge_int, bin_add, bin_sub, bi_int_int, wipe, eD])
      have lB := rels_len RB
      obtain ⟨r, rfl, hr⟩ := nums_of RB
      rw [List.length_map, List.length_map, List.length_range, Int.toNat_natCast] at lB
      have tu := tuple_ref (cellL_of cB)
      refine ⟨_, sB, ?_, DB, KB, n, r, rfl, rfl, lB, hr⟩
      simp -implicitDefEqProofs -dsimp only [↓bind_K, ↓out_K, ↓then_K, ↓optR_K, ↓cond_K, ↓forL_K, ↓lcL_K, ↓whileL_K, ↓catch_K, ↓catchK_nx, ↓catchK_rt, ↓catchK_exc, unset_rt, hush_rt, hush_nx, hush_ct, fin_exc, ↓bindK_ok, ↓outK_ok, ↓bindK_exc, ↓outK_exc, ↓thenK_nx, ↓thenK_rt, ↓thenK_exc, ↓thenK_bk, ↓thenK_ct, ↓optRK_some, ↓quiet_ok, ↓condK_t, ↓condK_f, ↓truth_bl, qE_slot, qE_isx, qE_k, qE_glob, qE_bin, qE_neg, qE_not, qE_and, qE_or, qE_cmp, qE_chain, qE_ife, qE_ix, qE_slc, qE_rev, qE_tup, qE_lst, qE_call, qE_bi, qE_isi, qE_meth, qE_lc, qE_smeth, qE_get2, qE_setd, qE_dnew, qEs_nil, qEs_cons, qAll_nil, qAll_cons, qO_no, qO_some, qI_seq, qI_range1, qI_range2, qI_range3, qI_zip, qI_enum, qI_enumK, qI_rev, qT_name, qT_tup, qT_sub, qTs_nil, qTs_cons, qS_asg, qS_par, qS_aug, qS_ife, qS_for, qS_forD, qS_while, qS_ret, qS_retN, qS_drop, qS_pass, qS_brk, qS_cont, qS_raise, qS_try, qS_pick, qSs_nil, qSs_cons, dv_int, dv_bl, dv_str, dv_non, List.getElem?_cons_zero, List.getElem?_cons_succ, List.set_cons_zero, List.set_cons_succ, List.length_cons, List.length_nil, Nat.reduceAdd, Nat.reduceLT, if_true, fin_rt, fin_nx, at_0, at_1, at_2, at_3, itemV_ref, itemV_tup, cmp_eq_int, cmp_ne_int, cmp_lt_int, cmp_le_int, cmp_gt_int, cmp_ge_int, bin_add, bin_sub, bi_int_int, wipe, ↓eB, tu]
      rfl)
  obtain ⟨W, rfl, hm2, hs⟩ := rows_of R1
  have lW : W.length = ns.length := by rw [← hm2, List.length_map]
  refine ⟨W, s1, s.length, hm2, ⟨hs, by omega, fun r hr => ?_⟩, D1, e1, cellL_of c1⟩
  have := hn r.length (by rw [← hm2]; exact List.mem_map_of_mem hr)
  omega
end
section
variable {k : Nat} {s : Store}
theorem steps_tl : tl ("step " : Str) = [115, 116, 101, 112, 32] := by decide +kernel
theorem chk_tl : tl (" check " : Str) = chkW := by decide +kernel
theorem nl_tl : tl ("\n" : Str) = [10] := by decide +kernel
theorem empty_tx : Tx "" := ⟨by decide +kernel, by decide +kernel⟩
theorem empty_wds : (wds (tl ("" : Str))).length = 1 := by decide +kernel
theorem int_abs {i : Int} {s : Store} : biV .abs [.int i] s = .ok (.int ((i.natAbs : Nat) : Int)) s := abs_nat
theorem szD_cons {n : Nat} {ns : List Nat} : szD (n :: ns) = .int (n : Int) :: szD ns := rfl
theorem law_go {ns : List Int} : ∃ s', callAt Dt Gt subt (k + 6) 14 [.ref 0] [.frz (ns.map DV.int)] = .ok (.bl true) s' := by
  obtain ⟨seed, hb⟩ := begin_ok (k := k + 4) (ns := ns)
  obtain ⟨S0, hS0⟩ : ∃ S : Store, S = [.frz (ns.map DV.int), .lst (ns.map DV.int), .lst [.ref 1, .int 0, .int 0, .int seed]] := ⟨_, rfl⟩
  have D0 : Dr S0 2 := by rw [hS0]; exact ⟨1, ns, 0, 0, seed, rfl, rfl, Int.le_refl 0, Int.le_refl 0, by decide⟩
  rw [← hS0] at hb
  clear hS0
  have z2 : (2 ≤ sizeLine) = True := eq_true (by decide)
  have z1 : (1 ≤ sizeLine) = True := eq_true (by decide)
  have z4 : (4 ≤ sizeLine) = True := eq_true (by decide)
  -- how many
  obtain ⟨r1, s1, e1, r10, r11, D1, -⟩ := draw (k := k + 4) (many := 4) D0 (by decide) (by decide)
  obtain ⟨m, am, m1, m60⟩ := four_m r10 r11
  obtain ⟨r2, s2, e2, r20, r21, D2, -⟩ := draw (k := k + 4) (many := 2) D1 (by decide) (by decide)
  obtain ⟨m2, am2, m21, m28⟩ := two_m r20 r21
  obtain ⟨r3, s3, e3, r30, r31, D3, -⟩ := draw (k := k + 4) (many := m2) D2 (by omega) (small_log (by omega) (by omega))
  have rg : (-(2 ^ 62) ≤ (1 + r3 : Int) ∧ (1 + r3 : Int) < 2 ^ 62) = True := eq_true (by omega)
  obtain ⟨vs, s4, e4, c4, R4, D4, -⟩ := lc_drawR (d := 2) (K0 := k + 5) (t := .name 18) (it := .range1 (.bin .add (.k (.int 1)) (.call 9 (.cons (.slot 1) (.cons (.ix (.tup (.cons (.k (.int 3)) (.cons (.k (.int 8)) (.nil)))) (.call 9 (.cons (.slot 1) (.cons (.k (.int 2)) (.nil))))) (.nil)))))) (e := .bin .add (.k (.int 1)) (.call 9 (.cons (.slot 1) (.cons (.slot 2) (.nil))))) (own := [18])
    (r := [some (.ref 0), some (.ref 2), some (.int (m : Int)), none, none, none, none, none, none, none, none, none, none, none, none, none, none, none, none, none, none]) (s := s1) (s1 := s3) (f := .free) (xs := (List.range (1 + r3).toNat).map fun (i : Nat) => DV.int (0 + (i : Int))) (fun _ v => ∃ n : Nat, v = DV.int (n : Int) ∧ 1 ≤ n ∧ n ≤ m) (by
      simp -implicitDefEqProofs -dsimp only [↓bind_K, ↓out_K, ↓then_K, ↓optR_K, ↓cond_K, ↓forL_K, ↓lcL_K, ↓whileL_K, ↓catch_K, ↓catchK_nx, ↓catchK_rt, ↓catchK_exc, unset_rt, hush_rt, hush_nx, hush_ct, fin_exc, ↓bindK_ok, ↓outK_ok, ↓bindK_exc, ↓outK_exc, ↓thenK_nx, ↓thenK_rt, ↓thenK_exc, ↓thenK_bk, ↓thenK_ct, ↓optRK_some, ↓quiet_ok, ↓condK_t, ↓condK_f, ↓truth_bl, qE_slot, qE_isx, qE_k, qE_glob, qE_bin, qE_neg, qE_not, qE_and, qE_or, qE_cmp, qE_chain, qE_ife, qE_ix, qE_slc, qE_rev, qE_tup, qE_lst, qE_call, qE_bi, qE_isi, qE_meth, qE_lc, qE_smeth, qE_get2, qE_setd, qE_dnew, qEs_nil, qEs_cons, qAll_nil, qAll_cons, qO_no, qO_some, qI_seq, qI_range1, qI_range2, qI_range3, qI_zip, qI_enum, qI_enumK, qI_rev, qT_name, qT_tup, qT_sub, qTs_nil, qTs_cons, qS_asg, qS_par, qS_aug, qS_ife, qS_for, qS_forD, qS_while, qS_ret, qS_retN, qS_drop, qS_pass, qS_brk, qS_cont, qS_raise, qS_try, qS_pick, qSs_nil, qSs_cons, dv_int, dv_bl, dv_str, dv_non, List.getElem?_cons_zero, List.getElem?_cons_succ, List.set_cons_zero, List.set_cons_succ, List.length_cons, List.length_nil, Nat.reduceAdd, Nat.reduceLT, if_true, fin_rt, fin_nx, at_0, at_1, at_2, at_3, itemV_ref, itemV_tup, cmp_eq_int, cmp_ne_int, cmp_lt_int, cmp_le_int, cmp_gt_int, cmp_ge_int, bin_add, bin_sub, bi_int_int, z2, e2, am2, e3, rg]) D3 (fun _ _ => free_ok) (by rw [List.length_map, List.length_range]; omega) (fun y hy sC DC KC => by
      obtain ⟨r, sD, eD, h0, h1, DD, KD⟩ := draw (k := k + 4) (many := (m : Int)) DC (by omega) (small_log (by omega) (by omega))
      refine ⟨_, sD, ?_, DD, KD, (1 + r).toNat, rfl, by omega, by omega⟩
      have : ((((1 + r).toNat : Nat)) : Int) = 1 + r := by omega
      rw [this]
      simp -implicitDefEqProofs -dsimp only [↓bind_K, ↓out_K, ↓then_K, ↓optR_K, ↓cond_K, ↓forL_K, ↓lcL_K, ↓whileL_K, ↓catch_K, ↓catchK_nx, ↓catchK_rt, ↓catchK_exc, unset_rt, hush_rt, hush_nx, hush_ct, fin_exc, ↓bindK_ok, ↓outK_ok, ↓bindK_exc, ↓outK_exc, ↓thenK_nx, ↓thenK_rt, ↓thenK_exc, ↓thenK_bk, ↓thenK_ct, ↓optRK_some, ↓quiet_ok, ↓condK_t, ↓condK_f, ↓truth_bl, qE_slot, qE_isx, qE_k, qE_glob, qE_bin, qE_neg, qE_not, qE_and, qE_or, qE_cmp, qE_chain, qE_ife, qE_ix, qE_slc, qE_rev, qE_tup, qE_lst, qE_call, qE_bi, qE_isi, qE_meth, qE_lc, qE_smeth, qE_get2, qE_setd, qE_dnew, qEs_nil, qEs_cons, qAll_nil, qAll_cons, qO_no, qO_some, qI_seq, qI_range1, qI_range2, qI_range3, qI_zip, qI_enum, qI_enumK, qI_rev, qT_name, qT_tup, qT_sub, qTs_nil, qTs_cons, qS_asg, qS_par, qS_aug, qS_ife, qS_for, qS_forD, qS_while, qS_ret, qS_retN, qS_drop, qS_pass, qS_brk, qS_cont, qS_raise, qS_try, qS_pick, qSs_nil, qSs_cons, dv_int, dv_bl, dv_str, dv_non, List.getElem?_cons_zero, List.getElem?_cons_succ, List.set_cons_zero, List.set_cons_succ, List.length_cons, List.length_nil, Nat.reduceAdd, Nat.reduceLT, if_true, fin_rt, fin_nx, at_0, at_1, at_2, at_3, itemV_ref, itemV_tup, cmp_eq_int, cmp_ne_int, cmp_lt_int, cmp_le_int, cmp_gt_int, cmp_ge_int, bin_add, bin_sub, bi_int_int, wipe, eD])
  have l4 := rels_len R4
  obtain ⟨zs, rfl, hzs⟩ := sizes_of R4
  have lz : zs.length = (1 + r3).toNat := by
    unfold szD at l4
    rw [List.length_map, List.length_map, List.length_range] at l4
    exact l4
  have tu4 := tuple_ref (cellL_of c4)
  -- the weights
  obtain ⟨W, s5, q5, hm, hW, D5, e5, c5⟩ := weights_drawn (k := k + 2) (ns := zs) (m := m) (v0 := some (.ref 0)) (v2 := some (.int (m : Int))) (v5 := none) (v6 := none) (v7 := none) (v8 := none) (v9 := none) (v10 := none) (v11 := none) (v12 := none) (v13 := none) (v14 := none) (v15 := none) (v16 := none) (v17 := none) (v18 := none) (v19 := none) (v20 := none) D4 hzs m60 (by omega)
  have tu5 := tuple_ref c5
  obtain ⟨i6, s6, e6, hi6, D6, -⟩ := number_ok (k := k + 2) D5
  obtain ⟨S, hS⟩ : ∃ S : Int, ((i6.natAbs : Nat) : Int) = S := ⟨_, rfl⟩
  have hS0 : 0 ≤ S := by omega
  have hSh : Sh S := by unfold Sh at hi6 ⊢; rw [← hS, Int.natAbs_natCast]; exact hi6
  have ab : ∀ s, biV .abs [.int i6] s = .ok (.int S) s := fun s => by rw [int_abs, hS]
  have st : ∀ s, biV .str [.int S] s = .ok (.str (toS S)) s := fun s => str_int hSh
  have ls := sh_len hSh
  have b0 : ∀ s, binV .add (.str "step ") (.str (toS S)) s = .ok (.str ("step " ++ toS S)) s := fun s => bin_cat (by
    rw [tl_len, tl_len, steps_tl, toS_tl]
    exact Nat.le_trans (show 5 + (strI S).length ≤ 100 by omega) (by decide))
  have t0 : tl ("step " ++ toS S) = joinL [32] (headL S []) := by
    rw [tl_append, steps_tl, toS_tl]
    rfl
  obtain ⟨t, v7, s7, X7, e7, ht⟩ := text_loop (k := k + 5) hSh (v0 := some (.ref 0)) (v1 := some (.ref 2)) (v2 := some (.int (m : Int))) (v3 := some (.tup (szD zs))) (v4 := some (.tup (W.map rowD))) (v5 := some (.int S)) (v8 := none) (v9 := none) (v10 := none) (v11 := none) (v12 := none) (v13 := none) (v14 := none) (v15 := none) (v16 := none) (v17 := none) (v18 := none) (v19 := none) (v20 := none) W [] ("step " ++ toS S) none s6 t0 (by rw [List.nil_append]; exact hW)
  rw [List.nil_append] at ht
  have D7 := X7.dr D6
  have f7 : evS (callAt Dt Gt subt (k + 5)) Gt subt (.for_ (.name 7) (.seq (.slot 4)) b14l1) [some (.ref 0), some (.ref 2), some (.int (m : Int)), some (.tup (szD zs)), some (.tup (W.map rowD)), some (.int S), some (.str ("step " ++ toS S)), none, none, none, none, none, none, none, none, none, none, none, none, none, none] s6 = _ := evS_for (by
    simp -implicitDefEqProofs -dsimp only [↓bind_K, ↓out_K, ↓then_K, ↓optR_K, ↓cond_K, ↓forL_K, ↓lcL_K, ↓whileL_K, ↓catch_K, ↓catchK_nx, ↓catchK_rt, ↓catchK_exc, unset_rt, hush_rt, hush_nx, hush_ct, fin_exc, ↓bindK_ok, ↓outK_ok, ↓bindK_exc, ↓outK_exc, ↓thenK_nx, ↓thenK_rt, ↓thenK_exc, ↓thenK_bk, ↓thenK_ct, ↓optRK_some, ↓quiet_ok, ↓condK_t, ↓condK_f, ↓truth_bl, qE_slot, qE_isx, qE_k, qE_glob, qE_bin, qE_neg, qE_not, qE_and, qE_or, qE_cmp, qE_chain, qE_ife, qE_ix, qE_slc, qE_rev, qE_tup, qE_lst, qE_call, qE_bi, qE_isi, qE_meth, qE_lc, qE_smeth, qE_get2, qE_setd, qE_dnew, qEs_nil, qEs_cons, qAll_nil, qAll_cons, qO_no, qO_some, qI_seq, qI_range1, qI_range2, qI_range3, qI_zip, qI_enum, qI_enumK, qI_rev, qT_name, qT_tup, qT_sub, qTs_nil, qTs_cons, qS_asg, qS_par, qS_aug, qS_ife, qS_for, qS_forD, qS_while, qS_ret, qS_retN, qS_drop, qS_pass, qS_brk, qS_cont, qS_raise, qS_try, qS_pick, qSs_nil, qSs_cons, dv_int, dv_bl, dv_str, dv_non, List.getElem?_cons_zero, List.getElem?_cons_succ, List.set_cons_zero, List.set_cons_succ, List.length_cons, List.length_nil, Nat.reduceAdd, Nat.reduceLT, if_true, fin_rt, fin_nx, at_0, at_1, at_2, at_3, itemV_ref, itemV_tup, cmp_eq_int, cmp_ne_int, cmp_lt_int, cmp_le_int, cmp_gt_int, cmp_ge_int, bin_add, bin_sub, bi_int_int]) e7
  -- the line
  obtain ⟨T, hT⟩ : ∃ T, joinL [32] (headL S W) = T := ⟨_, rfl⟩
  rw [hT] at ht
  have lT := head_len hSh hW
  rw [hT] at lT
  have aT := head_as hSh hW.sh
  rw [hT] at aT
  have tx : Tx t := ⟨by rw [ht]; exact aT, by rw [tl_len, ht]; omega⟩
  have lck := fun s => lcheck_ok (k := k + 4) (s := s) tx
  rw [ht] at lck
  have hlt := chk_lt T
  have sc := fun s => str_nat (s := s) hlt
  have lD := dg_len T
  have b1 : ∀ s, binV .add (.str t) (.str " check ") s = .ok (.str (t ++ " check ")) s := fun s => bin_cat (by
    rw [tl_len, tl_len, chk_tl, ht]
    exact Nat.le_trans (show T.length + 7 ≤ 30000 by omega) (by decide))
  have b2 : ∀ s, binV .add (.str (t ++ " check ")) (.str (toString ((chk T : Nat) : Int))) s = .ok (.str (t ++ " check " ++ ((toString ((chk T : Nat) : Int) : String) : Str))) s := fun s => bin_cat (by
    rw [tl_len, tl_len, tl_append, List.length_append, chk_tl, ht, tls, strI_nat]
    exact Nat.le_trans (show T.length + 7 + (numL (chk T)).length ≤ 30000 by omega) (by decide))
  have hL : tl (t ++ " check " ++ ((toString ((chk T : Nat) : Int) : String) : Str)) = lineL T := by
    rw [tl_append, tl_append, chk_tl, ht, tls, strI_nat, List.append_assoc]
    rfl
  generalize (t ++ " check " ++ ((toString ((chk T : Nat) : Int) : String) : Str)) = L at b2 hL
  have lL := line_len T
  have txL : Tx L := by
    refine ⟨fun c hc => ?_, by rw [tl_len, hL]; omega⟩
    rw [hL] at hc
    unfold lineL chkW at hc
    rcases List.mem_append.mp hc with hc | hc
    · exact aT c hc
    rcases List.mem_append.mp hc with hc | hc
    · exact (show ∀ c ∈ [32, 99, 104, 101, 99, 107, 32], c < 128 by decide) c hc
    · have := numL_digits _ c hc
      omega
  -- what is written
  obtain ⟨s8, X8, jl⟩ := journal_ok (k := k + 3) (s := s7) hSh hW
  have hjl : jline S W = L ++ "\n" := ext_tl (by rw [jline_tl, hT, tl_append, hL, nl_tl])
  rw [hjl] at jl
  have b3 : ∀ s, binV .add (.str L) (.str "\n") s = .ok (.str (L ++ "\n")) s := fun s => bin_cat (by
    rw [tl_len, tl_len, nl_tl, hL]
    exact Nat.le_trans (show (lineL T).length + 1 ≤ 30000 by omega) (by decide))
  have ok3 : PyData.strOk (L ++ "\n") = true := strOk_tl.mpr fun c hc => by
    rw [tl_append, nl_tl] at hc
    rcases List.mem_append.mp hc with hc | hc
    · exact txL.uni c hc
    · rw [List.mem_singleton.mp hc]; decide
  have n3 := fun s => ne_self (s := s) ok3
  obtain ⟨u9, ck⟩ := check_ok (k := k + 4) (s := s8) tx.sz tx.uni
  rw [ht] at ck
  -- what is read
  have hall : lineL T = joinL [32] (allL S W) := by rw [all_line, hT]
  have hwd : wds (tl L) = allL S W := by rw [hL, hall]; exact wds_join all_ne all_sp
  have hz1000 : ∀ n ∈ zs, n ≤ 1000 := fun n h => by have := hzs n h; omega
  obtain ⟨s10, X10, to⟩ := told_ok (k := k) (s := s8 ++ [u9]) (z := L) (ns := zs) txL (by omega) hz1000
  have hrd : rdL (wds (tl L)) zs = some (S, W) := by
    rw [hwd, ← hm]
    exact rdL_ok hS0 (by omega) fun r hr i hi => by have := sh_len (hW.sh r hr i hi); omega
  rw [hrd] at to
  have to : callAt Dt Gt subt (k + 5) 11 [.str L, .tup (szD zs)] (s8 ++ [u9]) = Res.ok (DV.tup [.int S, .tup (W.map rowD)]) s10 := to
  have n4 := fun s => ne_same (s := s) (pair_cmp S W)
  have D8 := X8.dr D7
  have D10 := X10.dr (Ext.app (t := [u9]) |>.dr D8)
  -- signs replaced
  have rg4 : (-(2 ^ 62) ≤ (4 : Int) ∧ (4 : Int) < 2 ^ 62) = True := eq_true (by omega)
  have hT5 : 5 ≤ T.length := by
    rw [← hT]
    have e : joinL [32] (headL S W) = STEP ++ ([32] ++ joinL [32] (strI S :: W.flatMap rowL)) := joinL_cons (by simp)
    rw [e, List.length_append, List.length_append]
    unfold STEP
    simp only [List.length_cons, List.length_nil]
    omega
  have key := for_word (f := .free) (body := B0 (k + 5)) (all := (List.range (4 : Int).toNat).map fun (i : Nat) => DV.int (0 + (i : Int))) (r := [some (.ref 0), some (.ref 2), some (.int (m : Int)), some (.tup (szD zs)), some (.tup (W.map rowD)), some (.int S), some (.str t), v7, some (.str L), some (.str (L ++ "\n")), some (.str SG), none, none, none, none, none, none, none, none, none, none]) (s := s10)
    (fun dn r s' => Dr s' 2 ∧ ∃ w11 w12 w13, r = [some (.ref 0), some (.ref 2), some (.int (m : Int)), some (.tup (szD zs)), some (.tup (W.map rowD)), some (.int S), some (.str t), v7, some (.str L), some (.str (L ++ "\n")), some (.str SG), w11, w12, w13, none, none, none, none, none, none, none])
    ⟨D10, _, _, _, rfl⟩ (fun _ _ _ _ => free_ok)
    (fun dn y e r s' he h => by
      obtain ⟨D', w11, w12, w13, rfl⟩ := h
      have hy : y ∈ (List.range (4 : Int).toNat).map fun (i : Nat) => DV.int (0 + (i : Int)) := by rw [he]; simp
      obtain ⟨i, _, rfl⟩ := List.mem_map.mp hy
      obtain ⟨a11, a12, a13, sA, eA, DA⟩ := turn_ok (k := k) (x := 0 + (i : Int)) (z := L) (T := T) (ns := zs) (w0 := some (.ref 0)) (w2 := some (.int (m : Int))) (w4 := some (.tup (W.map rowD))) (w5 := some (.int S)) (w6 := some (.str t)) (w7 := v7) (w9 := some (.str (L ++ "\n"))) (w11 := w11) (w12 := w12) (w13 := w13) (w14 := none) (w15 := none) (w16 := none) (w17 := none) (w18 := none) (w19 := none) (w20 := none) D' txL hL hT5 (by omega) hz1000
      exact ⟨_, sA, .inl eA, DA, a11, a12, a13, rfl⟩)
  obtain ⟨rB, sB, fB, DB, w11, w12, w13, rfl⟩ := key
  have cB : evS (callAt Dt Gt subt (k + 5)) Gt subt (.for_ (.name 11) (.range1 (.k (.int 4))) b14l0) [some (.ref 0), some (.ref 2), some (.int (m : Int)), some (.tup (szD zs)), some (.tup (W.map rowD)), some (.int S), some (.str t), v7, some (.str L), some (.str (L ++ "\n")), some (.str SG), none, none, none, none, none, none, none, none, none, none] s10 = _ := evS_for (by
    simp -implicitDefEqProofs -dsimp only [↓bind_K, ↓out_K, ↓then_K, ↓optR_K, ↓cond_K, ↓forL_K, ↓lcL_K, ↓whileL_K, ↓catch_K, ↓catchK_nx, ↓catchK_rt, ↓catchK_exc, unset_rt, hush_rt, hush_nx, hush_ct, fin_exc, ↓bindK_ok, ↓outK_ok, ↓bindK_exc, ↓outK_exc, ↓thenK_nx, ↓thenK_rt, ↓thenK_exc, ↓thenK_bk, ↓thenK_ct, ↓optRK_some, ↓quiet_ok, ↓condK_t, ↓condK_f, ↓truth_bl, qE_slot, qE_isx, qE_k, qE_glob, qE_bin, qE_neg, qE_not, qE_and, qE_or, qE_cmp, qE_chain, qE_ife, qE_ix, qE_slc, qE_rev, qE_tup, qE_lst, qE_call, qE_bi, qE_isi, qE_meth, qE_lc, qE_smeth, qE_get2, qE_setd, qE_dnew, qEs_nil, qEs_cons, qAll_nil, qAll_cons, qO_no, qO_some, qI_seq, qI_range1, qI_range2, qI_range3, qI_zip, qI_enum, qI_enumK, qI_rev, qT_name, qT_tup, qT_sub, qTs_nil, qTs_cons, qS_asg, qS_par, qS_aug, qS_ife, qS_for, qS_forD, qS_while, qS_ret, qS_retN, qS_drop, qS_pass, qS_brk, qS_cont, qS_raise, qS_try, qS_pick, qSs_nil, qSs_cons, dv_int, dv_bl, dv_str, dv_non, List.getElem?_cons_zero, List.getElem?_cons_succ, List.set_cons_zero, List.set_cons_succ, List.length_cons, List.length_nil, Nat.reduceAdd, Nat.reduceLT, if_true, fin_rt, fin_nx, at_0, at_1, at_2, at_3, itemV_ref, itemV_tup, cmp_eq_int, cmp_ne_int, cmp_lt_int, cmp_le_int, cmp_gt_int, cmp_ge_int, bin_add, bin_sub, bi_int_int, rg4]) fB
  -- words left out or doubled
  obtain ⟨ws, hws, wx, sp⟩ := split_ok txL
  have sp := sp sB
  rw [hwd] at hws
  have lws : ws.length = 4 + need zs := by
    have := congrArg List.length hws
    rw [List.length_map, all_len, hm] at this
    exact this
  have nz : need zs ≤ 61 * 8 := by
    have h1 := rows_len (W := W) (m := 8) (fun r hr => (hW.rl r hr).2) hW.ln
    have h2 := congrArg List.length (rowsS_tl W)
    rw [List.length_map] at h2
    have h3 := all_len (S := S) (W := W)
    unfold allL headL at h3
    rw [List.length_append, List.length_cons, List.length_cons, hm] at h3
    simp only [List.length_cons, List.length_nil] at h3
    omega
  have hww : ∀ w ∈ ws, (32 ∉ tl w) ∧ (tl w).length ≤ 41 ∧ ∀ c ∈ tl w, c < 128 := fun w hw => by
    have : tl w ∈ allL S W := by rw [← hws]; exact List.mem_map_of_mem hw
    exact ⟨all_sp _ this, all_mem hSh hW.sh this⟩
  obtain ⟨sC, hsC⟩ : ∃ sC, sB ++ [.lst (ws.map DV.str)] = sC := ⟨_, rfl⟩
  have hq : cellL sC sB.length = some (ws.map DV.str) := by rw [← hsC]; exact cell_snoc
  have DC : Dr sC 2 := by rw [← hsC]; exact DB.more
  rw [hsC] at sp
  have lnw : biV .len [.ref sB.length] sC = .ok (.int (ws.length : Nat)) sC := by rw [len_ref hq, List.length_map]
  obtain ⟨rp, sD, eD, p0, p1, DD, KD⟩ := draw (k := k + 4) (many := ((ws.length : Nat) : Int)) DC (by omega) (small_log (by omega) (by omega))
  have hqD := KD.cell hq (by have := DB.lt; omega)
  obtain ⟨P, hP⟩ : ∃ P : Nat, rp = (P : Int) := ⟨rp.toNat, by omega⟩
  subst hP
  have hP1 : (P : Int) + 1 = ((P + 1 : Nat) : Int) := by omega
  obtain ⟨sE1, sE2, sE3, J, XE, a1, a2, a3, a4, tJ, wJ⟩ := mangle (a := P + 1) (b := P) hqD hww (by omega) (by omega) (by omega) (by omega)
  rw [← hP1] at a1
  obtain ⟨sF1, sF2, sF3, J2, XF, g1, g2, g3, g4, tJ2, wJ2⟩ := mangle (a := P) (b := P + 1) (XE.cell hqD) hww (by omega) (by omega) (by omega) (by omega)
  rw [← hP1] at g2
  obtain ⟨sG, XG, o1⟩ := bad_ok (k := k) (s := sF3) (ns := zs) tJ (by omega) hz1000 (by omega)
  obtain ⟨sH, XH, o2⟩ := bad_ok (k := k) (s := sG) (ns := zs) tJ2 (by omega) hz1000 (by omega)
  obtain ⟨sI, XI, o3⟩ := bad_ok (k := k) (s := sH) (ns := zs) empty_tx (by omega) hz1000 (by rw [empty_wds]; omega)
  -- other sizes
  have hwl : (wds (tl L)).length = 4 + need zs := by rw [hwd, all_len, hm]
  have add1 : binV .add (.tup (szD zs)) (.tup [.int 1]) sI = .ok (.tup (szD (zs ++ [1]))) sI := by
    simp only [binV]
    rw [if_pos (by
      unfold szD
      rw [List.length_map]
      exact Nat.le_trans (show zs.length + 1 ≤ 100 by omega) (by decide))]
    unfold szD
    rw [List.map_append]
    rfl
  obtain ⟨sJ, XJ, o4⟩ := bad_ok (k := k) (s := sI) (z := L) (ns := zs ++ [1]) txL (by rw [List.length_append, List.length_singleton]; omega) (fun n h => by
    rcases List.mem_append.mp h with h | h
    · exact hz1000 n h
    · rw [List.mem_singleton.mp h]; decide) (by
    rw [hwl, need_app]
    show 4 + need zs ≠ 4 + (need zs + 2)
    omega)
  obtain ⟨n0, zs', rfl⟩ : ∃ n0 zs', zs = n0 :: zs' := by
    cases zs with
    | nil => rw [List.length_nil] at lz; omega
    | cons a b => exact ⟨a, b, rfl⟩
  have it0 : itemV (.tup (szD (n0 :: zs'))) (.int 0) sJ = .ok (.int (n0 : Int)) sJ := item_tup at_0
  have sl1 : sliceV (.tup (szD (n0 :: zs'))) (some 1) none sJ = .ok (.tup (szD zs')) sJ := by
    show Res.ok (DV.tup (cut (szD (n0 :: zs')) (some ((1 : Nat) : Int)) none)) sJ = _
    rw [cut_drop (by rw [szD_cons, List.length_cons]; omega)]
    rfl
  have add2 : binV .add (.tup [.int ((n0 : Int) + 1)]) (.tup (szD zs')) sJ = .ok (.tup (szD ((n0 + 1) :: zs'))) sJ := by
    simp only [binV]
    rw [List.length_cons] at lz
    rw [if_pos (by
      unfold szD
      rw [List.length_map]
      exact Nat.le_trans (show 1 + zs'.length ≤ 100 by omega) (by decide))]
    rw [show ((n0 : Int) + 1) = ((n0 + 1 : Nat) : Int) by omega]
    rfl
  obtain ⟨sK, XK, o5⟩ := bad_ok (k := k) (s := sJ) (z := L) (ns := (n0 + 1) :: zs') txL (by rw [List.length_cons] at lz ⊢; omega) (fun n h => by
    rcases List.mem_cons.mp h with rfl | h
    · have := hzs n0 List.mem_cons_self
      omega
    · exact hz1000 n (List.mem_cons_of_mem _ h)) (by
    rw [hwl]
    show 4 + (1 + n0 + need zs') ≠ 4 + (1 + (n0 + 1) + need zs')
    omega)
  refine ⟨sK, ?_⟩
  simp -implicitDefEqProofs -dsimp only [↓bind_K, ↓out_K, ↓then_K, ↓optR_K, ↓cond_K, ↓forL_K, ↓lcL_K, ↓whileL_K, ↓catch_K, ↓catchK_nx, ↓catchK_rt, ↓catchK_exc, unset_rt, hush_rt, hush_nx, hush_ct, fin_exc, ↓bindK_ok, ↓outK_ok, ↓bindK_exc, ↓outK_exc, ↓thenK_nx, ↓thenK_rt, ↓thenK_exc, ↓thenK_bk, ↓thenK_ct, ↓optRK_some, ↓quiet_ok, ↓condK_t, ↓condK_f, ↓truth_bl, qE_slot, qE_isx, qE_k, qE_glob, qE_bin, qE_neg, qE_not, qE_and, qE_or, qE_cmp, qE_chain, qE_ife, qE_ix, qE_slc, qE_rev, qE_tup, qE_lst, qE_call, qE_bi, qE_isi, qE_meth, qE_lc, qE_smeth, qE_get2, qE_setd, qE_dnew, qEs_nil, qEs_cons, qAll_nil, qAll_cons, qO_no, qO_some, qI_seq, qI_range1, qI_range2, qI_range3, qI_zip, qI_enum, qI_enumK, qI_rev, qT_name, qT_tup, qT_sub, qTs_nil, qTs_cons, qS_asg, qS_par, qS_aug, qS_ife, qS_for, qS_forD, qS_while, qS_ret, qS_retN, qS_drop, qS_pass, qS_brk, qS_cont, qS_raise, qS_try, qS_pick, qSs_nil, qSs_cons, dv_int, dv_bl, dv_str, dv_non, List.getElem?_cons_zero, List.getElem?_cons_succ, List.set_cons_zero, List.set_cons_succ, List.length_cons, List.length_nil, Nat.reduceAdd, Nat.reduceLT, if_true, fin_rt, fin_nx, at_0, at_1, at_2, at_3, itemV_ref, itemV_tup, cmp_eq_int, cmp_ne_int, cmp_lt_int, cmp_le_int, cmp_gt_int, cmp_ge_int, bin_add, bin_sub, bi_int_int, call_14, b14, hb, e1, z4, am, ↓e4, tu4, ↓e5, tu5, e6, ab, st, b0, ↓f7, b1, lck, sc, b2, jl, cl_str, Bool.not_true, b3, n3, ck, beq_self_eq_true, to, z2, n4, sg_def, ↓cB, sp, lnw, eD, a1, a2, a3, a4, g1, g2, g3, g4, o1, o2, o3, is_non, z1, add1, o4, it0, sl1, add2, o5]
theorem law_run : ∀ ns : List Int, ns.length ≤ 63 → ∃ s', callAt Dt Gt subt 60 14 [.ref 0] [.frz (ns.map DV.int)] = .ok (.bl true) s' := fun ns _ => law_go (k := 54)
end
end Lw
end PtLk70N
set_option Elab.async false
set_option linter.all false
set_option maxRecDepth 100000
set_option maxHeartbeats 4000000
open PySem PySem.W PyProof.Rows
set_option maxHeartbeats 0 in
theorem PySem.Challenge.cw_tensorworks_k70_lines_of_the_journal_holds : PySem.Challenge.rw_tensorworks_k70_lines_of_the_journal.Holds := by
  w_on; o_law; k_head; (case hw => w_witness2)
  k_fill
  refine L2.walk_of (l := PySem.Challenge.rw_tensorworks_k70_lines_of_the_journal) (n := 63) (k := 60) (x := "script") (CX := fun w => L2.CX PySem.Challenge.rw_tensorworks_k70_lines_of_the_journal.prog w) (sp := fun w => Ip.spO (Ip.callAt Lw.Dt Lw.Gt Lw.subt 60) _ 14 1) rfl (by decide) rfl ⟨rfl, by decide, by decide⟩ (fun w h Y => PySem.W.kIn_of Y) ?F (fun _ _ a ns hl ho hS => Ip.law_spO hl ho hS (Lw.law_run ns hl)) (fun _ _ _ _ _ h => Ip.cx_none h)
  case F =>
    intro w mg fa h KX G hmg
    refine' Lw.end_of KX G hmg ?a0 ?l0 ?c0 ?k0 ?a1 ?l1 ?c1 ?k1 ?a2 ?l2 ?c2 ?k2 ?a3 ?l3 ?c3 ?k3 ?a4 ?l4 ?c4 ?k4 ?a5 ?l5 ?c5 ?k5 ?a6 ?l6 ?c6 ?k6 ?a7 ?l7 ?c7 ?k7 ?a8 ?l8 ?c8 ?k8 ?a9 ?l9 ?c9 ?k9 ?a10 ?l10 ?c10 ?k10 ?a11 ?l11 ?c11 ?k11 ?a12 ?l12 ?c12 ?k12 ?a13 ?l13 ?c13 ?k13 ?a14 ?l14 ?c14 ?k14 ?z_abs ?z_all ?z_enumerate ?z_int ?z_isinstance ?z_len ?z_list ?z_min ?z_ord ?z_range ?z_str ?z_sum ?z_tuple ?x_CHECK_PRIME ?x_CHECK_WORD ?x_DIGIT_LIMIT ?x_MARK ?x_STEP_WORD ?eg0 ?ek0 ?ee0 ?eb0 ?et0 ?ev0 ?ea0 ?ec0 ?ed0 ?ef0 ?em0 ?eg1 ?ek1 ?ee1 ?eb1 ?et1 ?ev1 ?ea1 ?ec1 ?ed1 ?ef1 ?em1 ?es_0_0 ?es_0_1 ?es_1_0 ?es_1_1 ?en ?eu
    (case a0 => k_is); (case l0 => k_is); (case c0 => k_is); (case k0 => k_is); (case a1 => k_is); (case l1 => k_is); (case c1 => k_is); (case k1 => k_is); (case a2 => k_is); (case l2 => k_is); (case c2 => k_is); (case k2 => k_is); (case a3 => k_is); (case l3 => k_is); (case c3 => k_is); (case k3 => k_is); (case a4 => k_is); (case l4 => k_is); (case c4 => k_is); (case k4 => k_is); (case a5 => k_is); (case l5 => k_is); (case c5 => k_is); (case k5 => k_is); (case a6 => k_is); (case l6 => k_is); (case c6 => k_is); (case k6 => k_is); (case a7 => k_is); (case l7 => k_is); (case c7 => k_is); (case k7 => k_is); (case a8 => k_is); (case l8 => k_is); (case c8 => k_is); (case k8 => k_is); (case a9 => k_is); (case l9 => k_is); (case c9 => k_is); (case k9 => k_is); (case a10 => k_is); (case l10 => k_is); (case c10 => k_is); (case k10 => k_is); (case a11 => k_is); (case l11 => k_is); (case c11 => k_is); (case k11 => k_is); (case a12 => k_is); (case l12 => k_is); (case c12 => k_is); (case k12 => k_is); (case a13 => k_is); (case l13 => k_is); (case c13 => k_is); (case k13 => k_is); (case a14 => k_is); (case l14 => k_is); (case c14 => k_is); (case k14 => k_is); (case z_abs => k_is); (case z_all => k_is); (case z_enumerate => k_is); (case z_int => k_is); (case z_isinstance => k_is); (case z_len => k_is); (case z_list => k_is); (case z_min => k_is); (case z_ord => k_is); (case z_range => k_is); (case z_str => k_is); (case z_sum => k_is); (case z_tuple => k_is); (case x_CHECK_PRIME => k_is); (case x_CHECK_WORD => k_is); (case x_DIGIT_LIMIT => k_is); (case x_MARK => k_is); (case x_STEP_WORD => k_is); (case eg0 => k_is); (case ek0 => k_is); (case ee0 => k_exc); (case eb0 => k_is); (case et0 => k_is); (case ev0 => k_is); (case ea0 => k_is); (case ec0 => k_is); (case ed0 => k_is); (case ef0 => k_is); (case em0 => k_is); (case eg1 => k_is); (case ek1 => k_is); (case ee1 => k_exc); (case eb1 => k_is); (case et1 => k_is); (case ev1 => k_is); (case ea1 => k_is); (case ec1 => k_is); (case ed1 => k_is); (case ef1 => k_is); (case em1 => k_is); (case es_0_0 => k_is); (case es_0_1 => k_is); (case es_1_0 => k_is); (case es_1_1 => k_is); (case en => k_is); (case eu => k_is)
