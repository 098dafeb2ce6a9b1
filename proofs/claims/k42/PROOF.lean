import PyProof.Rows.All
import Wide.All
import OpenK.AllK
import Wide.FinOn
import HandS.Base
import HandS.Call
import HandS.Set
import PyProof.StrWalks
import HandS.List
import HandS.TupAny
import HandS.Text
import HandS.Conv
import KE.KDictPairs
import HandS.Dict
import PySem.Syntax
import PyProof.EqLayable
import PyProof.StrBlock2
import HandS.Comp
import HandS.Ends
import HandS.Iter
import HandS.Words
import HandS.Exc
import HandS.TryOnly
import HandS.ExcOwn
import HandS.Flow
import HandS.Wide
import HandS.WideBits
import HandS.Style
import HandS.IsInst
import HandS.Small
import HandS.Zip
import HandS.Rev
import KE.GoesEnum
import HandS.WordsExc
import HandS.ExcIs
import HandS.Gcd
import HandS.FStr
import HandS.StrMore
import HandS.SetKeys
import HandS.More
import KE.DataMinMax
import PyProof.Rows.StrAscii
import PyProof.Rows.StrDigitsNeg
import PyProof.Rows.StrJoinRep
import PySem.Challenge.RW_tensorworks_k42_lives_of_buffers
section PtIpSet
set_option Elab.async false
set_option linter.all false
set_option maxRecDepth 100000
namespace IpS
open PySem PySem.Spec PyProof.Rows
/-! ### the signs met so far, each once -/
def addC (acc : List Str) (c : Str) : List Str := if acc.any (· == c) then acc else acc ++ [c]
def metC (val : Nat → Str) : Nat → List Str
  | 0 => []
  | i + 1 => addC (metC val i) (val i)
theorem metC_le (val : Nat → Str) : ∀ i, (metC val i).length ≤ i
  | 0 => Nat.le_refl _
  | i + 1 => by
    have h0 := metC_le val i
    rw [metC, addC]
    split
    · omega
    · rw [List.length_append, List.length_singleton]
      omega
theorem addC_any (σ : List Str) (v k : Str) : (addC σ v).any (· == k) = (σ.any (· == k) || decide (k = v)) := by
  have flip : (v == k) = decide (k = v) := by
    by_cases q : k = v
    · rw [q, decide_eq_true rfl, beq_self_eq_true]
    · rw [decide_eq_false q]
      exact beq_eq_false_iff_ne.mpr fun z => q z.symm
  rw [addC]
  split
  · rename_i hv
    by_cases q : k = v
    · rw [q, hv]; rfl
    · rw [decide_eq_false q, Bool.or_false]
  · rw [List.any_append, List.any_cons, List.any_nil, Bool.or_false, flip]
theorem addC_length (σ : List Str) (v : Str) : (addC σ v).length = if σ.any (· == v) then σ.length else σ.length + 1 := by
  rw [addC]
  split
  · rfl
  · rw [List.length_append]; rfl
def sgn (x : Str) (i : Nat) : Str := ⟨#[x.cps.getD i 0]⟩
/-! ### the update of a set by what is walked -/
section
variable {prog : Program} {w : World} {A : Around} {R : Result → Shared → Prop} {s : Shared} {S I : Addr}
/-- one turn -/
theorem upd_turn (h : wpAny (model prog w) A.in1 (pyNext (.ref I)) (fun o t => match o with
      | none => R (.ok (.ret .none)) t
      | some v => wpAny (model prog w) A.in1 (setAdd S v) (fun _ u => codeAny (model prog w) A (.builtin "set.update.loop" ⟨[.ref S, .ref I], []⟩) R u) (fun e u => R (.error e) u) t) (fun e t => R (.error e) t) s) :
    codeAny (model prog w) A (.builtin "set.update.loop" ⟨[.ref S, .ref I], []⟩) R s := by
  apply codeAny_builtin PyProof.Rows.F.entry_set_update_loop
  rw [A.under_plainId PyProof.Rows.F.plain_set_update_loop]
  apply wpAny_bind
  apply wpAny_mono h _ fun _ _ e => e
  intro o t
  cases o with
  | none => exact fun q => wpAny_pure q
  | some v =>
    intro q
    apply wpAny_bind
    apply wpAny_holding
    exact wpAny_mono q (fun _ _ z => wpAny_pure ⟨plainId_quiet PyProof.Rows.F.plain_set_update_loop _, z⟩) fun _ _ e => e
variable {fp wr : List Addr} {G : Array GenState → Array GenState → Prop} {n : Nat} {P : Nat → Value → Prop} {St : Nat → Shared → Prop}
/-- the set holds what was met in i turns -/
abbrev Met (prog : Program) (w : World) (h : Heap) (S : Addr) (val : Nat → Str) (i : Nat) : Prop := h.SetOf (PySem.strKind prog w) S (fun c => (metC val i).any (· == c)) (metC val i).length
theorem Met.keep {h h' : Heap} {val : Nat → Str} {i : Nat} (m : Met prog w h S val i) (k : ∀ o, h.get? S = some o → h'.get? S = some o) : Met prog w h' S val i := by
  obtain ⟨o, a, b, c, q, r⟩ := m
  exact ⟨o, a, b, c, k o q, r⟩
theorem upd_all (W : WalksS prog w A.in1 I fp wr G n P St) (out : S ∉ fp) (val : Nat → Str) (told : ∀ i v, P i v → ∃ t, v = .str (val i) t) (few : n + 1 < scanBound) (left : Nat) :
    ∀ (i : Nat) (s : Shared), i + left = n → St i s → Met prog w s.heap S val i →
      (∀ t, Moved (S :: wr) G s t → Met prog w t.heap S val n → R (.ok (.ret .none)) t) → codeAny (model prog w) A (.builtin "set.update.loop" ⟨[.ref S, .ref I], []⟩) R s := by
  have out2 : S ∉ wr := fun q => out (W.sub S q)
  have more : ∀ b ∈ wr, b ∈ S :: wr := fun b q => .tail _ q
  induction left with
  | zero =>
    rintro i s rfl st met fin
    apply upd_turn
    exact W.done s _ _ st fun t mv => fin t (mv.mono more) (met.keep fun o q => mv.heap S o out2 q)
  | succ left ih =>
    intro i s sum st met fin
    apply upd_turn
    refine W.item i s _ _ (by omega) st fun v t hv st2 mv => ?_
    obtain ⟨tk, rfl⟩ := told i v hv
    have met2 := met.keep (h' := t.heap) fun o q => mv.heap S o out2 q
    unfold setAdd
    apply wpAny_holding
    apply wpAny_bind
    apply (PySem.strKind prog w).pyHash (k := val i) (strKind_is _ _ _ _)
    have room := metC_le val i
    refine wpAny_setAddHashed_of (knd := PySem.strKind prog w) (s := { t with toks := t.toks + 1 }) (strKind_is _ _ _ _) rfl met2 (by omega) fun h3 only met3 => ?_
    have ne : ∀ b, b ∈ fp → b ≠ S := fun b q z => out (z ▸ q)
    refine ih (i + 1) _ (by omega) (W.frame (i + 1) t h3 _ st2 (Nat.le_succ _) fun b q o e => ?_) (SetOf_congr met3 (fun c => (addC_any _ _ c).symm) (addC_length _ _).symm) fun u mv2 met4 => fin u (Moved.trans W.gtrans ((mv.mono more).then_heap (Nat.le_succ _) fun b o q e => ?_) mv2) met4
    · rw [only.2 b (ne b q)]
      exact e
    · rw [only.2 b fun z => q (z ▸ .head _)]
      exact e
end
section
variable {prog : Program} {w : World} {A : Around} {E : Value → Shared → Prop} {s : Shared}
theorem text_no_set : isSubtype (.type "str") (.type "set") = pure false := by rw [isSubtype_type]; kernel_rfl
theorem text_no_frz : isSubtype (.type "str") (.type "frozenset") = pure false := by rw [isSubtype_type]; kernel_rfl
/-- the object of a new set -/
def setObj (led : Bool) : Obj := { cls := .type "set", dict := none, data := .set #[] 0 (.fresh 0 0 led) }
/-- what a text is to a set -/
theorem upd_text {A : Around} {E : Value → Shared → Prop} {s : Shared} {x : Str} {t : Tok} {S : Addr} {led : Bool} {Q : Unit → Shared → Prop} (hh : A.handled = none) (few : x.cps.size + 1 < scanBound) (hS : s.heap.get? S = some (setObj led))
    (h : ∀ h' tk, Met prog w h' S (sgn x) x.cps.size → (∀ b o, b ≠ S → s.heap.get? b = some o → h'.get? b = some o) → Q () { s with heap := h', toks := tk }) :
    wpAny (model prog w) A (Builtin.Frozenset.updateFrom "set.__init__" S (.str x t)) Q E s := by
  have g1 := text_no_set
  have g2 := text_no_frz
  have g3 : (Value.type "str" == Value.type "dict") = false := by decide
  unfold Builtin.Frozenset.updateFrom
  generalize hw : pyIter = step
  wp_walk
  subst hw
  apply wpAny_pyIter_str
  intro o St W st
  apply wpAny_bind
  apply wpAny_runValue
  have lt : S < s.heap.objs.size := Heap.lt_size hS
  refine upd_all (W A.in1 hh).toS (by simpa using Nat.ne_of_lt lt) (sgn x) (fun i v q => ?_) few x.cps.size 0 _ (Nat.zero_add _) st ?_ fun u mv met => ?_
  · obtain ⟨c, k, e, rfl⟩ := q
    refine ⟨k, ?_⟩
    rw [sgn, Array.getD_eq_getD_getElem?, e]
    rfl
  · have fresh := (PyProof.Rows.setObjOf_fresh (knd := PySem.strKind prog w) led).setOf (Heap.get?_push_of_some o hS) (by unfold scanBound; omega)
    exact SetOf_congr fresh (fun _ => rfl) rfl
  · have e : u = { s with heap := u.heap, toks := u.toks } := by
      obtain ⟨_, _, _, _, _⟩ := u
      have q1 := mv.gens
      have q2 := mv.drawn
      have q3 := mv.os
      cases q1
      cases q2
      cases q3
      rfl
    rw [e]
    apply wpAny_pure
    refine h _ _ met fun b ob q eb => mv.heap b ob ?_ (Heap.get?_push_of_some o eb)
    have := Heap.lt_size eb
    simp only [List.mem_cons, List.not_mem_nil, or_false, not_or]
    exact ⟨q, Nat.ne_of_lt this⟩
set_option maxHeartbeats 3200000 in
/-- set(text): a new object at the end of the heap -/
theorem call_set_text {x : Str} {t : Tok} {Q : Value → Shared → Prop} (calm : A.handled = none) (few : x.cps.size + 1 < scanBound)
    (h : ∀ (h' : Heap) (tk : Nat), Met prog w h' s.heap.objs.size (sgn x) x.cps.size → (∀ b o, b < s.heap.objs.size → s.heap.get? b = some o → h'.get? b = some o) → Q (.ref s.heap.objs.size) { s with heap := h', toks := tk }) :
    wpAny (model prog w) A (call (.type "set") [.str x t]) Q E s := by
  have F := PySem.F.called_set
  have f1 := F.notType
  have f2 := F.canCreate
  obtain ⟨_, _, f3⟩ := F.mro
  have f4 := F.made
  have f5 := F.sub
  have f6 := PySem.F.typeCall_set_1 (.str x t)
  apply wpAny_call
  apply codeAny_of_tree
  show wpAny _ _ (callAny (.type "set") _) _ _ _
  apply wpAny_pure
  constructor
  · exact Code.quiet_builtin _ (by decide +kernel)
  apply codeAny_builtin PySem.F.entry_type_call
  rw [A.under_plain (weight_type_call_type "set" [.str x t] []) rfl]
  repeat (any_goals (first | assumption | wp_step))
  -- the new object
  apply codeAny_mono (code_set_new_1 (.str x t) (E := E) (Q₁ := fun v u => ∃ led, v = .ref s.heap.objs.size ∧ u = { s with heap := s.heap.push (setObj led) }) fun led => ⟨led, rfl, rfl⟩)
  rintro (e | fl) s1 hv
  · exact hv
  cases fl with
  | ret v =>
    obtain ⟨led, rfl, rfl⟩ := hv
    have at_ : (s.heap.push (setObj led)).get? s.heap.objs.size = some (setObj led) := Heap.get?_push_size _ rfl
    have ty : Shared.TypeIs { s with heap := s.heap.push (setObj led) } (.ref s.heap.objs.size) "set" := ⟨_, at_, rfl⟩
    have g1 := F.init.lookup
    have g2 := F.init.bind (.ref s.heap.objs.size)
    repeat (any_goals (first | assumption | wp_step))
    -- its __init__
    apply codeAny_mono (codeAny_call_builtin (R := wants (fun r u => r = .none ∧ ∃ h' tk, u = { s with heap := h', toks := tk } ∧ Met prog w h' s.heap.objs.size (sgn x) x.cps.size ∧ ∀ b o, b < s.heap.objs.size → s.heap.get? b = some o → h'.get? b = some o) E) F.init.plain PySem.F.entry_set_init (check_set_init_1 ty ?_))
    · rintro (e | fl) s2 hu
      · exact hu
      cases fl with
      | ret r =>
        obtain ⟨rfl, h', tk, rfl, m, k⟩ := hu
        repeat (any_goals (first | assumption | wp_step))
        exact h _ _ m k
      | _ => exact hu.elim
    · unfold Builtin.«set.__init__» noKeywords
      generalize hu : Builtin.Frozenset.updateFrom = U
      wp_walk
      subst hu
      apply upd_text (led := led) (by simp [calm]) few at_
      intro h' tk m k
      repeat (any_goals (first | assumption | wp_step))
      exact ⟨rfl, h', tk, rfl, m, fun b o lt q => k b o (Nat.ne_of_lt lt) (Heap.get?_push_of_some _ q)⟩
  | _ => exact hv.elim
end
end IpS
end PtIpSet
section PtIpTup
set_option Elab.async false
set_option linter.all false
set_option maxRecDepth 100000
/-! tuples that are known to have no dict of their own -/
namespace Ip
open PySem PySem.Spec PyProof.Rows L2
/-- a tuple without a dict -/
def TupP (K : PySem.W.Frag) (H : Hp) (a : Addr) (xs : List V) : Prop :=
  (∃ o, H a = some (.frz o (.tup xs)) ∧ o.dict = none) ∨
    ∃ (o : Obj) (its : Array Value) (n : Nat), K.lookup a = some o ∧ o.cls = .type "tuple" ∧ o.dict = none ∧ o.data = .seq its n ∧ its.size ≤ sizeLine ∧ Vals xs its.toList
theorem TupP.sq {K : PySem.W.Frag} {H : Hp} {a : Addr} {xs : List V} (h : TupP K H a xs) : SqT K H a xs := by
  rcases h with ⟨o, h, _⟩ | ⟨o, its, n, h1, h2, _, h4⟩
  · exact .inl (.inr ⟨o, h⟩)
  · exact .inr ⟨o, its, n, h1, h2, h4⟩
theorem TupP.of {K : PySem.W.Frag} {H : Hp} {a : Addr} {o : Obj} {xs : List V} (h : H a = some (.frz o (.tup xs))) (hd : o.dict = none) : TupP K H a xs := .inl ⟨o, h, hd⟩
theorem TupP.upd {K : PySem.W.Frag} {H : Hp} {a p : Addr} {o : HO} {xs : List V} (hp : H p = none) (h : TupP K H a xs) : TupP K (L2.upd H p o) a xs := by
  rcases h with ⟨u, h, hd⟩ | h
  · exact .inl ⟨u, by rw [upd_ne (ne_of_none h hp)]; exact h, hd⟩
  · exact .inr h
theorem TupP.setL {K : PySem.W.Frag} {H : Hp} {a p : Addr} {vs ws xs : List V} (hp : H p = some (.lst vs)) (h : TupP K H a xs) : TupP K (L2.upd H p (.lst ws)) a xs := by
  rcases h with ⟨u, h, hd⟩ | h
  · exact .inl ⟨u, by rw [upd_ne (ne_of h hp (fun z => by cases z))]; exact h, hd⟩
  · exact .inr h
/-- things that change and are no tuples -/
def hotO : HO → Prop
  | .lst _ => True
  | .dK _ => True
  | .frz _ (.dK _) => True
  | _ => False
theorem TupP.setU {K : PySem.W.Frag} {H : Hp} {a p : Addr} {u w : HO} {xs : List V} (hp : H p = some u) (hu : hotO u) (h : TupP K H a xs) : TupP K (L2.upd H p w) a xs := by
  rcases h with ⟨o, h, hd⟩ | h
  · exact .inl ⟨o, by rw [upd_ne (ne_of h hp (fun z => by rw [← z] at hu; exact hu))]; exact h, hd⟩
  · exact .inr h
theorem TupP.const {K : PySem.W.Frag} {H : Hp} {a : Addr} {xs : List V} (h : ∃ (o : Obj) (its : Array Value) (n : Nat), K.lookup a = some o ∧ o.cls = .type "tuple" ∧ o.dict = none ∧ o.data = .seq its n ∧ its.size ≤ sizeLine ∧ Vals xs its.toList) : TupP K H a xs := .inr h
/-- a new tuple -/
def NewT (H : Hp) (xs : List V) (Q : VK) : Prop := ∀ p o, H p = none → o.dict = none → Q (.ref p) (upd H p (.frz o (.tup xs)))
def tupO (us : List Value) : Obj := { cls := .type "tuple", data := .seq us.toArray }
section
variable {X : Cx} {pins : List (Addr × Obj)} {σ : L2.St} {H : Hp} {s : Shared} {Q : VK} {xs : List V} {us : List Value}
theorem new_tup {t : Nat} (I : Inv X pins σ H s) (r : Vals xs us) (z : xs.length ≤ sizeLine) (q : NewT H xs Q) : EP X pins σ Q (.ref s.heap.objs.size) { s with heap := s.heap.push (tupO us), toks := t } :=
  have at_ : (s.heap.push (tupO us)).get? s.heap.objs.size = some (tupO us) := Heap.get?_push_size _ rfl
  ⟨.ref s.heap.objs.size, upd H s.heap.objs.size (.frz (tupO us) (.tup xs)), I.laid (fun _ _ e => Heap.get?_push_of_some _ e) (Nat.le_refl _) ⟨at_, z, us, r, _, at_, rfl, _, rfl⟩, rfl, q _ _ (I.hok.fresh (Nat.le_refl _)) rfl⟩
end
section
variable {X : Cx}
theorem pe_tupZ {es : List Expr} {k : Nat} {pos : Pos} {t : TA} (h : PA X es t) : PE X (.Tuple es k pos) (fun σ H Q => t σ H fun xs H1 => xs.length ≤ sizeLine ∧ NewT H1 xs Q) :=
  ⟨fun pins s σ H Q I q => wpAny_Tuple_spliced (thn (h.run pos pins s σ H _ I q) fun us s1 ⟨xs, H1, I1, r, z, q1⟩ => ⟨by rw [← r.length]; exact z, new_tup (t := s1.toks) I1 r z q1⟩)⟩
/-- tuple(xs) -/
theorem cr_tupleZ : CallR X (.type "tuple") (fun vs H Q => ∃ p ys, vs = [.ref p] ∧ ((SqL X.K H p ys ∧ NewT H ys Q) ∨ (TupP X.K H p ys ∧ Q (.ref p) H))) := by
  rintro pins s σ H vs us Q I r ⟨p, ys, rfl, hq⟩
  obtain ⟨u, rfl, rx⟩ := vals1 r
  cases rx
  rcases hq with ⟨hl, q⟩ | ⟨ht, q⟩
  · obtain ⟨its, rv, pl, z⟩ := I.list hl
    have le := rv.length
    exact call_tuple_list pl.isList (fun h' kp => new_tup (s := { s with heap := h' }) (t := s.toks) (I.kept (t' := s.toks) kp) rv z q) (by rw [List.size_toArray]; omega)
  · obtain ⟨its, rv, pl, z⟩ := I.tuple ht.sq
    refine call_tuple_same pl ?_
    exact ⟨V.ref p, H, I, rfl, q⟩
/-- t + u -/
theorem or_catZ : OpR X (binaryOp .Add) (fun x y H Q => ∃ a b xs ys, x = .ref a ∧ y = .ref b ∧ TupP X.K H a xs ∧ TupP X.K H b ys ∧ xs.length + ys.length ≤ sizeLine ∧
    (xs = [] → Q (.ref b) H) ∧ (xs ≠ [] → ys = [] → Q (.ref a) H) ∧ NewT H (xs ++ ys) Q) := by
  rintro pins s σ H x y v u Q I rx ry ⟨a, b, xs, ys, rfl, rfl, ha, hb, hz, q0, q1, q2⟩
  cases rx
  cases ry
  obtain ⟨its, r1, p1, _⟩ := I.tuple ha.sq
  obtain ⟨its2, r2, p2, _⟩ := I.tuple hb.sq
  by_cases hx : xs = []
  · subst hx
    cases r1
    refine cat_tup0 p1 p2 ?_
    exact ⟨V.ref b, H, I, rfl, q0 rfl⟩
  · exact HT.cat_tup p1 p2 (fun e => hx (r1.nil_iff.mp e)) (fun e => ⟨.ref a, H, I, rfl, q1 hx (r2.nil_iff.mp e)⟩) (fun _ => new_tup (t := s.toks) I (r1.append r2) (by rw [List.length_append]; exact hz) q2) (by rw [← r1.length, ← r2.length]; exact hz)
/-- t[lo:hi] -/
theorem sl_cutZ : SlR X (fun x lo hi H Q => ∃ a xs, x = .ref a ∧ TupP X.K H a xs ∧ (HT.sIx xs.length 0 lo = 0 ∧ HT.sIx xs.length xs.length hi = xs.length → Q (.ref a) H) ∧ NewT H (cutV xs lo hi) Q) := by
  rintro pins s σ H x v vl vu lo hi sl Q I rx hs pl pu ⟨a, xs, rfl, hx, q1, q2⟩
  cases rx
  obtain ⟨its, r, ht, hz⟩ := I.tuple hx.sq
  have n : its.toArray.size = xs.length := by rw [List.size_toArray, r.length]
  refine ⟨_, _, slot_tuple_getitem.lookup, ht.typeIs, ?_⟩
  by_cases whole : HT.sIx xs.length 0 lo = 0 ∧ HT.sIx xs.length xs.length hi = xs.length
  · exact getItem_tuple_whole ht hs pl pu (n ▸ whole) ⟨.ref a, H, I, rfl, q1 whole⟩
  · refine HT.getItem_tuple_cut ht hs pl pu (n ▸ whole) ?_ (n ▸ hz)
    rw [n]
    exact new_tup (t := s.toks) I ((r.drop _).take _) (Nat.le_trans (cutV_length xs lo hi) hz) q2
/-- divmod(i, j) -/
theorem cr_divmodZ : CallR X (.builtin "divmod") (fun vs H Q => ∃ i j, vs = [.int i, .int j] ∧ CDiv i j ∧ NewT H [.int (i / j), .int (i % j)] Q) := by
  rintro pins s σ H vs us Q I r ⟨i, j, rfl, ⟨h1, h2⟩, q⟩
  obtain ⟨u, w, rfl, ⟨t, rfl⟩, ⟨t', rfl⟩⟩ := vals2 r
  apply divmod_int (by omega) _ (.inl (PyProof.noPylong_small (by omega)))
  have j0 : 0 ≤ j := by omega
  rw [Int.fdiv_eq_ediv_of_nonneg i j0, Int.fmod_eq_emod_of_nonneg i j0]
  exact new_tup (xs := [.int (i / j), .int (i % j)]) (us := [.int (i / j) s.toks, .int (i % j) (s.toks + 1)]) I (.cons ⟨_, rfl⟩ (.cons ⟨_, rfl⟩ .nil)) (show 2 ≤ sizeLine by decide) q
/-- x.partition(sep) -/
theorem mt_partZ : MtR X "str.partition" (fun x vs H Q => ∃ a b, x = .str a ∧ vs = [.str b] ∧ (b.length == 0) = false ∧ a.length ≤ sizeLine ∧ NewT H [.str (Txt.partition a b).1, .str (Txt.partition a b).2.1, .str (Txt.partition a b).2.2] Q) := by
  intro pins s σ H x vs v us Q I rx rs h
  obtain ⟨a, b, rfl, rfl, hb, hz, q⟩ := h
  obtain ⟨t, rfl⟩ := rx
  obtain ⟨_, rfl, ⟨u, rfl⟩⟩ := vals1 rs
  refine call_meets F.slot_str_partition (typeIs_str _ _ _) F.entry_str_partition (F.args_str_partition_2 (.str a t) (.str b u)) (meets_str_partition a b t u hb hz) ?_
  unfold Txt.partition at q
  revert q
  cases Builtin.Str.occurrences a b 0 a.length 1 with
  | nil => exact fun q => new_tup (xs := [.str a, .str "", .str ""]) I (.cons ⟨_, rfl⟩ (.cons ⟨_, rfl⟩ (.cons ⟨_, rfl⟩ .nil))) (show 3 ≤ sizeLine by decide) q
  | cons i is => exact fun q => new_tup (xs := [.str (Builtin.Str.strSub a 0 i), .str b, .str (Builtin.Str.strSub a (i + b.length) a.length)]) I (.cons ⟨_, rfl⟩ (.cons ⟨_, rfl⟩ (.cons ⟨_, rfl⟩ .nil))) (show 3 ≤ sizeLine by decide) q
/-! ### dict(t), t a tuple of pairs -/
theorem tup_plain {pins : List (Addr × Obj)} {σ : L2.St} {H : Hp} {s : Shared} {a : Addr} {xs : List V} (I : Inv X pins σ H s) (h : TupP X.K H a xs) : ∃ its : List Value, Vals xs its ∧ PlainSeq "tuple" s.heap a its.toArray ∧ xs.length ≤ sizeLine := by
  rcases h with ⟨o, h, hd⟩ | ⟨o, its, n, h1, h2, h3, h4, h5, h6⟩
  · obtain ⟨e, z, us, r, o2, e2, c, n, d⟩ := I.hok a _ h
    rw [e] at e2
    cases e2
    exact ⟨us, r, ⟨o, n, e, c, hd, d⟩, z⟩
  · refine ⟨its.toList, h6, ⟨o, n, I.kIn a o h1, h2, h3, by simpa using h4⟩, ?_⟩
    have := h6.length
    have e : its.toList.length = its.size := Array.length_toList
    omega
end
end Ip
end PtIpTup
section PtIpCore
set_option Elab.async false
set_option linter.all false
/-! The small machine: values without addresses, a store of lists, a core language, what it does. -/
namespace Ip
open PySem

inductive DV where
  | non | bl (b : Bool) | int (i : Int) | str (x : Str) | tup (xs : List DV) | ref (n : Nat) | exc (c : Nat)
  deriving Inhabited

inductive Cell where
  | lst (xs : List DV) | frz (xs : List DV) | dct (kvs : List (L2.Key × DV)) | fdct (kvs : List (L2.Key × DV))
  deriving Inhabited
abbrev Store := List Cell
abbrev Loc := List (Option DV)

inductive Res (α : Type) where
  | ok (a : α) (s : Store) | exc (c : Nat) (s : Store) | stuck
@[inline] def Res.bind {α β : Type} (m : Res α) (f : α → Store → Res β) : Res β := match m with
  | .ok a s => f a s
  | .exc c s => .exc c s
  | .stuck => .stuck
/-- without exceptions -/
def Res.quiet {α : Type} : Res α → Res α
  | .ok a s => .ok a s
  | _ => .stuck
def optR {α β : Type} (o : Option α) (f : α → Res β) : Res β := match o with
  | some a => f a
  | none => .stuck
inductive Out where
  | nx (r : Loc) (s : Store) | rt (v : DV) (s : Store) | bk (r : Loc) (s : Store) | ct (r : Loc) (s : Store) | exc (c : Nat) (r : Loc) (s : Store) | stuck

inductive BOp where
  | add | sub | mul | fdiv | mod | pow | shl | shr
  deriving DecidableEq
inductive COp where
  | eq | ne | lt | le | gt | ge | is | isNot | «in» | notIn
  deriving DecidableEq
inductive Cl where
  | ty (n : String) | own (c : Nat)
  deriving DecidableEq
inductive Bi where
  | len | abs | int | divmod | list | tuple | str | max2 | min2 | gcd | lenset | any | all | dict | sorted | max1 | min1 | fmt | cat | sum
  deriving DecidableEq
/-- methods of texts -/
inductive SM where
  | join | split | partition | startswith | isascii | isdigit
  deriving DecidableEq
inductive Mt where
  | append
  deriving DecidableEq
/-- a constant -/
inductive Kc where
  | non | bl (b : Bool) | int (i : Int) | str (x : Str)
  deriving DecidableEq
def Kc.dv : Kc → DV
  | .non => .non | .bl b => .bl b | .int i => .int i | .str x => .str x

mutual
inductive CE where
  | slot (i : Nat) | k (c : Kc) | glob (g : Nat) | isx (i : Nat) (c : Cl)
  | bin (op : BOp) (a b : CE) | neg (a : CE) | not (a : CE) | and (a b : CE) | or (a b : CE)
  | cmp (op : COp) (a b : CE) | chain (op op2 : COp) (a b c : CE) | ife (t a b : CE)
  | ix (a b : CE) | slc (a : CE) (lo hi : CO) | rev (a : CE)
  | tup (es : CEs) | lst (es : CEs)
  | call (f : Nat) (es : CEs) | bi (b : Bi) (es : CEs) | isi (a : CE) (cs : List Cl) | meth (m : Mt) (o : CE) (es : CEs)
  | lc (t : CT) (it : CI) (ifs : CEs) (e : CE) (own : List Nat)
  | smeth (m : SM) (o : CE) (es : CEs) | get2 (d k x : CE) | setd (d k x : CE) | dnew
inductive CEs where
  | nil | cons (e : CE) (es : CEs)
inductive CO where
  | no | some (e : CE)
inductive CI where
  | seq (e : CE) | range1 (a : CE) | range2 (a b : CE) | range3 (a b c : CE) | zip (a b : CE) | enum (a : CE) | rev (a : CE)
inductive CT where
  | name (i : Nat) | tup (ts : CTs) | sub (a b : CE)
inductive CTs where
  | nil | cons (t : CT) (ts : CTs)
end
mutual
inductive CS where
  | asg (t : CT) (e : CE) | par (i j : Nat) (a b : CE) | aug (i : Nat) (op : BOp) (e : CE)
  | ife (c : CE) (a b : CSs) | for_ (t : CT) (it : CI) (b : CSs) | forD (t : CT) (i : Nat) (b : CSs) | while_ (c : CE) (b : CSs)
  | ret (e : CE) | retN | drop (e : CE) | pass | brk | cont
  | raise (c : Nat) | try_ (b : CSs) (c : Nat) (i : Option Nat) (h : CSs)
  | pick (i : Nat) (e : CE) (kvs : List (Str × Nat)) (es : CEs)
inductive CSs where
  | nil | cons (s : CS) (ss : CSs)
end

/-! ### operations by values -/
/-! the data of a value without references -/
mutual
def pd : DV → PyData
  | .non => .none | .bl b => .bool b | .int i => .int i | .str x => .str x
  | .tup xs => .tuple (pds xs)
  | .ref _ => .none | .exc _ => .none
def pds : List DV → List PyData
  | [] => []
  | x :: xs => pd x :: pds xs
end
mutual
def pure? : DV → Bool
  | .non => true | .bl _ => true | .int _ => true | .str _ => true
  | .tup xs => pures? xs
  | .ref _ => false | .exc _ => false
def pures? : List DV → Bool
  | [] => true
  | x :: xs => pure? x && pures? xs
end
def cmpable (a : DV) : Bool := pure? a && SeqAt.shaped (pd a)
def deq (a b : DV) : Bool := PyData.eqv (pd a) (pd b)

def mulOk (i j : Int) : Bool := decide (i.natAbs < 2 ^ 64) || decide (j.natAbs < 2 ^ 64) || decide (i.natAbs.log2 + j.natAbs.log2 < 1000000)
def binI (op : BOp) (i j : Int) (s : Store) : Res DV := match op with
  | .add => .ok (.int (i + j)) s
  | .sub => .ok (.int (i - j)) s
  | .mul => if mulOk i j then .ok (.int (i * j)) s else .stuck
  | .fdiv => if 0 < j ∧ j.natAbs.log2 < 9000 then .ok (.int (i / j)) s else if j < 0 ∧ j.natAbs.log2 < 9000 then .ok (.int (i.fdiv j)) s else .stuck
  | .mod => if 0 < j then .ok (.int (i % j)) s else if j < 0 then .ok (.int (i.fmod j)) s else .stuck
  | .pow => if 0 ≤ j ∧ j ≤ 1000000 ∧ i.natAbs < 2 ^ 64 then .ok (.int (i ^ j.toNat)) s else .stuck
  | .shl => if 0 ≤ j ∧ j ≤ 1000000 ∧ i.natAbs < 2 ^ 1000 then .ok (.int (i * 2 ^ j.toNat)) s else .stuck
  | .shr => if 0 ≤ j then .ok (.int (i / 2 ^ j.toNat)) s else .stuck
def binV (op : BOp) (x y : DV) (s : Store) : Res DV := match x, y with
  | .int i, .int j => binI op i j s
  | .str a, .str b => match op with
    | .add => if a.length + b.length ≤ sizeLine then .ok (.str (a ++ b)) s else .stuck
    | _ => .stuck
  | .tup a, .tup b => match op with
    | .add => if a.length + b.length ≤ sizeLine then .ok (.tup (a ++ b)) s else .stuck
    | _ => .stuck
  | .str a, .int n => match op with
    | .mul => if 1 ≤ n ∧ n ≤ 1000 ∧ a.length ≤ 1000 then .ok (.str (PySem.Txt.mul a n)) s else .stuck
    | _ => .stuck
  | .ref a, .ref b => match op with
    | .add => match s[a]?, s[b]? with
      | some (.lst xs), some (.lst ys) => if xs.length + ys.length ≤ sizeLine then .ok (.ref s.length) (s ++ [.lst (xs ++ ys)]) else .stuck
      | _, _ => .stuck
    | _ => .stuck
  | _, _ => .stuck
/-- x op= y -/
def augV (op : BOp) (x y : DV) (s : Store) : Res DV := match x, y, op with
  | .int i, .int j, .add => .ok (.int (i + j)) s
  | .int i, .int j, .sub => .ok (.int (i - j)) s
  | .str a, .str b, .add => if a.length + b.length ≤ sizeLine then .ok (.str (a ++ b)) s else .stuck
  | _, _, _ => .stuck
def ints? : List DV → Option (List Int)
  | [] => some []
  | .int i :: xs => match ints? xs with
    | some is => some (i :: is)
    | none => none
  | _ :: _ => none
def strs? : List DV → Option (List Str)
  | [] => some []
  | .str i :: xs => match strs? xs with
    | some is => some (i :: is)
    | none => none
  | _ :: _ => none
def cmpV (op : COp) (x y : DV) (s : Store) : Res Bool := match op with
  | .eq => if cmpable x && cmpable y then .ok (deq x y) s else .stuck
  | .ne => if cmpable x && cmpable y then .ok (!deq x y) s else .stuck
  | .lt => match x, y with
    | .int i, .int j => .ok (decide (i < j)) s
    | .str a, .str b => .ok (decide (a.cps.toList < b.cps.toList)) s
    | .tup a, .tup b => match ints? a, ints? b with
      | some i, some j => .ok (HT.lexLt i j) s
      | _, _ => .stuck
    | _, _ => .stuck
  | .le => match x, y with
    | .int i, .int j => .ok (decide (i ≤ j)) s
    | _, _ => .stuck
  | .gt => match x, y with
    | .int i, .int j => .ok (decide (j < i)) s
    | _, _ => .stuck
  | .ge => match x, y with
    | .int i, .int j => .ok (decide (j ≤ i)) s
    | _, _ => .stuck
  | .is => match x, y with
    | .non, .non => .ok true s
    | .exc _, _ => .stuck
    | _, .non => .ok false s
    | _, _ => .stuck
  | .isNot => match x, y with
    | .non, .non => .ok false s
    | .exc _, _ => .stuck
    | _, .non => .ok true s
    | _, _ => .stuck
  | .in => match x, y with
    | .str a, .str b => if a.length = 1 then .ok (decide (a.cps.getD 0 0 ∈ b.cps.toList)) s else .stuck
    | .str a, .tup ys => optR (strs? ys) fun zs => .ok (zs.any fun z => decide (z = a)) s
    | .int a, .tup ys => optR (ints? ys) fun zs => .ok (zs.any fun z => decide (z = a)) s
    | _, _ => .stuck
  | .notIn => match x, y with
    | .str a, .str b => if a.length = 1 then .ok (!decide (a.cps.getD 0 0 ∈ b.cps.toList)) s else .stuck
    | _, _ => .stuck
/-- what stands in a list -/
def cellL (s : Store) (r : Nat) : Option (List DV) := match s[r]? with
  | some (.lst xs) => some xs
  | some (.frz xs) => some xs
  | _ => none
def truth (x : DV) (s : Store) : Res Bool := match x with
  | .non => .ok false s
  | .bl b => .ok b s
  | .int i => .ok (i != 0) s
  | .str y => if y.length ≤ sizeLine then .ok ((y.length : Int) != 0) s else .stuck
  | .tup xs => .ok (!xs.isEmpty) s
  | .ref r => match cellL s r with
    | some xs => .ok (!xs.isEmpty) s
    | none => .stuck
  | .exc _ => .stuck
def itemV (x y : DV) (s : Store) : Res DV := match x, y with
  | .tup xs, .int i => optR (L2.atI xs i) fun v => .ok v s
  | .ref r, .int i => optR (cellL s r) fun xs => optR (L2.atI xs i) fun v => .ok v s
  | .str z, .int i => if z.length ≤ sizeLine then match L2.atI z.cps.toList i with
      | some c => .ok (.str ⟨#[c]⟩) s
      | none => .stuck
    else .stuck
  | _, _ => .stuck
def cut {α : Type} (xs : List α) (lo hi : Option Int) : List α := (xs.drop (HT.sIx xs.length 0 lo)).take (HT.sIx xs.length xs.length hi - HT.sIx xs.length 0 lo)
def sliceV (x : DV) (lo hi : Option Int) (s : Store) : Res DV := match x with
  | .tup xs => .ok (.tup (cut xs lo hi)) s
  | .ref r => match cellL s r with
    | some xs => .ok (.ref s.length) (s ++ [.lst (cut xs lo hi)])
    | none => .stuck
  | .str z => if z.length ≤ sizeLine then .ok (.str ⟨(cut z.cps.toList lo hi).toArray⟩) s else .stuck
  | _ => .stuck
def clIs (x : DV) (s : Store) : Cl → Option Bool
  | .ty n => match x with
    | .non => some (n == "NoneType")
    | .bl _ => some (n == "bool" || n == "int")
    | .int _ => some (n == "int")
    | .str _ => some (n == "str")
    | .tup _ => some (n == "tuple")
    | .ref r => match cellL s r with
      | some _ => some (n == "list")
      | none => none
    | .exc _ => none
  | .own _ => none
def bools? : List DV → Option (List Bool)
  | [] => some []
  | .bl i :: xs => match bools? xs with
    | some is => some (i :: is)
    | none => none
  | _ :: _ => none
def keyD : L2.Key → DV
  | .inl i => .int i
  | .inr x => .str x
def key? : DV → Option L2.Key
  | .int i => some (.inl i)
  | .str x => some (.inr x)
  | _ => none
/-- pairs (key, value) -/
def pairs? : List DV → Option (List (L2.Key × DV))
  | [] => some []
  | .tup [k, v] :: xs => match key? k, pairs? xs with
    | some k, some kvs => some ((k, v) :: kvs)
    | _, _ => none
  | _ :: _ => none
def putD (kvs : List (L2.Key × DV)) (k : L2.Key) (v : DV) : List (L2.Key × DV) :=
  if kvs.any (fun kv => decide (kv.1 = k)) then kvs.map fun kv => if kv.1 = k then (kv.1, v) else kv else kvs ++ [(k, v)]
def mergeD (kvs more : List (L2.Key × DV)) : List (L2.Key × DV) := more.foldl (fun acc kv => putD acc kv.1 kv.2) kvs
def getD (kvs : List (L2.Key × DV)) (k : L2.Key) : Option DV := (kvs.find? fun kv => decide (kv.1 = k)).map (·.2)
/-- an int among those that are in order -/
def ins (x : Int) : List Int → List Int
  | [] => [x]
  | y :: ys => if x ≤ y then x :: y :: ys else y :: ins x ys
def isort : List Int → List Int
  | [] => []
  | x :: xs => ins x (isort xs)
def maxL : List Int → Option Int
  | [] => none
  | x :: xs => some (xs.foldl max x)
def minL : List Int → Option Int
  | [] => none
  | x :: xs => some (xs.foldl min x)
def biV (b : Bi) (xs : List DV) (s : Store) : Res DV := match b, xs with
  | .len, [.str z] => if z.length ≤ sizeLine then .ok (.int z.length) s else .stuck
  | .len, [.tup ys] => .ok (.int ys.length) s
  | .len, [.ref r] => match cellL s r with
    | some ys => .ok (.int ys.length) s
    | none => .stuck
  | .abs, [.int i] => .ok (.int (if i < 0 then -i else i)) s
  | .int, [.int i] => .ok (.int i) s
  | .int, [.bl b] => .ok (.int (if b then 1 else 0)) s
  | .divmod, [.int i, .int j] => if 0 < j ∧ j < 1073741824 then .ok (.tup [.int (i / j), .int (i % j)]) s else .stuck
  | .list, [.ref r] => match cellL s r with
    | some ys => .ok (.ref s.length) (s ++ [.lst ys])
    | none => .stuck
  | .list, [.tup ys] => .ok (.ref s.length) (s ++ [.lst ys])
  | .tuple, [.ref r] => match cellL s r with
    | some ys => .ok (.tup ys) s
    | none => .stuck
  | .tuple, [.tup ys] => .ok (.tup ys) s
  | .str, [.int i] => if i.natAbs.log2 < 1920 then .ok (.str (toString i)) s else .stuck
  | .gcd, [.int i, .int j] => .ok (.int ((Nat.gcd i.natAbs j.natAbs : Nat) : Int)) s
  | .max2, [.int i, .int j] => .ok (.int (if j > i then j else i)) s
  | .min2, [.int i, .int j] => .ok (.int (if j < i then j else i)) s
  | .lenset, [.str z] => if z.cps.size + 1 < scanBound then .ok (.int (IpS.metC (IpS.sgn z) z.cps.size).length) s else .stuck
  | .any, [.ref r] => optR (cellL s r) fun xs => optR (bools? xs) fun bs => .ok (.bl (bs.any id)) s
  | .all, [.ref r] => optR (cellL s r) fun xs => optR (bools? xs) fun bs => .ok (.bl (bs.all id)) s
  | .dict, [.tup xs] => optR (pairs? xs) fun kvs => .ok (.ref s.length) (s ++ [.dct (mergeD [] kvs)])
  | .sorted, [.ref r] => optR (cellL s r) fun xs => optR (ints? xs) fun is => if is.length < 64 then .ok (.ref s.length) (s ++ [.lst ((isort is).map DV.int)]) else .stuck
  | .sum, [.ref r] => optR (cellL s r) fun xs => optR (ints? xs) fun is => .ok (.int is.sum) s
  | .max1, [.ref r] => optR (cellL s r) fun xs => optR (ints? xs) fun is => optR (maxL is) fun m => .ok (.int m) s
  | .min1, [.ref r] => optR (cellL s r) fun xs => optR (ints? xs) fun is => optR (minL is) fun m => .ok (.int m) s
  | .max1, [.tup xs] => optR (ints? xs) fun is => optR (maxL is) fun m => .ok (.int m) s
  | .min1, [.tup xs] => optR (ints? xs) fun is => optR (minL is) fun m => .ok (.int m) s
  | .fmt, [.str x] => if x.length ≤ 1000 then .ok (.str x) s else .stuck
  | .fmt, [.int i] => if i.natAbs.log2 < 1920 ∧ (Str.ofString (toString i)).length ≤ 1000 then .ok (.str (toString i)) s else .stuck
  | .cat, xs => if xs.length ≤ 16 then optR (strs? xs) fun ts => .ok (.str (ts.foldl (· ++ ·) Str.empty)) s else .stuck
  | .int, [.str z] => optR (PySem.intText? z) fun n => if z.length ≤ 640 then .ok (.int n) s else .stuck
  | _, _ => .stuck
def smV (m : SM) (z : Str) (xs : List DV) (s : Store) : Res DV := match m, xs with
  | .join, [.ref r] => optR (cellL s r) fun ys => optR (strs? ys) fun ts => if (ts.map (·.length)).sum + ts.length * z.length ≤ 16777216 then .ok (.str (PySem.Txt.join z ts)) s else .stuck
  | .split, [.str y] => if (y.length == 0) = false ∧ z.length + 2 ≤ sizeLine ∧ (PySem.Txt.split z y).length ≤ sizeLine then .ok (.ref s.length) (s ++ [.lst ((PySem.Txt.split z y).map DV.str)]) else .stuck
  | .partition, [.str y] => if (y.length == 0) = false ∧ z.length ≤ sizeLine then .ok (.tup [.str (PySem.Txt.partition z y).1, .str (PySem.Txt.partition z y).2.1, .str (PySem.Txt.partition z y).2.2]) s else .stuck
  | .startswith, [.str y] => .ok (.bl (PySem.Txt.startswith z y)) s
  | .isascii, [] => .ok (.bl (PySem.Txt.isascii z)) s
  | .isdigit, [] => .ok (.bl (PySem.Txt.isdigit z)) s
  | _, _ => .stuck
def mtV (m : Mt) (x : DV) (xs : List DV) (s : Store) : Res DV := match m, x, xs with
  | .append, .ref r, [y] => match s[r]? with
    | some (.lst ys) => if ys.length < sizeLine then .ok .non (s.set r (.lst (ys ++ [y]))) else .stuck
    | _ => .stuck
  | _, _, _ => .stuck
/-- what stands in a dict -/
def dctAt (s : Store) (r : Nat) : Option (List (L2.Key × DV)) := match s[r]? with
  | some (.dct kvs) => some kvs
  | some (.fdct kvs) => some kvs
  | _ => none
def setV (x y v : DV) (s : Store) : Option Store := match x with
  | .ref r => match s[r]? with
    | some (.lst ys) => match y with
      | .int i => match L2.ixN ys.length i with
        | some j => some (s.set r (.lst (ys.set j v)))
        | none => none
      | _ => none
    | some (.dct kvs) => match key? y with
      | some k => if kvs.length < sizeLine then some (s.set r (.dct (putD kvs k v))) else none
      | none => none
    | _ => none
  | _ => none

/-! ### what is walked: a source, the items -/
inductive Src where
  | free | cell (r : Nat) (xs : List DV)
  deriving Inhabited
/-- the source still stands as it stood -/
def Src.ok (f : Src) (s : Store) : Prop := match f with
  | .free => True
  | .cell r xs => cellL s r = some xs

/-! ### expressions -/
section
variable (call : Nat → List DV → Store → Res DV) (G : Nat → Option DV) (sub : Nat → Nat → Bool)
open Classical in
/-- the turns of a comprehension: what is made so far stands at p -/
noncomputable def lcL (p : Nat) (f : Src) (body : DV → Store → Res (Option DV)) : List DV → Store → Res DV
  | [], s => if f.ok s then .ok (.ref p) s else .stuck
  | x :: xs, s => if f.ok s then (body x s).quiet.bind fun o s1 => match o with
      | none => lcL p f body xs s1
      | some v => match s1[p]? with
        | some (.lst acc) => if acc.length < sizeLine then lcL p f body xs (s1.set p (.lst (acc ++ [v]))) else .stuck
        | _ => .stuck
    else .stuck
def wipe (r : Loc) : List Nat → Loc
  | [] => r
  | v :: vs => (wipe r vs).set v none
mutual
noncomputable def evE : CE → Loc → Store → Res DV
  | .slot i, r, s => match r[i]? with
    | some (some (.exc _)) => .stuck
    | some (some v) => .ok v s
    | _ => .stuck
  | .isx i c, r, s => match r[i]? with
    | some (some (.exc d)) => match c with
      | .own c => .ok (.bl (sub d c)) s
      | .ty n => if n = "ValueError" then .ok (.bl true) s else .stuck
    | _ => .stuck
  | .k c, _, s => .ok c.dv s
  | .glob g, _, s => match G g with
    | some v => .ok v s
    | none => .stuck
  | .bin op a b, r, s => (evE a r s).bind fun x s => (evE b r s).bind fun y s => binV op x y s
  | .neg a, r, s => (evE a r s).bind fun x s => match x with
    | .int i => .ok (.int (-i)) s
    | _ => .stuck
  | .not a, r, s => (evE a r s).bind fun x s => (truth x s).bind fun b s => .ok (.bl (!b)) s
  | .and a b, r, s => (evE a r s).bind fun x s => (truth x s).bind fun c s => cond c (evE b r s) (.ok x s)
  | .or a b, r, s => (evE a r s).bind fun x s => (truth x s).bind fun c s => cond c (.ok x s) (evE b r s)
  | .cmp op a b, r, s => (evE a r s).bind fun x s => (evE b r s).bind fun y s => (cmpV op x y s).bind fun c s => .ok (.bl c) s
  | .chain op op2 a b c, r, s => (evE a r s).bind fun x s => (evE b r s).bind fun y s => (cmpV op x y s).bind fun k s =>
      cond k ((evE c r s).bind fun z s => (cmpV op2 y z s).bind fun k s => .ok (.bl k) s) (.ok (.bl false) s)
  | .ife t a b, r, s => (evE t r s).bind fun x s => (truth x s).bind fun c s => cond c (evE a r s) (evE b r s)
  | .ix a b, r, s => (evE a r s).bind fun x s => (evE b r s).bind fun y s => itemV x y s
  | .slc a lo hi, r, s => (evE a r s).bind fun x s => (evO lo r s).bind fun l s => (evO hi r s).bind fun h s => sliceV x l h s
  | .rev a, r, s => (evE a r s).bind fun x s => match x with
    | .ref l => match cellL s l with
      | some xs => .ok (.ref s.length) (s ++ [.lst xs.reverse])
      | none => .stuck
    | _ => .stuck
  | .tup es, r, s => (evEs es r s).bind fun xs s => if xs.length ≤ sizeLine then .ok (.tup xs) s else .stuck
  | .lst es, r, s => (evEs es r s).bind fun xs s => if xs.length ≤ sizeLine then .ok (.ref s.length) (s ++ [.lst xs]) else .stuck
  | .call f es, r, s => (evEs es r s).bind fun xs s => call f xs s
  | .bi b es, r, s => (evEs es r s).bind fun xs s => biV b xs s
  | .isi a cs, r, s => (evE a r s).bind fun x s => match cs with
    | [c] => match clIs x s c with
      | some b => .ok (.bl b) s
      | none => .stuck
    | _ => .stuck
  | .meth m o es, r, s => (evE o r s).bind fun x s => match x with
    | .ref l => match cellL s l with
      | some _ => (evEs es r s).bind fun xs s => mtV m (.ref l) xs s
      | none => .stuck
    | _ => .stuck
  | .lc t it ifs e own, r, s => (evI it r s).bind fun q s => lcL s.length q.1
      (fun x s => (evT t x (wipe r own) s).bind fun r s => (evAll ifs r s).bind fun b s => cond b ((evE e r s).bind fun v s => .ok (some v) s) (.ok none s)) q.2 (s ++ [.lst []])
  | .smeth m o es, r, s => (evE o r s).bind fun x s => match x with
    | .str z => (evEs es r s).bind fun xs s => smV m z xs s
    | _ => .stuck
  | .get2 d k x, r, s => (evE d r s).bind fun y s => match y with
    | .ref l => optR (dctAt s l) fun _ => (evE k r s).bind fun z s => (evE x r s).bind fun w s => optR (dctAt s l) fun kvs => optR (key? z) fun k => .ok ((getD kvs k).getD w) s
    | _ => .stuck
  | .setd d k x, r, s => (evE d r s).bind fun y s => match y with
    | .ref l => optR (dctAt s l) fun _ => (evE k r s).bind fun z s => (evE x r s).bind fun w s => match s[l]? with
      | some (.dct kvs) => optR (key? z) fun k => if kvs.length < sizeLine then match getD kvs k with
          | some v => .ok v s
          | none => .ok w (s.set l (.dct (putD kvs k w)))
        else .stuck
      | _ => .stuck
    | _ => .stuck
  | .dnew, _, s => .ok (.ref s.length) (s ++ [.dct []])
noncomputable def evEs : CEs → Loc → Store → Res (List DV)
  | .nil, _, s => .ok [] s
  | .cons e es, r, s => (evE e r s).bind fun x s => (evEs es r s).bind fun xs s => .ok (x :: xs) s
/-- all of some tests -/
noncomputable def evAll : CEs → Loc → Store → Res Bool
  | .nil, _, s => .ok true s
  | .cons e es, r, s => (evE e r s).bind fun x s => (truth x s).bind fun c s => cond c (evAll es r s) (.ok false s)
noncomputable def evO : CO → Loc → Store → Res (Option Int)
  | .no, _, s => .ok none s
  | .some e, r, s => (evE e r s).bind fun x s => match x with
    | .int i => .ok (some i) s
    | _ => .stuck
/-- what is walked -/
noncomputable def evI : CI → Loc → Store → Res (Src × List DV)
  | .seq e, r, s => (evE e r s).bind fun x s => match x with
    | .tup xs => .ok (.free, xs) s
    | .ref l => match cellL s l with
      | some xs => .ok (.cell l xs, xs) s
      | none => .stuck
    | .str z => .ok (.free, z.cps.toList.map fun c => .str ⟨#[c]⟩) s
    | _ => .stuck
  | .range1 a, r, s => (evE a r s).bind fun x s => match x with
    | .int n => if -(2 ^ 62) ≤ n ∧ n < 2 ^ 62 then .ok (.free, (List.range n.toNat).map fun (i : Nat) => .int (0 + (i : Int))) s else .stuck
    | _ => .stuck
  | .range2 a b, r, s => (evE a r s).bind fun x s => (evE b r s).bind fun y s => match x, y with
    | .int m, .int n => if (-(2 ^ 62) ≤ m ∧ m < 2 ^ 62) ∧ -(2 ^ 62) ≤ n ∧ n < 2 ^ 62 then .ok (.free, (List.range (n - m).toNat).map fun (i : Nat) => .int (m + (i : Int))) s else .stuck
    | _, _ => .stuck
  | .range3 a b c, r, s => (evE a r s).bind fun x s => (evE b r s).bind fun y s => (evE c r s).bind fun z s => match x, y, z with
    | .int m, .int n, .int d => if ((-(2 ^ 62) ≤ m ∧ m < 2 ^ 62) ∧ -(2 ^ 62) ≤ n ∧ n < 2 ^ 62) ∧ d = -1 then .ok (.free, (List.range (m - n).toNat).map fun (i : Nat) => .int (m + (i : Int) * -1)) s else .stuck
    | _, _, _ => .stuck
  | .zip a b, r, s => (evE a r s).bind fun x s => (evE b r s).bind fun y s => match x, y with
    | .tup xs, .tup ys => .ok (.free, (xs.zip ys).map fun p => .tup [p.1, p.2]) s
    | _, _ => .stuck
  | .enum a, r, s => (evE a r s).bind fun x s => match x with
    | .tup xs => .ok (.free, xs.mapIdx fun i x => .tup [.int (0 + (i : Nat)), x]) s
    | .str z => .ok (.free, (z.cps.toList.map fun c => DV.str ⟨#[c]⟩).mapIdx fun i x => .tup [.int (0 + (i : Nat)), x]) s
    | _ => .stuck
  | .rev a, r, s => (evE a r s).bind fun x s => match x with
    | .tup xs => .ok (.free, xs.reverse) s
    | _ => .stuck
/-- a value into a target -/
noncomputable def evT : CT → DV → Loc → Store → Res Loc
  | .name i, v, r, s => if i < r.length then .ok (r.set i (some v)) s else .stuck
  | .tup ts, v, r, s => match v with
    | .tup xs => evTs ts xs r s
    | .ref l => match cellL s l with
      | some xs => evTs ts xs r s
      | none => .stuck
    | _ => .stuck
  | .sub a b, v, r, s => (evE a r s).quiet.bind fun x s => (evE b r s).quiet.bind fun y s => optR (setV x y v s) fun s => .ok r s
noncomputable def evTs : CTs → List DV → Loc → Store → Res Loc
  | .nil, xs, r, s => match xs with
    | [] => .ok r s
    | _ :: _ => .stuck
  | .cons t ts, xs, r, s => match xs with
    | x :: xs => (evT t x r s).bind fun r s => evTs ts xs r s
    | [] => .stuck
end

/-! ### statements -/
/-- a value, then what follows; an exception leaves with the slots as they are -/
@[inline] def Res.out {α : Type} (m : Res α) (r : Loc) (f : α → Store → Out) : Out := match m with
  | .ok a s => f a s
  | .exc c s => .exc c r s
  | .stuck => .stuck
/-- what follows a statement -/
@[inline] def Out.then (o : Out) (f : Loc → Store → Out) : Out := match o with
  | .nx r s => f r s
  | .rt v s => .rt v s
  | .bk r s => .bk r s
  | .ct r s => .ct r s
  | .exc c r s => .exc c r s
  | .stuck => .stuck
/-- no slot holds an error -/
def noX (r : Loc) : Bool := r.all fun o => match o with
  | some (.exc _) => false
  | _ => true
/-- an error is caught -/
@[inline] def Out.catch (o : Out) (f : Nat → Loc → Store → Out) : Out := match o with
  | .exc d r s => f d r s
  | .nx r s => .nx r s
  | .rt v s => .rt v s
  | .bk r s => .bk r s
  | .ct r s => .ct r s
  | .stuck => .stuck
/-- behind a clause its name is gone -/
def Out.unset (o : Out) (i : Nat) : Out := match o with
  | .nx r s => if noX (r.set i none) then .nx (r.set i none) s else .stuck
  | .bk r s => if noX (r.set i none) then .bk (r.set i none) s else .stuck
  | .ct r s => if noX (r.set i none) then .ct (r.set i none) s else .stuck
  | .rt v s => .rt v s
  | .exc _ _ _ => .stuck
  | .stuck => .stuck
/-- a clause lets no error out -/
def Out.hush (o : Out) : Out := match o with
  | .nx r s => .nx r s
  | .bk r s => .bk r s
  | .ct r s => .ct r s
  | .rt v s => .rt v s
  | .exc _ _ _ => .stuck
  | .stuck => .stuck
open Classical in
noncomputable def forL (f : Src) (body : DV → Loc → Store → Out) : List DV → Loc → Store → Out
  | [], r, s => if f.ok s then .nx r s else .stuck
  | x :: xs, r, s => if f.ok s then match body x r s with
      | .nx r s => forL f body xs r s
      | .ct r s => forL f body xs r s
      | .bk r s => .nx r s
      | .rt v s => .rt v s
      | .exc c r s => .exc c r s
      | .stuck => .stuck
    else .stuck
noncomputable def whileL (test : Loc → Store → Res Bool) (body : Loc → Store → Out) : Nat → Loc → Store → Out
  | 0, _, _ => .stuck
  | n + 1, r, s => (test r s).out r fun c s => cond c (match body r s with
      | .nx r s => whileL test body n r s
      | .ct r s => whileL test body n r s
      | .bk r s => .nx r s
      | .rt v s => .rt v s
      | .exc c r s => .exc c r s
      | .stuck => .stuck) (.nx r s)
/-- how many turns a while may take -/
def turns : Nat := 1000000000
/-- behind a walk through a dict it may change again -/
def Out.unlock (o : Out) (l : Nat) : Out := match o with
  | .nx r s => match s[l]? with
    | some (.fdct kvs) => .nx r (s.set l (.dct kvs))
    | _ => .stuck
  | .rt v s => match s[l]? with
    | some (.fdct kvs) => .rt v (s.set l (.dct kvs))
    | _ => .stuck
  | _ => .stuck
mutual
noncomputable def evS : CS → Loc → Store → Out
  | .asg t e, r, s => (evE call G sub e r s).out r fun v s => (evT call G sub t v r s).out r fun r s => .nx r s
  | .par i j a b, r, s => (evE call G sub a r s).out r fun x s => (evE call G sub b r s).out r fun y s => if i < r.length ∧ j < r.length then .nx ((r.set i (some x)).set j (some y)) s else .stuck
  | .aug i op e, r, s => match r[i]? with
    | some (some (.exc _)) => .stuck
    | some (some x) => (evE call G sub e r s).out r fun y s => (augV op x y s).out r fun z s => .nx (r.set i (some z)) s
    | _ => .stuck
  | .ife c a b, r, s => (evE call G sub c r s).out r fun x s => (truth x s).out r fun c s => cond c (evSs a r s) (evSs b r s)
  | .for_ t it b, r, s => (evI call G sub it r s).out r fun q s => forL q.1 (fun x r s => (evT call G sub t x r s).out r fun r s => evSs b r s) q.2 r s
  | .forD t i b, r, s => match r[i]? with
    | some (some (.ref l)) => match s[l]? with
      | some (.dct kvs) => (forL .free (fun x r s => (evT call G sub t x r s).out r fun r s => evSs b r s) (kvs.map fun kv => keyD kv.1) r (s.set l (.fdct kvs))).unlock l
      | _ => .stuck
    | _ => .stuck
  | .while_ c b, r, s => whileL (fun r s => (evE call G sub c r s).bind fun x s => truth x s) (fun r s => evSs b r s) turns r s
  | .ret e, r, s => (evE call G sub e r s).out r fun v s => .rt v s
  | .retN, _, s => .rt .non s
  | .drop e, r, s => (evE call G sub e r s).out r fun _ s => .nx r s
  | .pass, r, s => .nx r s
  | .brk, r, s => .bk r s
  | .cont, r, s => .ct r s
  | .raise c, r, s => .exc c r s
  | .try_ b c i h, r, s => (evSs b r s).catch fun d r s => cond (sub d c) (match i with
      | none => (evSs h r s).hush
      | some i => (evSs h (r.set i (some (.exc d))) s).unset i) (.exc d r s)
  | .pick i e kvs es, r, s => (evE call G sub e r s).out r fun x s => match x with
    | .str z => match kvs.lookup z with
      | some f => if i < r.length then ((evEs call G sub es (r.set i none) s).bind fun xs s => call f xs s).out (r.set i none) fun v s => .rt v s else .stuck
      | none => .stuck
    | _ => .stuck
noncomputable def evSs : CSs → Loc → Store → Out
  | .nil, r, s => .nx r s
  | .cons st ss, r, s => (evS st r s).then fun r s => evSs ss r s
end
end

/-! ### defs -/
structure Def where
  n : Nat          -- how many names
  ps : Nat         -- how many parameters
  body : CSs
def start (n : Nat) (vs : List DV) : Loc := vs.map some ++ List.replicate (n - vs.length) none
/-- what a def's body gives back -/
def Out.fin : Out → Res DV
  | .nx _ s => .ok .non s
  | .rt v s => .ok v s
  | .exc c _ s => .exc c s
  | .bk _ _ => .stuck
  | .ct _ _ => .stuck
  | .stuck => .stuck
/-- the defs by number, to a depth of calls -/
noncomputable def callAt (D : Nat → Option Def) (G : Nat → Option DV) (sub : Nat → Nat → Bool) : Nat → Nat → List DV → Store → Res DV
  | 0, _, _, _ => .stuck
  | k + 1, f, vs, s => match D f with
    | none => .stuck
    | some d => if vs.length = d.ps then (evSs (callAt D G sub k) G sub d.body (start d.n vs) s).fin else .stuck
end Ip
end PtIpCore
section PtIpSound
set_option Elab.async false
set_option linter.all false
set_option maxRecDepth 100000
/-! What the small machine does, the program does. -/
namespace Ip
open PySem PySem.Spec PyProof.Rows L2

/-! ### values, stores, slots -/
mutual
inductive VR (K : PySem.W.Frag) (μ : List Addr) (H : Hp) : V → DV → Prop
  | non : VR K μ H .non .non
  | bl (b : Bool) : VR K μ H (.bl b) (.bl b)
  | int (i : Int) : VR K μ H (.int i) (.int i)
  | str (x : Str) : VR K μ H (.str x) (.str x)
  | tup {a : Addr} {vs : List V} {ds : List DV} : TupP K H a vs → VRs K μ H vs ds → VR K μ H (.ref a) (.tup ds)
  | ref {n : Nat} {a : Addr} : μ[n]? = some a → VR K μ H (.ref a) (.ref n)
inductive VRs (K : PySem.W.Frag) (μ : List Addr) (H : Hp) : List V → List DV → Prop
  | nil : VRs K μ H [] []
  | cons {v : V} {vs : List V} {d : DV} {ds : List DV} : VR K μ H v d → VRs K μ H vs ds → VRs K μ H (v :: vs) (d :: ds)
end
/-- values keep what they are -/
structure LeW (K : PySem.W.Frag) (μ : List Addr) (H : Hp) (μ' : List Addr) (H' : Hp) : Prop where
  pre : ∀ (n : Nat) (a : Addr), μ[n]? = some a → μ'[n]? = some a
  tup : ∀ (a : Addr) (xs : List V), TupP K H a xs → TupP K H' a xs
/-- and what is locked stays -/
structure Le (K : PySem.W.Frag) (μ : List Addr) (H : Hp) (μ' : List Addr) (H' : Hp) : Prop extends LeW K μ H μ' H' where
  frz : ∀ (a : Addr) (o : Obj) (u : HO), H a = some (.frz o u) → H' a = some (.frz o u)
section
variable {K : PySem.W.Frag} {μ μ' μ2 : List Addr} {H H' H2 : Hp}
theorem Le.refl : Le K μ H μ H := ⟨⟨fun _ _ h => h, fun _ _ h => h⟩, fun _ _ _ h => h⟩
theorem Le.trans (a : Le K μ H μ' H') (b : Le K μ' H' μ2 H2) : Le K μ H μ2 H2 := ⟨⟨fun n x h => b.pre n x (a.pre n x h), fun n x h => b.tup n x (a.tup n x h)⟩, fun x o u h => b.frz x o u (a.frz x o u h)⟩
mutual
theorem VR.monoW (e : LeW K μ H μ' H') : ∀ {v : V} {d : DV}, VR K μ H v d → VR K μ' H' v d
  | _, _, .non => .non
  | _, _, .bl b => .bl b
  | _, _, .int i => .int i
  | _, _, .str x => .str x
  | _, _, .tup h hs => .tup (e.tup _ _ h) (VRs.monoW e hs)
  | _, _, .ref h => .ref (e.pre _ _ h)
theorem VRs.monoW (e : LeW K μ H μ' H') : ∀ {vs : List V} {ds : List DV}, VRs K μ H vs ds → VRs K μ' H' vs ds
  | _, _, .nil => .nil
  | _, _, .cons h hs => .cons (VR.monoW e h) (VRs.monoW e hs)
end
theorem VR.mono (e : Le K μ H μ' H') {v : V} {d : DV} (h : VR K μ H v d) : VR K μ' H' v d := h.monoW e.toLeW
theorem VRs.mono (e : Le K μ H μ' H') {vs : List V} {ds : List DV} (h : VRs K μ H vs ds) : VRs K μ' H' vs ds := h.monoW e.toLeW
theorem VRs.length : ∀ {vs : List V} {ds : List DV}, VRs K μ H vs ds → vs.length = ds.length
  | _, _, .nil => rfl
  | _, _, .cons _ t => by rw [List.length_cons, List.length_cons, t.length]
theorem VRs.get : ∀ {vs : List V} {ds : List DV}, VRs K μ H vs ds → ∀ {i : Nat} {d : DV}, ds[i]? = some d → ∃ v, vs[i]? = some v ∧ VR K μ H v d
  | _, _, .nil, _, _, h => by simp at h
  | _, _, .cons r t, 0, d, h => by
    have e := Option.some.inj h
    subst e
    exact ⟨_, rfl, r⟩
  | _, _, .cons r t, i + 1, d, h => t.get (i := i) h
theorem VRs.getV : ∀ {vs : List V} {ds : List DV}, VRs K μ H vs ds → ∀ {i : Nat} {v : V}, vs[i]? = some v → ∃ d, ds[i]? = some d ∧ VR K μ H v d
  | _, _, .nil, _, _, h => by simp at h
  | _, _, .cons r t, 0, d, h => by
    have e := Option.some.inj h
    subst e
    exact ⟨_, rfl, r⟩
  | _, _, .cons r t, i + 1, d, h => t.getV (i := i) h
theorem VRs.append : ∀ {vs ws : List V} {ds es : List DV}, VRs K μ H vs ds → VRs K μ H ws es → VRs K μ H (vs ++ ws) (ds ++ es)
  | _, _, _, _, .nil, h => h
  | _, _, _, _, .cons r t, h => .cons r (t.append h)
theorem VRs.take : ∀ {vs : List V} {ds : List DV} (n : Nat), VRs K μ H vs ds → VRs K μ H (vs.take n) (ds.take n)
  | _, _, 0, _ => by rw [List.take_zero, List.take_zero]; exact .nil
  | _, _, n + 1, .nil => .nil
  | _, _, n + 1, .cons r t => .cons r (t.take n)
theorem VRs.drop : ∀ {vs : List V} {ds : List DV} (n : Nat), VRs K μ H vs ds → VRs K μ H (vs.drop n) (ds.drop n)
  | _, _, 0, h => h
  | _, _, n + 1, .nil => .nil
  | _, _, n + 1, .cons r t => t.drop n
theorem VRs.set : ∀ {vs : List V} {ds : List DV} {v : V} {d : DV} (i : Nat), VR K μ H v d → VRs K μ H vs ds → VRs K μ H (vs.set i v) (ds.set i d)
  | _, _, _, _, _, _, .nil => .nil
  | _, _, _, _, 0, r, .cons _ t => .cons r t
  | _, _, _, _, i + 1, r, .cons q t => .cons q (t.set i r)
theorem VRs.reverse {vs : List V} {ds : List DV} (h : VRs K μ H vs ds) : VRs K μ H vs.reverse ds.reverse := by
  induction vs generalizing ds with
  | nil => cases h; exact .nil
  | cons v vs ih =>
    cases h with
    | cons r t =>
      rw [List.reverse_cons, List.reverse_cons]
      exact (ih t).append (.cons r .nil)
theorem VRs.isEmpty {vs : List V} {ds : List DV} (h : VRs K μ H vs ds) : vs.isEmpty = ds.isEmpty := by cases h <;> rfl

/-- a list that is read only -/
def Fz (K : PySem.W.Frag) (H : Hp) (a : Addr) (xs : List V) : Prop :=
  (∃ o, H a = some (.frz o (.lst xs))) ∨
    ∃ (o : Obj) (its : Array Value) (n : Nat), K.lookup a = some o ∧ o.cls = .type "list" ∧ o.dict = none ∧ o.data = .seq its n ∧ its.size ≤ sizeLine ∧ Vals xs its.toList
theorem Fz.sql {a : Addr} {xs : List V} (h : Fz K H a xs) : SqL K H a xs := by
  rcases h with ⟨o, h⟩ | h
  · exact .inl (.inr ⟨o, h⟩)
  · exact .inr h
def CR (K : PySem.W.Frag) (μ : List Addr) (H : Hp) (a : Addr) : Cell → Prop
  | .lst ds => ∃ vs, H a = some (.lst vs) ∧ VRs K μ H vs ds ∧ ds.length ≤ sizeLine
  | .frz ds => ∃ vs, Fz K H a vs ∧ VRs K μ H vs ds ∧ ds.length ≤ sizeLine
  | .dct kvs => ∃ ws : List (Key × V), H a = some (.dK ws) ∧ ws.map (·.1) = kvs.map (·.1) ∧ VRs K μ H (ws.map (·.2)) (kvs.map (·.2)) ∧ kvs.length ≤ sizeLine
  | .fdct kvs => ∃ (o : Obj) (ws : List (Key × V)), H a = some (.frz o (.dK ws)) ∧ ws.map (·.1) = kvs.map (·.1) ∧ VRs K μ H (ws.map (·.2)) (kvs.map (·.2)) ∧ kvs.length ≤ sizeLine
/-- cells that may change -/
def hotC : Cell → Prop
  | .frz _ => False
  | _ => True
theorem CR.hot {a : Addr} {c : Cell} (h : CR K μ H a c) (hc : hotC c) : ∃ u, H a = some u ∧ hotO u := by
  cases c with
  | lst ds => obtain ⟨vs, h1, _⟩ := h; exact ⟨_, h1, trivial⟩
  | frz ds => exact hc.elim
  | dct kvs => obtain ⟨ws, h1, _⟩ := h; exact ⟨_, h1, trivial⟩
  | fdct kvs => obtain ⟨o, ws, h1, _⟩ := h; exact ⟨_, h1, trivial⟩
structure Rel (K : PySem.W.Frag) (μ : List Addr) (H : Hp) (s : Store) : Prop where
  len : μ.length = s.length
  nd : ∀ (n m : Nat) (a : Addr) (c d : Cell), μ[n]? = some a → μ[m]? = some a → s[n]? = some c → s[m]? = some d → hotC c → hotC d → n = m
  at_ : ∀ (n : Nat) (a : Addr) (c : Cell), μ[n]? = some a → s[n]? = some c → CR K μ H a c
theorem Rel.cellZ {s : Store} (R : Rel K μ H s) {n : Nat} {a : Addr} {ds : List DV} (hm : μ[n]? = some a) (hs : cellL s n = some ds) : ∃ vs, SqL K H a vs ∧ VRs K μ H vs ds ∧ ds.length ≤ sizeLine := by
  unfold Ip.cellL at hs
  split at hs
  · rename_i xs h
    obtain ⟨vs, h1, h2, h3⟩ := R.at_ n a _ hm h
    cases hs
    exact ⟨vs, .inl (.inl h1), h2, h3⟩
  · rename_i xs h
    obtain ⟨vs, h1, h2, h3⟩ := R.at_ n a _ hm h
    cases hs
    exact ⟨vs, h1.sql, h2, h3⟩
  · cases hs
theorem Rel.cellL {s : Store} (R : Rel K μ H s) {n : Nat} {a : Addr} {ds : List DV} (hm : μ[n]? = some a) (hs : cellL s n = some ds) : ∃ vs, SqL K H a vs ∧ VRs K μ H vs ds := by
  obtain ⟨vs, h1, h2, _⟩ := R.cellZ hm hs
  exact ⟨vs, h1, h2⟩
theorem Rel.there {s : Store} (R : Rel K μ H s) {n : Nat} {a : Addr} (hm : μ[n]? = some a) : ∃ c, s[n]? = some c := by
  have h1 := (List.getElem?_eq_some_iff.mp hm).1
  have h2 : n < s.length := by rw [← R.len]; exact h1
  exact ⟨_, List.getElem?_eq_getElem h2⟩
theorem Rel.back {s : Store} (R : Rel K μ H s) {n : Nat} {c : Cell} (hs : s[n]? = some c) : ∃ a, μ[n]? = some a := by
  have h1 := (List.getElem?_eq_some_iff.mp hs).1
  have h2 : n < μ.length := by rw [R.len]; exact h1
  exact ⟨_, List.getElem?_eq_getElem h2⟩
/-- a new object that is no cell -/
theorem le_upd {p : Addr} {o : HO} (hp : H p = none) : Le K μ H μ (upd H p o) := ⟨⟨fun _ _ h => h, fun _ _ h => h.upd hp⟩, fun _ _ _ h => by rw [upd_ne (ne_of_none h hp)]; exact h⟩
theorem fz_upd {p a : Addr} {o : HO} {xs : List V} (hp : H p = none) (h : Fz K H a xs) : Fz K (upd H p o) a xs := by
  rcases h with ⟨u, h⟩ | h
  · exact .inl ⟨u, by rw [upd_ne (ne_of_none h hp)]; exact h⟩
  · exact .inr h
/-- a cell stays where its address is left alone -/
theorem CR.keep {H' : Hp} {a : Addr} {c : Cell} (h : CR K μ H a c) (e : hotC c → H' a = H a) (z : ∀ xs, Fz K H a xs → Fz K H' a xs) (le : LeW K μ H μ' H') : CR K μ' H' a c := by
  cases c with
  | lst ds =>
    obtain ⟨vs, h1, h2, h3⟩ := h
    exact ⟨vs, by rw [e trivial]; exact h1, h2.monoW le, h3⟩
  | frz ds =>
    obtain ⟨vs, h1, h2, h3⟩ := h
    exact ⟨vs, z _ h1, h2.monoW le, h3⟩
  | dct kvs =>
    obtain ⟨ws, h1, h2, h3, h4⟩ := h
    exact ⟨ws, by rw [e trivial]; exact h1, h2, h3.monoW le, h4⟩
  | fdct kvs =>
    obtain ⟨o, ws, h1, h2, h3, h4⟩ := h
    exact ⟨o, ws, by rw [e trivial]; exact h1, h2, h3.monoW le, h4⟩
theorem CR.upd {p a : Addr} {o : HO} {c : Cell} (hp : H p = none) (h : CR K μ H a c) (le : Le K μ H μ' (L2.upd H p o)) : CR K μ' (L2.upd H p o) a c :=
  h.keep (fun hc => by
    obtain ⟨u, h1, _⟩ := h.hot hc
    exact upd_ne (ne_of_none h1 hp)) (fun _ => fz_upd hp) le.toLeW
theorem Rel.upd {s : Store} {p : Addr} {o : HO} (R : Rel K μ H s) (hp : H p = none) : Rel K μ (L2.upd H p o) s :=
  ⟨R.len, R.nd, fun n a c hm hs => (R.at_ n a c hm hs).upd hp (le_upd hp)⟩
theorem get_app {α : Type} {l : List α} {x : α} {n : Nat} {a : α} (h : (l ++ [x])[n]? = some a) : l[n]? = some a ∨ (n = l.length ∧ a = x) := by
  rw [List.getElem?_append] at h
  split at h
  · exact .inl h
  · rename_i q
    have : n - l.length = 0 := by
      cases e : n - l.length with
      | zero => rfl
      | succ k => rw [e] at h; simp at h
    rw [this] at h
    exact .inr ⟨by omega, (Option.some.inj h).symm⟩
theorem get_app_l {α : Type} {l : List α} {x : α} {n : Nat} {a : α} (h : l[n]? = some a) : (l ++ [x])[n]? = some a := by
  have h1 := (List.getElem?_eq_some_iff.mp h).1
  rw [List.getElem?_append_left h1]
  exact h
theorem get_app_n {α : Type} {l : List α} {x : α} : (l ++ [x])[l.length]? = some x := by
  rw [List.getElem?_append_right (Nat.le_refl _), Nat.sub_self]
  rfl
/-- a new list -/
theorem le_new {p : Addr} {o : HO} (hp : H p = none) : Le K μ H (μ ++ [p]) (upd H p o) :=
  ⟨⟨fun _ _ h => get_app_l h, (le_upd (μ := μ) hp).tup⟩, (le_upd (K := K) (μ := μ) hp).frz⟩
theorem lt_of {α : Type} {l : List α} {n : Nat} {a : α} (h : l[n]? = some a) : n < l.length := (List.getElem?_eq_some_iff.mp h).1
theorem Rel.newC {s : Store} {p : Addr} {o : HO} {c : Cell} (R : Rel K μ H s) (hp : H p = none) (hc : CR K (μ ++ [p]) (L2.upd H p o) p c) : Rel K (μ ++ [p]) (L2.upd H p o) (s ++ [c]) := by
  have le : Le K μ H (μ ++ [p]) (L2.upd H p o) := le_new hp
  -- an old cell at p can't be hot
  have old : ∀ (n : Nat) (d : Cell), μ[n]? = some p → s[n]? = some d → hotC d → False := fun n d h1 h2 hd => by
    obtain ⟨u, q, _⟩ := (R.at_ n p d h1 h2).hot hd
    rw [hp] at q
    cases q
  have side : ∀ (n : Nat) (a : Addr) (d : Cell), (μ ++ [p])[n]? = some a → (s ++ [c])[n]? = some d → (μ[n]? = some a ∧ s[n]? = some d) ∨ (n = s.length ∧ a = p ∧ d = c) := fun n a d h1 h2 => by
    rcases get_app h1 with h1 | ⟨h1, e1⟩
    · rcases get_app h2 with h2 | ⟨h2, e2⟩
      · exact .inl ⟨h1, h2⟩
      · have := lt_of h1
        rw [R.len] at this
        omega
    · rcases get_app h2 with h2 | ⟨h2, e2⟩
      · have := lt_of h2
        rw [← R.len] at this
        omega
      · exact .inr ⟨h2, e1, e2⟩
  refine ⟨by rw [List.length_append, List.length_append, R.len]; rfl, fun n m a c1 c2 h1 h2 h3 h4 t1 t2 => ?_, fun n a d hm hs => ?_⟩
  · rcases side n a c1 h1 h3 with ⟨g1, g3⟩ | ⟨g1, g2, g3⟩
    · rcases side m a c2 h2 h4 with ⟨g2, g4⟩ | ⟨k1, k2, k3⟩
      · exact R.nd n m a c1 c2 g1 g2 g3 g4 t1 t2
      · subst k2
        exact (old n c1 g1 g3 t1).elim
    · rcases side m a c2 h2 h4 with ⟨k2, k4⟩ | ⟨k1, k2, k3⟩
      · subst g2
        exact (old m c2 k2 k4 t2).elim
      · omega
  · rcases side n a d hm hs with ⟨g1, g2⟩ | ⟨_, e1, e2⟩
    · exact (R.at_ n a d g1 g2).upd hp le
    · subst e1
      subst e2
      exact hc
theorem Rel.new {s : Store} {p : Addr} {vs : List V} {ds : List DV} (R : Rel K μ H s) (hp : H p = none) (hv : VRs K μ H vs ds) (hz : ds.length ≤ sizeLine) : Rel K (μ ++ [p]) (L2.upd H p (.lst vs)) (s ++ [.lst ds]) :=
  R.newC hp ⟨vs, upd_same, hv.mono (le_new hp), hz⟩
/-- a new dict -/
theorem Rel.newD {s : Store} {p : Addr} {ws : List (Key × V)} {kvs : List (Key × DV)} (R : Rel K μ H s) (hp : H p = none) (hk : ws.map (·.1) = kvs.map (·.1)) (hv : VRs K μ H (ws.map (·.2)) (kvs.map (·.2))) (hz : kvs.length ≤ sizeLine) : Rel K (μ ++ [p]) (L2.upd H p (.dK ws)) (s ++ [.dct kvs]) :=
  R.newC hp ⟨ws, upd_same, hk, hv.mono (le_new hp), hz⟩
/-- a cell changes -/
theorem le_setW {p : Addr} {u w : HO} (hp : H p = some u) (hu : hotO u) : LeW K μ H μ (upd H p w) := ⟨fun _ _ h => h, fun _ _ h => h.setU hp hu⟩
theorem le_setU {p : Addr} {u w : HO} (hp : H p = some u) (hu : hotO u) (hf : ∀ o v, u ≠ .frz o v) : Le K μ H μ (upd H p w) := ⟨le_setW hp hu, fun _ o v h => by rw [upd_ne (ne_of h hp fun z => hf o v z.symm)]; exact h⟩
theorem Rel.setC {s : Store} {p : Addr} {n : Nat} {c c' : Cell} {w : HO} (R : Rel K μ H s) (hm : μ[n]? = some p) (hs : s[n]? = some c) (hc : hotC c) (hc' : hotC c') (h : CR K μ (L2.upd H p w) p c') : Rel K μ (L2.upd H p w) (s.set n c') := by
  obtain ⟨u, hp, hu⟩ := (R.at_ n p c hm hs).hot hc
  have le : LeW K μ H μ (L2.upd H p w) := le_setW hp hu
  have hn := lt_of hs
  have back : ∀ (m : Nat) (d : Cell), (s.set n c')[m]? = some d → hotC d → ∃ e, s[m]? = some e ∧ hotC e := fun m d h hd => by
    by_cases e : n = m
    · subst e; exact ⟨c, hs, hc⟩
    · rw [List.getElem?_set_ne e] at h; exact ⟨d, h, hd⟩
  refine ⟨by rw [List.length_set]; exact R.len, fun i j a c1 c2 h1 h2 h3 h4 t1 t2 => ?_, fun m a d h1 h2 => ?_⟩
  · obtain ⟨e1, g1, z1⟩ := back i c1 h3 t1
    obtain ⟨e2, g2, z2⟩ := back j c2 h4 t2
    exact R.nd i j a e1 e2 h1 h2 g1 g2 z1 z2
  · by_cases e : n = m
    · subst e
      rw [hm] at h1
      cases h1
      rw [List.getElem?_set_self hn] at h2
      cases h2
      exact h
    · rw [List.getElem?_set_ne e] at h2
      refine (R.at_ m a d h1 h2).keep (fun hd => ?_) (fun xs q => ?_) le
      · refine upd_ne fun z => ?_
        subst z
        exact e (R.nd n m a c d hm h1 hs h2 hc hd)
      · rcases q with ⟨o, q⟩ | q
        · exact .inl ⟨o, by rw [upd_ne (ne_of q hp (fun z => by rw [← z] at hu; exact hu))]; exact q⟩
        · exact .inr q
/-- a list changes -/
theorem le_set {p : Addr} {vs ws : List V} (hp : H p = some (.lst vs)) : Le K μ H μ (upd H p (.lst ws)) := le_setU hp trivial fun _ _ z => nomatch z
theorem Rel.set {s : Store} {p : Addr} {n : Nat} {vs ws : List V} {ds es : List DV} (R : Rel K μ H s) (hm : μ[n]? = some p) (hs : s[n]? = some (.lst ds)) (hp : H p = some (.lst vs)) (hv : VRs K μ H ws es) (hz : es.length ≤ sizeLine) :
    Rel K μ (L2.upd H p (.lst ws)) (s.set n (.lst es)) :=
  R.setC hm hs trivial trivial ⟨ws, upd_same, hv.mono (le_set hp), hz⟩
/-- a dict changes -/
theorem Rel.setD {s : Store} {p : Addr} {n : Nat} {vs ws : List (Key × V)} {ds es : List (Key × DV)} (R : Rel K μ H s) (hm : μ[n]? = some p) (hs : s[n]? = some (.dct ds)) (hp : H p = some (.dK vs)) (hk : ws.map (·.1) = es.map (·.1)) (hv : VRs K μ H (ws.map (·.2)) (es.map (·.2))) (hz : es.length ≤ sizeLine) :
    Rel K μ (L2.upd H p (.dK ws)) (s.set n (.dct es)) :=
  R.setC hm hs trivial trivial ⟨ws, upd_same, hk, hv.monoW (le_setW hp trivial), hz⟩

/-! ### slots -/
structure LR (K : PySem.W.Frag) (ex : Option (Addr × Nat)) (μ : List Addr) (H : Hp) (σ : L2.St) (r : Loc) : Prop where
  len : r.length = σ.length
  at_ : ∀ (i : Nat) (d : DV), r[i]? = some (some d) → (∃ v, σ[i]? = some (some v) ∧ VR K μ H v d) ∨ ∃ a c, d = .exc c ∧ ex = some (a, c) ∧ σ[i]? = some (some (.ref a))
theorem LR.mono {ex : Option (Addr × Nat)} {σ : L2.St} {r : Loc} (e : Le K μ H μ' H') (h : LR K ex μ H σ r) : LR K ex μ' H' σ r :=
  ⟨h.len, fun i d q => by
    rcases h.at_ i d q with ⟨v, h1, h2⟩ | h
    · exact .inl ⟨v, h1, h2.mono e⟩
    · exact .inr h⟩
theorem LR.monoW {ex : Option (Addr × Nat)} {σ : L2.St} {r : Loc} (e : LeW K μ H μ' H') (h : LR K ex μ H σ r) : LR K ex μ' H' σ r :=
  ⟨h.len, fun i d q => by
    rcases h.at_ i d q with ⟨v, h1, h2⟩ | h
    · exact .inl ⟨v, h1, h2.monoW e⟩
    · exact .inr h⟩
theorem LR.set {ex : Option (Addr × Nat)} {σ : L2.St} {r : Loc} {i : Nat} {v : V} {d : DV} (h : LR K ex μ H σ r) (q : VR K μ H v d) : LR K ex μ H (σ.set i (some v)) (r.set i (some d)) := by
  refine ⟨by rw [List.length_set, List.length_set]; exact h.len, fun j e he => ?_⟩
  by_cases hij : i = j
  · subst hij
    have hlt : i < (r.set i (some d)).length := (List.getElem?_eq_some_iff.mp he).1
    rw [List.length_set] at hlt
    rw [List.getElem?_set_self hlt] at he
    cases he
    exact .inl ⟨v, by rw [List.getElem?_set_self (by rw [← h.len]; exact hlt)], q⟩
  · rw [List.getElem?_set_ne hij] at he
    rw [List.getElem?_set_ne hij]
    exact h.at_ j e he
theorem LR.del {ex : Option (Addr × Nat)} {σ : L2.St} {r : Loc} {i : Nat} (h : LR K ex μ H σ r) : LR K ex μ H (σ.set i none) (r.set i none) := by
  refine ⟨by rw [List.length_set, List.length_set]; exact h.len, fun j e he => ?_⟩
  by_cases hij : i = j
  · subst hij
    have hlt : i < (r.set i none).length := (List.getElem?_eq_some_iff.mp he).1
    rw [List.length_set] at hlt
    rw [List.getElem?_set_self hlt] at he
    cases he
  · rw [List.getElem?_set_ne hij] at he
    rw [List.getElem?_set_ne hij]
    exact h.at_ j e he
/-- in front of a suite no slot holds an exception -/
def NoX (r : Loc) : Prop := ∀ (i : Nat) (c : Nat), r[i]? ≠ some (some (.exc c))
theorem LR.re {ex ex' : Option (Addr × Nat)} {σ : L2.St} {r : Loc} (h : LR K ex μ H σ r) (e : ex = none ∨ ex = ex') : LR K ex' μ H σ r :=
  ⟨h.len, fun i d q => by
    rcases h.at_ i d q with h | ⟨a, c, h1, h2, h3⟩
    · exact .inl h
    · rcases e with e | e
      · rw [e] at h2; cases h2
      · exact .inr ⟨a, c, h1, by rw [← e]; exact h2, h3⟩⟩
theorem LR.wipe {ex : Option (Addr × Nat)} {σ : L2.St} {r : Loc} (h : LR K ex μ H σ r) : ∀ vs : List Nat, LR K ex μ H (L2.wipe σ vs) (Ip.wipe r vs)
  | [] => h
  | v :: vs => (LR.wipe h vs).del

/-! ### what a run of the small machine promises -/
section
variable {α β : Type}
def Go (K : PySem.W.Frag) (μ : List Addr) (H : Hp) (m : Res α) (Wn : Nat → Hp → Prop) (Q : List Addr → Hp → Store → α → Prop) : Prop := match m with
  | .ok d s => ∀ μ' H', Le K μ H μ' H' → Rel K μ' H' s → Q μ' H' s d
  | .exc c s => ∀ μ' H', Le K μ H μ' H' → Rel K μ' H' s → Wn c H'
  | .stuck => False
variable {m : Res α} {Wn : Nat → Hp → Prop}
theorem Go.map {Q Q' : List Addr → Hp → Store → α → Prop} (h : Go K μ H m Wn Q) (f : ∀ μ' H' s d, Le K μ H μ' H' → Rel K μ' H' s → Q μ' H' s d → Q' μ' H' s d) : Go K μ H m Wn Q' := by
  cases m with
  | ok d s => exact fun μ' H' le R => f μ' H' s d le R (h μ' H' le R)
  | exc c s => exact h
  | stuck => exact h
theorem Go.later {Q : List Addr → Hp → Store → α → Prop} (h : Go K μ H m Wn Q) (e : Le K μ H μ' H') : Go K μ' H' m Wn Q := by
  cases m with
  | ok d s => exact fun μ2 H2 le R => h μ2 H2 (e.trans le) R
  | exc c s => exact fun μ2 H2 le R => h μ2 H2 (e.trans le) R
  | stuck => exact h
theorem Go.bind {f : α → Store → Res β} {Q : List Addr → Hp → Store → β → Prop} (h : Go K μ H (m.bind f) Wn Q) : Go K μ H m Wn (fun μ1 H1 s1 d => Go K μ1 H1 (f d s1) Wn Q) := by
  cases m with
  | ok d s => exact fun μ1 H1 le R => Go.later (m := f d s) h le
  | exc c s => exact h
  | stuck => exact h
theorem Go.ok {d : α} {s : Store} {Q : List Addr → Hp → Store → α → Prop} (h : Go K μ H (.ok d s) Wn Q) (R : Rel K μ H s) : Q μ H s d := h μ H Le.refl R
end
end
end Ip
end PtIpSound
section PtIpKR
set_option Elab.async false
set_option linter.all false
set_option maxRecDepth 100000
/-! what a dict holds -/
namespace Ip
open PySem PySem.Spec PyProof.Rows L2
/-! ### what a dict holds -/
/-- the same keys, values that go together -/
inductive KR (K : PySem.W.Frag) (μ : List Addr) (H : Hp) : List (Key × V) → List (Key × DV) → Prop
  | nil : KR K μ H [] []
  | cons {k : Key} {v : V} {d : DV} {ws : List (Key × V)} {ks : List (Key × DV)} : VR K μ H v d → KR K μ H ws ks → KR K μ H ((k, v) :: ws) ((k, d) :: ks)
section
variable {K : PySem.W.Frag} {μ μ' : List Addr} {H H' : Hp}
theorem KR.both {ws : List (Key × V)} {ks : List (Key × DV)} (h : KR K μ H ws ks) : ws.map (·.1) = ks.map (·.1) ∧ VRs K μ H (ws.map (·.2)) (ks.map (·.2)) := by
  induction h with
  | nil => exact ⟨rfl, .nil⟩
  | cons r _ ih => exact ⟨by rw [List.map_cons, List.map_cons, ih.1], .cons r ih.2⟩
theorem KR.of : ∀ {ws : List (Key × V)} {ks : List (Key × DV)}, ws.map (·.1) = ks.map (·.1) → VRs K μ H (ws.map (·.2)) (ks.map (·.2)) → KR K μ H ws ks
  | [], [], _, _ => .nil
  | [], _ :: _, e, _ => by simp at e
  | _ :: _, [], e, _ => by simp at e
  | (k, v) :: ws, (k', d) :: ks, e, r => by
    rw [List.map_cons, List.map_cons, List.cons.injEq] at e
    obtain rfl : k = k' := e.1
    rw [List.map_cons, List.map_cons] at r
    cases r with
    | cons r t => exact .cons r (KR.of e.2 t)
theorem KR.len {ws : List (Key × V)} {ks : List (Key × DV)} (h : KR K μ H ws ks) : ws.length = ks.length := by
  induction h with
  | nil => rfl
  | cons _ _ ih => rw [List.length_cons, List.length_cons, ih]
theorem KR.some_in {ws : List (Key × V)} {ks : List (Key × DV)} (h : KR K μ H ws ks) (k : Key) : (ws.any fun z => decide (z.1 = k)) = ks.any fun z => decide (z.1 = k) := by
  induction h with
  | nil => rfl
  | cons _ _ ih => rw [List.any_cons, List.any_cons, ih]
theorem KR.at_end {ws : List (Key × V)} {ks : List (Key × DV)} {k : Key} {v : V} {d : DV} (h : KR K μ H ws ks) (r : VR K μ H v d) : KR K μ H (ws ++ [(k, v)]) (ks ++ [(k, d)]) := by
  induction h with
  | nil => exact .cons r .nil
  | cons q _ ih => exact .cons q ih
theorem KR.over {ws : List (Key × V)} {ks : List (Key × DV)} {k : Key} {v : V} {d : DV} (h : KR K μ H ws ks) (r : VR K μ H v d) :
    KR K μ H (ws.map fun z => if z.1 = k then (z.1, v) else z) (ks.map fun z => if z.1 = k then (z.1, d) else z) := by
  induction h with
  | nil => exact .nil
  | @cons k0 v0 d0 ws0 ks0 q _ ih =>
    rw [List.map_cons, List.map_cons]
    by_cases e : k0 = k
    · rw [if_pos e, if_pos e]
      exact .cons r ih
    · rw [if_neg e, if_neg e]
      exact .cons q ih
theorem KR.put {ws : List (Key × V)} {ks : List (Key × DV)} {k : Key} {v : V} {d : DV} (h : KR K μ H ws ks) (r : VR K μ H v d) : KR K μ H (putK ws k v) (putD ks k d) := by
  unfold putK putD
  rw [h.some_in k]
  split
  · exact h.over r
  · exact h.at_end r
theorem KR.fill {ws : List (Key × V)} {ks : List (Key × DV)} (h : KR K μ H ws ks) : ∀ {us : List (Key × V)} {ls : List (Key × DV)}, KR K μ H us ls → KR K μ H (mergeK us ws) (mergeD ls ks) := by
  induction h with
  | nil => exact fun q => q
  | cons r _ ih => exact fun q => ih (q.put r)
theorem KR.find {ws : List (Key × V)} {ks : List (Key × DV)} (h : KR K μ H ws ks) (k : Key) {v : V} {d : DV} (r : VR K μ H v d) : VR K μ H ((valV ws k).getD v) ((getD ks k).getD d) := by
  induction h with
  | nil => exact r
  | @cons k0 v0 d0 ws0 ks0 q _ ih =>
    unfold valV getD at ih ⊢
    rw [List.find?_cons, List.find?_cons]
    by_cases e : k0 = k
    · simp only [e, decide_true]
      exact q
    · simp only [e, decide_false]
      exact ih
theorem key_kV {v : V} {d : DV} {k : Key} (r : VR K μ H v d) (e : key? d = some k) : v = kV k := by
  cases r <;> cases e <;> rfl
theorem length_putD (ks : List (Key × DV)) (k : Key) (d : DV) : (putD ks k d).length ≤ ks.length + 1 := by
  unfold putD
  split
  · rw [List.length_map]; exact Nat.le_succ _
  · rw [List.length_append]; exact Nat.le_refl _
end
end Ip
end PtIpKR
section PtIpExpr
set_option Elab.async false
set_option linter.all false
set_option maxRecDepth 100000
namespace Ip
open PySem PySem.Spec PyProof.Rows L2

/-- what a text means here: the defs, the constants, the classes -/
structure Tb where
  call : Nat → List DV → Store → Res DV
  G : Nat → Option DV
  sub : Nat → Nat → Bool
  cls : Nat → Option Addr

theorem _root_.L2.PE.imp {X : Cx} {e : Expr} {t t' : TE} (h : PE X e t) (f : ∀ σ H Q, t' σ H Q → t σ H Q) : PE X e t' := ⟨fun pins s σ H Q I q => h.run pins s σ H Q I (f σ H Q q)⟩
theorem _root_.L2.PT.imp {X : Cx} {e : Expr} {t t' : TT} (h : PT X e t) (f : ∀ σ H Q, t' σ H Q → t σ H Q) : PT X e t' := ⟨fun pins s σ H Q I q => h.run pins s σ H Q I (f σ H Q q)⟩
theorem _root_.L2.PW.imp {X : Cx} {e : Expr} {t t' : TT} (h : PW X e t) (f : ∀ σ H Q, t' σ H Q → t σ H Q) : PW X e t' := ⟨fun w pins s σ H Q I q => h.run w pins s σ H Q I (f σ H Q q)⟩
theorem _root_.L2.PA.imp {X : Cx} {e : List Expr} {t t' : TA} (h : PA X e t) (f : ∀ σ H Q, t' σ H Q → t σ H Q) : PA X e t' := ⟨fun p pins s σ H Q I q => h.run p pins s σ H Q I (f σ H Q q)⟩
theorem _root_.L2.PS.imp {X : Cx} {st : Stmt} {t t' : TS} (h : PS X st t) (f : ∀ D σ H, t' D σ H → t D σ H) : PS X st t' := ⟨fun pins s σ H D I q => h.run pins s σ H D I (f D σ H q)⟩
theorem _root_.L2.PSs.imp {X : Cx} {st : List Stmt} {t t' : TS} (h : PSs X st t) (f : ∀ D σ H, t' D σ H → t D σ H) : PSs X st t' := ⟨fun pins s σ H D I q => h.run pins s σ H D I (f D σ H q)⟩
theorem _root_.L2.PG.imp {X : Cx} {e : Expr} {t t' : TG} (h : PG X e t) (f : ∀ v σ H Q, t' v σ H Q → t v σ H Q) : PG X e t' := ⟨fun pins s σ H v u Q I r q => h.run pins s σ H v u Q I r (f v σ H Q q)⟩
theorem _root_.L2.PGs.imp {X : Cx} {e : List Expr} {t t' : TGs} (h : PGs X e t) (f : ∀ v σ H Q, t' v σ H Q → t v σ H Q) : PGs X e t' := ⟨fun pins s σ H v u Q I r q => h.run pins s σ H v u Q I r (f v σ H Q q)⟩
theorem _root_.L2.PI.imp {X : Cx} {tg e : Expr} {t t' : TI} (h : PI X tg e t) (f : ∀ σ H R, t' σ H R → t σ H R) : PI X tg e t' := ⟨fun pins s σ H R I q => h.run pins s σ H R I (f σ H R q)⟩
theorem _root_.L2.PO.imp {X : Cx} {e : Option Expr} {t t' : TO} (h : PO X e t) (f : ∀ σ H Q, t' σ H Q → t σ H Q) : PO X e t' := ⟨fun pins s σ H Q I q => h.run pins s σ H Q I (f σ H Q q)⟩

/-! ### readings -/
/-- a run from some state that the slots and the heap stand for -/
def Run {α : Type} (T : Tb) (K : PySem.W.Frag) (ex : Option (Addr × Nat)) (W : WX) (σ : L2.St) (H : Hp) (m : Loc → Store → Res α) (Q : List Addr → Hp → Store → α → Prop) : Prop :=
  ∃ μ r s, Rel K μ H s ∧ LR K ex μ H σ r ∧ Go K μ H (m r s) (fun c H' => ∀ C, T.cls c = some C → W (.ref C) none σ H') Q
def QV (K : PySem.W.Frag) (Q : VK) : List Addr → Hp → Store → DV → Prop := fun μ H _ d => ∀ v, VR K μ H v d → Q v H
def tE (T : Tb) (K : PySem.W.Frag) (ex : Option (Addr × Nat)) (W : WX) (c : CE) : TE := fun σ H Q =>
  ∃ μ r s, Rel K μ H s ∧ LR K ex μ H σ r ∧ Go K μ H (evE T.call T.G T.sub c r s) (fun c H' => ∀ C, T.cls c = some C → W (.ref C) none σ H') (fun μ' H' _ d => ∀ v, VR K μ' H' v d → Q v H')
def tTst (T : Tb) (K : PySem.W.Frag) (ex : Option (Addr × Nat)) (W : WX) (c : CE) : TT := fun σ H Q =>
  ∃ μ r s, Rel K μ H s ∧ LR K ex μ H σ r ∧ Go K μ H ((evE T.call T.G T.sub c r s).bind fun x s => truth x s) (fun c H' => ∀ C, T.cls c = some C → W (.ref C) none σ H') (fun _ H' _ b => Q b H')
def tEs (T : Tb) (K : PySem.W.Frag) (ex : Option (Addr × Nat)) (W : WX) (c : CEs) : TA := fun σ H Q =>
  ∃ μ r s, Rel K μ H s ∧ LR K ex μ H σ r ∧ Go K μ H (evEs T.call T.G T.sub c r s) (fun c H' => ∀ C, T.cls c = some C → W (.ref C) none σ H') (fun μ' H' _ ds => ∀ vs, VRs K μ' H' vs ds → Q vs H')
def tEO (T : Tb) (K : PySem.W.Frag) (ex : Option (Addr × Nat)) (W : WX) (c : CO) : TO := fun σ H Q =>
  ∃ μ r s, Rel K μ H s ∧ LR K ex μ H σ r ∧ Go K μ H (evO T.call T.G T.sub c r s) (fun c H' => ∀ C, T.cls c = some C → W (.ref C) none σ H') (fun _ H' _ o => Q o H')

structure SE (T : Tb) (X : Cx) (ex : Option (Addr × Nat)) (W : WX) (e : Expr) (c : CE) : Prop where
  pe : PE X e (tE T X.K ex W c)
structure ST (T : Tb) (X : Cx) (ex : Option (Addr × Nat)) (W : WX) (e : Expr) (c : CE) : Prop where
  pt : PT X e (tTst T X.K ex W c)
structure SW (T : Tb) (X : Cx) (ex : Option (Addr × Nat)) (W : WX) (e : Expr) (c : CE) : Prop where
  pw : PW X e (tTst T X.K ex W c)
structure SEs (T : Tb) (X : Cx) (ex : Option (Addr × Nat)) (W : WX) (es : List Expr) (c : CEs) : Prop where
  pa : PA X es (tEs T X.K ex W c)
structure SO (T : Tb) (X : Cx) (ex : Option (Addr × Nat)) (W : WX) (e : Option Expr) (c : CO) : Prop where
  po : PO X e (tEO T X.K ex W c)

section
variable {T : Tb} {X : Cx} {ex : Option (Addr × Nat)} {W : WX} {a b c e : Expr} {ca cb cc : CE} {pos : Pos} {es : List Expr} {ces : CEs}

theorem se_slot (i : Nat) {x : Str} {pos : Pos} (hN : X.N[i]? = some x := by rfl) (hv : Vis X.env.scope x := by first | exact Or.inl rfl | exact Or.inr (Or.inl rfl) | exact Or.inr (Or.inr rfl)) (hd : (x == ("__debug__" : Str)) = false := by decide)
    (hcd : (x == ("__classdict__" : Str)) = false := by decide) : SE T X ex W (.Name x pos) (.slot i) := ⟨(pe_var hN hv hd hcd).imp fun σ H Q h => by
  obtain ⟨μ, r, s, R, L, h⟩ := h
  simp only [evE] at h
  cases hr : r[i]? with
  | none => rw [hr] at h; exact h.elim
  | some o =>
    rw [hr] at h
    cases o with
    | none => exact h.elim
    | some d =>
      rcases L.at_ i d hr with ⟨v, h1, h2⟩ | ⟨_, c, h1, _⟩
      · refine ⟨v, h1, ?_⟩
        cases h2 with
        | non => exact h.ok R _ .non
        | bl b => exact h.ok R _ (.bl b)
        | int i => exact h.ok R _ (.int i)
        | str x => exact h.ok R _ (.str x)
        | tup q1 q2 => exact h.ok R _ (.tup q1 q2)
        | ref q => exact h.ok R _ (.ref q)
      · subst h1
        exact h.elim⟩
theorem se_int {i : Int} {j : Nat} {pos : Pos} : SE T X ex W (.Constant (.int i) j pos) (.k (.int i)) := ⟨pe_int.imp fun σ H Q ⟨_, _, _, R, _, h⟩ => h.ok R _ (.int i)⟩
theorem se_bl {i : Bool} {j : Nat} {pos : Pos} : SE T X ex W (.Constant (.bool i) j pos) (.k (.bl i)) := ⟨pe_bl.imp fun σ H Q ⟨_, _, _, R, _, h⟩ => h.ok R _ (.bl i)⟩
theorem se_non {j : Nat} {pos : Pos} : SE T X ex W (.Constant .none j pos) (.k .non) := ⟨pe_non.imp fun σ H Q ⟨_, _, _, R, _, h⟩ => h.ok R _ .non⟩
theorem se_str {x : Str} {j : Nat} {pos : Pos} : SE T X ex W (.Constant (.str x) j pos) (.k (.str x)) := ⟨pe_str.imp fun σ H Q ⟨_, _, _, R, _, h⟩ => h.ok R _ (.str x)⟩

/-! ### operators by values -/
def rB (K : PySem.W.Frag) (op : BOp) : R2 := fun x y H Q => ∃ μ s d e Wn, Rel K μ H s ∧ VR K μ H x d ∧ VR K μ H y e ∧ Go K μ H (binV op d e s) Wn (fun μ' H' _ z => ∀ v, VR K μ' H' v z → Q v H')
def bopOf : BOp → Operator
  | .add => .Add | .sub => .Sub | .mul => .Mult | .fdiv => .FloorDiv | .mod => .Mod | .pow => .Pow | .shl => .LShift | .shr => .RShift
theorem mulOk_use {i j : Int} (h : mulOk i j = true) : CMul i j ∨ CMulW i j := by
  unfold mulOk at h
  rw [Bool.or_eq_true, Bool.or_eq_true] at h
  rcases h with (h | h) | h
  · have h := of_decide_eq_true h
    exact .inl (.inl (by omega))
  · have h := of_decide_eq_true h
    exact .inl (.inr (by omega))
  · exact .inr (show i.natAbs.log2 + j.natAbs.log2 < 1000000 from of_decide_eq_true h)
theorem op_fdivNW : OpR X (binaryOp .FloorDiv) (rI (fun _ j => j ≠ 0 ∧ j.natAbs.log2 < 9000) fun i j => .int (i.fdiv j)) := opI fun _ _ _ _ _ _ _ hc q => floordiv_int hc.1 q (.inl (PyProof.noPylong_of_log2 hc.2))
theorem mulS_use {a : Str} {n : Int} (h : 1 ≤ n ∧ n ≤ 1000 ∧ a.length ≤ 1000) : PySem.MulOk a n := by
  obtain ⟨h1, h2, h3⟩ := h
  have c1 : ¬ n < -(2 ^ 63 : Int) := by omega
  have c2 : ¬ n ≥ 2 ^ 63 := by omega
  refine ⟨?_, fun _ _ hgt => ?_, fun _ _ => ?_⟩
  · rw [decide_eq_false c1, decide_eq_false c2]
    rfl
  · have q : (1000 : Int) ≤ (2 ^ 63 - 1) / n := by
      refine (Int.le_ediv_iff_mul_le (by omega)).mpr ?_
      omega
    have : (a.length : Int) ≤ 1000 := by omega
    omega
  · have q : a.length * n.toNat ≤ 1000 * 1000 := Nat.mul_le_mul h3 (by omega)
    unfold Builtin.Str.tooLong
    simp only [decide_eq_false_iff_not]
    have : (1000 * 1000 : Nat) ≤ sizeLine := by decide
    omega
theorem op_mulS : OpR X (binaryOp .Mult) (fun x y H Q => ∃ a n, x = .str a ∧ y = .int n ∧ (1 ≤ n ∧ n ≤ 1000 ∧ a.length ≤ 1000) ∧ Q (.str (PySem.Txt.mul a n)) H) := by
  intro pins s σ H x y v u Q I rx ry h
  obtain ⟨a, n, rfl, rfl, hm, h⟩ := h
  obtain ⟨t, rfl⟩ := rx
  obtain ⟨t', rfl⟩ := ry
  exact PySem.SB.mul (mulS_use hm) fun t2 k => ⟨.str _, H, I.tok k, ⟨t2, rfl⟩, h⟩
theorem op_sound (op : BOp) : OpR X (binaryOp (bopOf op)) (rB X.K op) := by
  intro pins s σ H x y v u Q I rx ry h
  obtain ⟨μ, s0, d, e, Wn, R, hx, hy, h⟩ := h
  cases hx with
  | int i =>
    cases hy with
    | int j =>
      cases op with
      | add => exact op_add pins s σ H _ _ v u Q I rx ry ⟨i, j, rfl, rfl, h.ok R _ (.int _)⟩
      | sub => exact op_sub pins s σ H _ _ v u Q I rx ry ⟨i, j, rfl, rfl, h.ok R _ (.int _)⟩
      | mul =>
        simp only [binV, binI] at h
        split at h
        · rename_i hm
          rcases mulOk_use hm with hc | hc
          · exact op_mul pins s σ H _ _ v u Q I rx ry ⟨i, j, rfl, rfl, hc, h.ok R _ (.int _)⟩
          · exact op_mulW pins s σ H _ _ v u Q I rx ry ⟨i, j, rfl, rfl, hc, h.ok R _ (.int _)⟩
        · exact h.elim
      | fdiv =>
        simp only [binV, binI] at h
        split at h
        · rename_i hm
          exact op_fdivW pins s σ H _ _ v u Q I rx ry ⟨i, j, rfl, rfl, hm, h.ok R _ (.int _)⟩
        · split at h
          · rename_i hm
            exact op_fdivNW pins s σ H _ _ v u Q I rx ry ⟨i, j, rfl, rfl, ⟨by omega, hm.2⟩, h.ok R _ (.int _)⟩
          · exact h.elim
      | mod =>
        simp only [binV, binI] at h
        split at h
        · rename_i hm
          exact op_mod pins s σ H _ _ v u Q I rx ry ⟨i, j, rfl, rfl, hm, h.ok R _ (.int _)⟩
        · split at h
          · rename_i hm
            exact op_modN pins s σ H _ _ v u Q I rx ry ⟨i, j, rfl, rfl, by omega, h.ok R _ (.int _)⟩
          · exact h.elim
      | pow =>
        simp only [binV, binI] at h
        split at h
        · rename_i hm
          exact op_pow pins s σ H _ _ v u Q I rx ry ⟨i, j, rfl, rfl, hm, h.ok R _ (.int _)⟩
        · exact h.elim
      | shl =>
        simp only [binV, binI] at h
        split at h
        · rename_i hm
          have hs : CShl i j := by
            have e := shl_ok (i := i) (j := j.toNat) (n := 1000) hm.2.2 (by omega)
            rwa [Int.toNat_of_nonneg hm.1] at e
          exact op_shlW pins s σ H _ _ v u Q I rx ry ⟨i, j, rfl, rfl, hs, h.ok R _ (.int _)⟩
        · exact h.elim
      | shr =>
        simp only [binV, binI] at h
        split at h
        · rename_i hm
          exact op_shr pins s σ H _ _ v u Q I rx ry ⟨i, j, rfl, rfl, hm, h.ok R _ (.int _)⟩
        · exact h.elim
    | non => exact h.elim
    | bl _ => exact h.elim
    | str _ => exact h.elim
    | tup _ _ => exact h.elim
    | ref _ => exact h.elim
  | str i =>
    cases hy with
    | str j =>
      cases op with
      | add =>
        simp only [binV] at h
        split at h
        · rename_i hm
          exact op_add_str pins s σ H _ _ v u Q I rx ry ⟨i, j, rfl, rfl, hm, h.ok R _ (.str _)⟩
        · exact h.elim
      | _ => exact h.elim
    | int j =>
      cases op with
      | mul =>
        simp only [binV] at h
        split at h
        · rename_i hm
          exact op_mulS pins s σ H _ _ v u Q I rx ry ⟨i, j, rfl, rfl, hm, h.ok R _ (.str _)⟩
        · exact h.elim
      | _ => exact h.elim
    | non => exact h.elim
    | bl _ => exact h.elim
    | tup _ _ => exact h.elim
    | ref _ => exact h.elim
  | tup h1 h2 =>
    cases hy with
    | tup k1 k2 =>
      cases op with
      | add =>
        simp only [binV] at h
        split at h
        · rename_i hm
          refine or_catZ pins s σ H _ _ v u Q I rx ry ⟨_, _, _, _, rfl, rfl, h1, k1, by rw [h2.length, k2.length]; exact hm, fun e0 => ?_, fun _ e0 => ?_, fun p o hp hd => ?_⟩
          · subst e0
            cases h2
            exact h.ok R _ (.tup k1 k2)
          · subst e0
            cases k2
            refine h.ok R _ (.tup h1 ?_)
            rw [List.append_nil]
            exact h2
          · exact h μ _ (le_upd hp) (R.upd hp) _ (.tup (TupP.of upd_same hd) ((h2.append k2).mono (le_upd hp)))
        · exact h.elim
      | _ => exact h.elim
    | non => exact h.elim
    | bl _ => exact h.elim
    | int _ => exact h.elim
    | str _ => exact h.elim
    | ref _ => exact h.elim
  | non => cases hy <;> exact h.elim
  | bl _ => cases hy <;> exact h.elim
  | ref h1 =>
    cases hy with
    | ref h2 =>
      cases op with
      | add =>
        simp only [binV] at h
        split at h
        · rename_i xs ys hx hy
          split at h
          · rename_i hz
            obtain ⟨vs, c1, c2, _⟩ := R.at_ _ _ _ h1 hx
            obtain ⟨ws, k1, k2, _⟩ := R.at_ _ _ _ h2 hy
            refine op_cat pins s σ H _ _ v u Q I rx ry ⟨_, _, vs, ws, rfl, rfl, c1, k1, by rw [c2.length, k2.length]; exact hz, fun p hp => ?_⟩
            refine h (μ ++ [p]) _ (le_new hp) (R.new hp (c2.append k2) (by rw [List.length_append]; exact hz)) _ (.ref ?_)
            rw [← R.len]
            exact get_app_n
          · exact h.elim
        · exact h.elim
      | _ => exact h.elim
    | _ => exact h.elim
theorem se_bin (op : BOp) (ha : SE T X ex W a ca) (hb : SE T X ex W b cb) : SE T X ex W (.BinOp a (bopOf op) b pos) (.bin op ca cb) := ⟨(pe_op (op_sound op) ha.pe hb.pe).imp fun σ H Q h => by
  obtain ⟨μ, r, s, R, L, h⟩ := h
  refine ⟨μ, r, s, R, L, h.bind.map fun μ1 H1 s1 x le1 R1 h1 v1 hv1 => ?_⟩
  exact ⟨μ1, r, s1, R1, L.mono le1, h1.bind.map fun μ2 H2 s2 y le2 R2 h2 v2 hv2 => ⟨μ2, s2, x, y, _, R2, hv1.mono le2, hv2, h2⟩⟩⟩
theorem se_neg (ha : SE T X ex W a ca) : SE T X ex W (.UnaryOp .USub a pos) (.neg ca) := ⟨(pe_un un_neg ha.pe).imp fun σ H Q h => by
  obtain ⟨μ, r, s, R, L, h⟩ := h
  refine ⟨μ, r, s, R, L, h.bind.map fun μ1 H1 s1 x le1 R1 h1 v1 hv1 => ?_⟩
  cases hv1 with
  | int i => exact ⟨i, rfl, h1.ok R1 _ (.int _)⟩
  | _ => exact h1.elim⟩

/-! ### truth -/
theorem truth_sound {K : PySem.W.Frag} {μ : List Addr} {H : Hp} {s s' : Store} {v : V} {d : DV} {b : Bool} (R : Rel K μ H s) (h : VR K μ H v d) (e : truth d s = .ok b s') : s' = s ∧ TruV K v H b := by
  cases h with
  | non => cases e; exact ⟨rfl, rfl⟩
  | bl _ => cases e; exact ⟨rfl, rfl⟩
  | int _ => cases e; exact ⟨rfl, rfl⟩
  | str y =>
    simp only [truth] at e
    split at e
    · rename_i hz
      cases e
      exact ⟨rfl, hz, rfl⟩
    · cases e
  | tup h1 h2 =>
    cases e
    exact ⟨rfl, .inr (.inl ⟨_, h1.sq, by rw [h2.isEmpty]⟩)⟩
  | ref hm =>
    simp only [truth] at e
    split at e
    · rename_i xs hc
      cases e
      obtain ⟨vs, q1, q2⟩ := R.cellL hm hc
      exact ⟨rfl, .inl ⟨vs, q1, by rw [q2.isEmpty]⟩⟩
    · cases e
theorem truth_noexc {d : DV} {s s' : Store} {c : Nat} : truth d s ≠ .exc c s' := by
  cases d <;> simp only [truth] <;> (try split) <;> intro h <;> cases h
theorem Go.truth {K : PySem.W.Frag} {μ : List Addr} {H : Hp} {s : Store} {v : V} {d : DV} {Wn : Nat → Hp → Prop} {Q : List Addr → Hp → Store → Bool → Prop} (h : Go K μ H (truth d s) Wn Q) (R : Rel K μ H s) (hv : VR K μ H v d) :
    ∃ k, TruV K v H k ∧ Q μ H s k := by
  cases e : Ip.truth d s with
  | ok b s' =>
    rw [e] at h
    obtain ⟨rfl, t⟩ := truth_sound R hv e
    exact ⟨b, t, h.ok R⟩
  | exc c s' => exact absurd e truth_noexc
  | stuck => rw [e] at h; exact h.elim
theorem st_val (ha : SE T X ex W a ca) (he : ∀ whole, isTrue a X.env whole = (do let v ← whole; standAt a.pos; holding [v] (truthy v)) := by intro _; rfl) : ST T X ex W a ca := ⟨(pt_truth ha.pe he).imp fun σ H Q h => by
  obtain ⟨μ, r, s, R, L, h⟩ := h
  exact ⟨μ, r, s, R, L, h.bind.map fun μ1 H1 s1 x le1 R1 h1 v1 hv1 => h1.truth R1 hv1⟩⟩
theorem Go.ite {α : Type} {K : PySem.W.Frag} {μ : List Addr} {H : Hp} {c : Bool} {m n : Res α} {Wn : Nat → Hp → Prop} {Q : List Addr → Hp → Store → α → Prop} (h : Go K μ H (cond c m n) Wn Q) : if c = true then Go K μ H m Wn Q else Go K μ H n Wn Q := by
  cases c <;> exact h
theorem st_not (ha : ST T X ex W a ca) : ST T X ex W (.UnaryOp .Not a pos) (.not ca) := ⟨(pt_not ha.pt).imp fun σ H Q h => by
  obtain ⟨μ, r, s, R, L, h⟩ := h
  refine ⟨μ, r, s, R, L, ?_⟩
  simp only [evE] at h
  cases hm : evE T.call T.G T.sub ca r s with
  | ok x s1 =>
    rw [hm] at h
    show Go X.K μ H (Ip.truth x s1) _ _
    have h : Go X.K μ H (((Ip.truth x s1).bind fun b s => Res.ok (DV.bl (!b)) s).bind fun x s => Ip.truth x s) _ _ := h
    cases ht : Ip.truth x s1 with
    | ok k s2 => rw [ht] at h; exact h
    | exc c s2 => exact absurd ht truth_noexc
    | stuck => rw [ht] at h; exact h.elim
  | exc c s1 => rw [hm] at h; exact h
  | stuck => rw [hm] at h; exact h.elim⟩
/-! ### comparisons -/
mutual
theorem VR.dp {K : PySem.W.Frag} {μ : List Addr} {H : Hp} : ∀ {v : V} {d : DV}, VR K μ H v d → pure? d = true → Dp K H v (pd d)
  | _, _, .non, _ => .non
  | _, _, .bl b, _ => .bl b
  | _, _, .int i, _ => .int i
  | _, _, .str x, _ => .str x
  | _, _, .tup h hs, p => .tup h.sq (VRs.dp hs p)
  | _, _, .ref _, p => by cases p
theorem VRs.dp {K : PySem.W.Frag} {μ : List Addr} {H : Hp} : ∀ {vs : List V} {ds : List DV}, VRs K μ H vs ds → pures? ds = true → DpAll K H vs (pds ds)
  | _, _, .nil, _ => .nil
  | _, _, .cons h hs, p => by
    rw [pures?, Bool.and_eq_true] at p
    exact .cons (VR.dp h p.1) (VRs.dp hs p.2)
end
theorem VRs.ints {K : PySem.W.Frag} {μ : List Addr} {H : Hp} : ∀ {vs : List V} {ds : List DV} {is : List Int}, VRs K μ H vs ds → ints? ds = some is → vs = is.map V.int
  | _, _, _, .nil, e => by cases e; rfl
  | _, _, is, .cons h hs, e => by
    cases h with
    | int i =>
      simp only [ints?] at e
      split at e
      · rename_i js hj
        cases e
        rw [VRs.ints hs hj]
        rfl
      · cases e
    | _ => cases e
theorem VRs.strs {K : PySem.W.Frag} {μ : List Addr} {H : Hp} : ∀ {vs : List V} {ds : List DV} {is : List Str}, VRs K μ H vs ds → strs? ds = some is → vs = is.map V.str
  | _, _, _, .nil, e => by cases e; rfl
  | _, _, is, .cons h hs, e => by
    cases h with
    | str i =>
      simp only [strs?] at e
      split at e
      · rename_i js hj
        cases e
        rw [VRs.strs hs hj]
        rfl
      · cases e
    | _ => cases e
theorem flat_strsD : ∀ zs : List Str, (zs.map V.str).all flatV = true
  | [] => rfl
  | z :: zs => by
    rw [List.map_cons, List.all_cons, flat_strsD zs]
    rfl
theorem flat_intsD : ∀ zs : List Int, (zs.map V.int).all flatV = true
  | [] => rfl
  | z :: zs => by
    rw [List.map_cons, List.all_cons, flat_intsD zs]
    rfl
def copOf : COp → CmpOp
  | .eq => .Eq | .ne => .NotEq | .lt => .Lt | .le => .LtE | .gt => .Gt | .ge => .GtE | .is => .Is | .isNot => .IsNot | .in => .In | .notIn => .NotIn
def rC (K : PySem.W.Frag) (op : COp) : R2 := fun x y H Q => ∃ μ s d e Wn, Rel K μ H s ∧ VR K μ H x d ∧ VR K μ H y e ∧ Go K μ H (cmpV op d e s) Wn (fun _ H' _ b => Q (.bl b) H')
theorem str1 {a : Str} (h : a.length = 1) : a = ⟨#[a.cps.getD 0 0]⟩ := by
  obtain ⟨⟨l⟩⟩ := a
  match l, h with
  | [c], _ => rfl
theorem cop_sound (hu : X.A.units + 64 < cLine) (op : COp) : OpR X (compareOp (copOf op)) (rC X.K op) := by
  intro pins s σ H x y v u Q I rx ry h
  obtain ⟨μ, s0, d, e, Wn, R, hx, hy, h⟩ := h
  cases op with
  | eq =>
    simp only [cmpV] at h
    split at h
    · rename_i hc
      unfold cmpable at hc
      rw [Bool.and_eq_true, Bool.and_eq_true, Bool.and_eq_true] at hc
      exact op_eqD hu pins s σ H _ _ v u Q I rx ry ⟨_, _, hx.dp hc.1.1, hy.dp hc.2.1, hc.1.2, hc.2.2, h.ok R⟩
    · exact h.elim
  | ne =>
    simp only [cmpV] at h
    split at h
    · rename_i hc
      unfold cmpable at hc
      rw [Bool.and_eq_true, Bool.and_eq_true, Bool.and_eq_true] at hc
      exact op_neD hu pins s σ H _ _ v u Q I rx ry ⟨_, _, hx.dp hc.1.1, hy.dp hc.2.1, hc.1.2, hc.2.2, h.ok R⟩
    · exact h.elim
  | lt =>
    cases hx with
    | int i =>
      cases hy with
      | int j => exact op_lt pins s σ H _ _ v u Q I rx ry ⟨i, j, rfl, rfl, h.ok R⟩
      | _ => exact h.elim
    | str i =>
      cases hy with
      | str j => exact op_lt_str pins s σ H _ _ v u Q I rx ry ⟨i, j, rfl, rfl, h.ok R⟩
      | _ => exact h.elim
    | tup h1 h2 =>
      cases hy with
      | tup k1 k2 =>
        simp only [cmpV] at h
        split at h
        · rename_i is js hi hj
          have e1 := h2.ints hi
          have e2 := k2.ints hj
          subst e1
          subst e2
          exact op_ltT (Nat.lt_of_le_of_lt (Nat.le_add_right _ _) hu) pins s σ H _ _ v u Q I rx ry ⟨_, _, is, js, rfl, rfl, h1.sq, k1.sq, h.ok R⟩
        · exact h.elim
      | _ => exact h.elim
    | _ => exact h.elim
  | le =>
    cases hx with
    | int i =>
      cases hy with
      | int j => exact op_le pins s σ H _ _ v u Q I rx ry ⟨i, j, rfl, rfl, h.ok R⟩
      | _ => exact h.elim
    | _ => exact h.elim
  | gt =>
    cases hx with
    | int i =>
      cases hy with
      | int j => exact op_gt pins s σ H _ _ v u Q I rx ry ⟨i, j, rfl, rfl, h.ok R⟩
      | _ => exact h.elim
    | _ => exact h.elim
  | ge =>
    cases hx with
    | int i =>
      cases hy with
      | int j => exact op_ge pins s σ H _ _ v u Q I rx ry ⟨i, j, rfl, rfl, h.ok R⟩
      | _ => exact h.elim
    | _ => exact h.elim
  | is =>
    cases hx with
    | non =>
      cases hy with
      | non => exact op_isN pins s σ H _ _ v u Q I rx ry ⟨rfl, h.ok R⟩
      | _ => exact h.elim
    | bl _ => cases hy with
      | non => exact op_isN pins s σ H _ _ v u Q I rx ry ⟨rfl, h.ok R⟩
      | _ => exact h.elim
    | int _ => cases hy with
      | non => exact op_isN pins s σ H _ _ v u Q I rx ry ⟨rfl, h.ok R⟩
      | _ => exact h.elim
    | str _ => cases hy with
      | non => exact op_isN pins s σ H _ _ v u Q I rx ry ⟨rfl, h.ok R⟩
      | _ => exact h.elim
    | tup _ _ => cases hy with
      | non => exact op_isN pins s σ H _ _ v u Q I rx ry ⟨rfl, h.ok R⟩
      | _ => exact h.elim
    | ref _ => cases hy with
      | non => exact op_isN pins s σ H _ _ v u Q I rx ry ⟨rfl, h.ok R⟩
      | _ => exact h.elim
  | isNot =>
    cases hx with
    | non =>
      cases hy with
      | non => exact op_notN pins s σ H _ _ v u Q I rx ry ⟨rfl, h.ok R⟩
      | _ => exact h.elim
    | bl _ => cases hy with
      | non => exact op_notN pins s σ H _ _ v u Q I rx ry ⟨rfl, h.ok R⟩
      | _ => exact h.elim
    | int _ => cases hy with
      | non => exact op_notN pins s σ H _ _ v u Q I rx ry ⟨rfl, h.ok R⟩
      | _ => exact h.elim
    | str _ => cases hy with
      | non => exact op_notN pins s σ H _ _ v u Q I rx ry ⟨rfl, h.ok R⟩
      | _ => exact h.elim
    | tup _ _ => cases hy with
      | non => exact op_notN pins s σ H _ _ v u Q I rx ry ⟨rfl, h.ok R⟩
      | _ => exact h.elim
    | ref _ => cases hy with
      | non => exact op_notN pins s σ H _ _ v u Q I rx ry ⟨rfl, h.ok R⟩
      | _ => exact h.elim
  | «in» =>
    cases hx with
    | str i =>
      cases hy with
      | str j =>
        simp only [cmpV] at h
        split at h
        · rename_i h1
          refine op_in_sign pins s σ H _ _ v u Q I rx ry ⟨_, j, ?_, rfl, h.ok R⟩
          rw [← str1 h1]
        · exact h.elim
      | tup k1 k2 =>
        simp only [cmpV] at h
        cases hz : strs? _ with
        | none => rw [hz] at h; exact h.elim
        | some zs =>
          rw [hz] at h
          have e1 := k2.strs hz
          subst e1
          refine op_in_seq pins s σ H _ _ v u Q I rx ry ⟨_, _, rfl, .inr k1.sq, rfl, flat_strsD zs, ?_⟩
          have e2 : inV (.str i) (zs.map V.str) = zs.any fun z => decide (z = i) := by
            unfold inV
            rw [List.any_map]
            refine congrArg (fun f => zs.any f) (funext fun z => ?_)
            show (z == i) = _
            by_cases q : z = i
            · subst q; simp
            · simp [q]
          simp only [Bool.false_eq_true, if_false]
          rw [e2]
          exact h.ok R
      | _ => exact h.elim
    | int i =>
      cases hy with
      | tup k1 k2 =>
        simp only [cmpV] at h
        cases hz : ints? _ with
        | none => rw [hz] at h; exact h.elim
        | some zs =>
          rw [hz] at h
          have e1 := k2.ints hz
          subst e1
          refine op_in_seq pins s σ H _ _ v u Q I rx ry ⟨_, _, rfl, .inr k1.sq, rfl, flat_intsD zs, ?_⟩
          have e2 : inV (.int i) (zs.map V.int) = zs.any fun z => decide (z = i) := by
            unfold inV
            rw [List.any_map]
            refine congrArg (fun f => zs.any f) (funext fun z => ?_)
            show (z == i) = _
            by_cases q : z = i
            · subst q; simp
            · simp [q]
          simp only [Bool.false_eq_true, if_false]
          rw [e2]
          exact h.ok R
      | _ => exact h.elim
    | _ => cases hy <;> exact h.elim
  | notIn =>
    cases hx with
    | str i =>
      cases hy with
      | str j =>
        simp only [cmpV] at h
        split at h
        · rename_i h1
          refine op_notIn_sign pins s σ H _ _ v u Q I rx ry ⟨_, j, ?_, rfl, h.ok R⟩
          rw [← str1 h1]
        · exact h.elim
      | _ => exact h.elim
    | _ => exact h.elim
theorem cmp_step {op : COp} {σ : L2.St} {H : Hp} {Q : VK} (h : tE T X.K ex W (.cmp op ca cb) σ H Q) : tOp (rC X.K op) (tE T X.K ex W ca) (tE T X.K ex W cb) σ H Q := by
  obtain ⟨μ, r, s, R, L, h⟩ := h
  refine ⟨μ, r, s, R, L, h.bind.map fun μ1 H1 s1 x le1 R1 h1 v1 hv1 => ?_⟩
  exact ⟨μ1, r, s1, R1, L.mono le1, h1.bind.map fun μ2 H2 s2 y le2 R2 h2 v2 hv2 => ⟨μ2, s2, x, y, _, R2, hv1.mono le2, hv2, h2.bind.map fun μ3 H3 s3 b le3 R3 h3 => h3.ok R3 _ (.bl b)⟩⟩
theorem se_cmp (hu : X.A.units + 64 < cLine) (op : COp) (ha : SE T X ex W a ca) (hb : SE T X ex W b cb) (hm : behindInMarks (copOf op) b = false := by first | exact nomark _ | rfl) : SE T X ex W (.Compare a [copOf op] [b] pos) (.cmp op ca cb) :=
  ⟨(pe_cmpR (cop_sound hu op) ha.pe hb.pe hm).imp fun σ H Q h => cmp_step h⟩
theorem st_cmp (hu : X.A.units + 64 < cLine) (op : COp) (ha : SE T X ex W a ca) (hb : SE T X ex W b cb) (hm : behindInMarks (copOf op) b = false := by first | exact nomark _ | rfl) : ST T X ex W (.Compare a [copOf op] [b] pos) (.cmp op ca cb) :=
  ⟨(pt_cmpR (cop_sound hu op) ha.pe hb.pe hm).imp fun σ H Q h => by
    obtain ⟨μ, r, s, R, L, h⟩ := h
    refine cmp_step (Q := fun x H' => ∃ k, x = .bl k ∧ Q k H') ⟨μ, r, s, R, L, ?_⟩
    simp only [evE] at h ⊢
    cases hm : evE T.call T.G T.sub ca r s with
    | ok x s1 =>
      rw [hm] at h
      simp only [Res.bind] at h ⊢
      cases hm2 : evE T.call T.G T.sub cb r s1 with
      | ok y s2 =>
        rw [hm2] at h
        simp only at h ⊢
        cases hm3 : cmpV op x y s2 with
        | ok k s3 =>
          rw [hm3] at h
          exact fun μ' H' le R' v hv => by
            cases hv
            exact ⟨k, rfl, h μ' H' le R'⟩
        | exc c s3 => rw [hm3] at h; exact h
        | stuck => rw [hm3] at h; exact h
      | exc c s2 => rw [hm2] at h; exact h
      | stuck => rw [hm2] at h; exact h
    | exc c s1 => rw [hm] at h; exact h
    | stuck => rw [hm] at h; exact h⟩
end
end Ip
end PtIpExpr
section PtIpExpr2
set_option Elab.async false
set_option linter.all false
set_option maxRecDepth 100000
namespace Ip
open PySem PySem.Spec PyProof.Rows L2

theorem Res.bind_assoc {α β γ : Type} (m : Res α) (f : α → Store → Res β) (g : β → Store → Res γ) : (m.bind f).bind g = m.bind fun x s => (f x s).bind g := by
  cases m <;> rfl
theorem truth_store {d : DV} {s s' : Store} {b : Bool} (e : truth d s = .ok b s') : s' = s := by
  cases d <;> simp only [truth] at e <;> (try split at e) <;> cases e <;> rfl

section
variable {T : Tb} {X : Cx} {ex : Option (Addr × Nat)} {W : WX} {a b c e : Expr} {ca cb cc : CE} {pos : Pos} {es rest : List Expr} {ces : CEs}

/-! ### and, or, a choice -/
theorem se_notV (ha : SE T X ex W a ca) : SE T X ex W (.UnaryOp .Not a pos) (.not ca) := ⟨(pe_notT ha.pe).imp fun σ H Q h => by
  obtain ⟨μ, r, s, R, L, h⟩ := h
  refine ⟨μ, r, s, R, L, h.bind.map fun μ1 H1 s1 x le1 R1 h1 v1 hv1 => ?_⟩
  obtain ⟨k, hk, q⟩ := h1.bind.truth R1 hv1
  exact ⟨k, hk, q.ok R1 _ (.bl _)⟩⟩
theorem se_one {op : BoolOp} (ha : SE T X ex W a ca) : SE T X ex W (.BoolOp op [a] pos) ca := ⟨pe_one ha.pe⟩
theorem se_and (ha : SE T X ex W a ca) (hb : SE T X ex W (.BoolOp .And (b :: rest) pos) cb) : SE T X ex W (.BoolOp .And (a :: b :: rest) pos) (.and ca cb) := ⟨(pe_andT ha.pe hb.pe).imp fun σ H Q h => by
  obtain ⟨μ, r, s, R, L, h⟩ := h
  refine ⟨μ, r, s, R, L, h.bind.map fun μ1 H1 s1 x le1 R1 h1 v1 hv1 => ?_⟩
  obtain ⟨k, hk, q⟩ := h1.bind.truth R1 hv1
  refine ⟨k, hk, ?_⟩
  cases k with
  | true => exact ⟨μ1, r, s1, R1, L.mono le1, q⟩
  | false => exact q.ok R1 v1 hv1⟩
theorem se_or (ha : SE T X ex W a ca) (hb : SE T X ex W (.BoolOp .Or (b :: rest) pos) cb) : SE T X ex W (.BoolOp .Or (a :: b :: rest) pos) (.or ca cb) := ⟨(pe_orT ha.pe hb.pe).imp fun σ H Q h => by
  obtain ⟨μ, r, s, R, L, h⟩ := h
  refine ⟨μ, r, s, R, L, h.bind.map fun μ1 H1 s1 x le1 R1 h1 v1 hv1 => ?_⟩
  obtain ⟨k, hk, q⟩ := h1.bind.truth R1 hv1
  refine ⟨k, hk, ?_⟩
  cases k with
  | true => exact q.ok R1 v1 hv1
  | false => exact ⟨μ1, r, s1, R1, L.mono le1, q⟩⟩
theorem sw_one_and (ha : ST T X ex W a ca) : SW T X ex W (.BoolOp .And [a] pos) ca := ⟨pw_and1 ha.pt⟩
theorem sw_one_or (ha : ST T X ex W a ca) : SW T X ex W (.BoolOp .Or [a] pos) ca := ⟨pw_or1 ha.pt⟩
theorem st_w (h : SW T X ex W e ca) : ST T X ex W e ca := ⟨h.pw.pt⟩
theorem sw_and (ha : ST T X ex W a ca) (hb : SW T X ex W (.BoolOp .And (b :: rest) pos) cb) : SW T X ex W (.BoolOp .And (a :: b :: rest) pos) (.and ca cb) := ⟨(pw_and ha.pt hb.pw).imp fun σ H Q h => by
  obtain ⟨μ, r, s, R, L, h⟩ := h
  refine ⟨μ, r, s, R, L, ?_⟩
  simp only [evE] at h
  cases hm : evE T.call T.G T.sub ca r s with
  | ok x s1 =>
    rw [hm] at h
    simp only [Res.bind] at h ⊢
    cases ht : truth x s1 with
    | ok k s2 =>
      rw [ht] at h
      cases k with
      | true => exact fun μ' H' le R' => ⟨μ', r, s2, R', L.mono le, h.later le⟩
      | false =>
        have e2 := truth_store ht
        subst e2
        simp only [cond] at h
        rw [ht] at h
        exact h
    | exc c s2 => exact absurd ht truth_noexc
    | stuck => rw [ht] at h; exact h.elim
  | exc c s1 => rw [hm] at h; exact h
  | stuck => rw [hm] at h; exact h.elim⟩
theorem sw_or (ha : ST T X ex W a ca) (hb : SW T X ex W (.BoolOp .Or (b :: rest) pos) cb) : SW T X ex W (.BoolOp .Or (a :: b :: rest) pos) (.or ca cb) := ⟨(pw_or ha.pt hb.pw).imp fun σ H Q h => by
  obtain ⟨μ, r, s, R, L, h⟩ := h
  refine ⟨μ, r, s, R, L, ?_⟩
  simp only [evE] at h
  cases hm : evE T.call T.G T.sub ca r s with
  | ok x s1 =>
    rw [hm] at h
    simp only [Res.bind] at h ⊢
    cases ht : truth x s1 with
    | ok k s2 =>
      rw [ht] at h
      cases k with
      | true =>
        have e2 := truth_store ht
        subst e2
        simp only [cond] at h
        rw [ht] at h
        exact h
      | false => exact fun μ' H' le R' => ⟨μ', r, s2, R', L.mono le, h.later le⟩
    | exc c s2 => exact absurd ht truth_noexc
    | stuck => rw [ht] at h; exact h.elim
  | exc c s1 => rw [hm] at h; exact h
  | stuck => rw [hm] at h; exact h.elim⟩
theorem se_ife (hc : ST T X ex W c cc) (ha : SE T X ex W a ca) (hb : SE T X ex W b cb) : SE T X ex W (.IfExp c a b pos) (.ife cc ca cb) := ⟨(pe_ifExp hc.pt ha.pe hb.pe).imp fun σ H Q h => by
  obtain ⟨μ, r, s, R, L, h⟩ := h
  simp only [evE] at h
  rw [← Res.bind_assoc] at h
  refine ⟨μ, r, s, R, L, h.bind.map fun μ1 H1 s1 k le1 R1 h1 => ?_⟩
  cases k with
  | true => exact ⟨μ1, r, s1, R1, L.mono le1, h1⟩
  | false => exact ⟨μ1, r, s1, R1, L.mono le1, h1⟩⟩
theorem chain_step {op op2 : COp} {σ : L2.St} {H : Hp} {Q : VK} (h : tE T X.K ex W (.chain op op2 ca cb cc) σ H Q) : tChain (rC X.K op) (rC X.K op2) (tE T X.K ex W ca) (tE T X.K ex W cb) (tE T X.K ex W cc) σ H Q := by
  obtain ⟨μ, r, s, R, L, h⟩ := h
  refine ⟨μ, r, s, R, L, h.bind.map fun μ1 H1 s1 x le1 R1 h1 v1 hv1 => ?_⟩
  refine ⟨μ1, r, s1, R1, L.mono le1, h1.bind.map fun μ2 H2 s2 y le2 R2 h2 v2 hv2 => ?_⟩
  refine ⟨μ2, s2, x, y, _, R2, hv1.mono le2, hv2, h2.bind.map fun μ3 H3 s3 k le3 R3 h3 => ⟨k, rfl, ?_⟩⟩
  cases k with
  | true =>
    refine ⟨μ3, r, s3, R3, (L.mono le1).mono (le2.trans le3), Go.map (Go.bind h3) fun μ4 H4 s4 z le4 R4 h4 v4 hv4 => ?_⟩
    exact ⟨μ4, s4, y, z, _, R4, hv2.mono (le3.trans le4), hv4, h4.bind.map fun μ5 H5 s5 k le5 R5 h5 => h5.ok R5 _ (.bl k)⟩
  | false => exact Go.ok h3 R3 _ (.bl false)
theorem se_chain (hu : X.A.units + 64 < cLine) (op op2 : COp) (ha : SE T X ex W a ca) (hb : SE T X ex W b cb) (hc : SE T X ex W c cc) (hm : lastMarks [copOf op, copOf op2] [b, c] = false := by with_unfolding_all rfl) :
    SE T X ex W (.Compare a [copOf op, copOf op2] [b, c] pos) (.chain op op2 ca cb cc) := ⟨(pe_chain (cop_sound hu op) (cop_sound hu op2) ha.pe hb.pe hc.pe hm).imp fun σ H Q h => chain_step h⟩
/-- a test that is always a bool -/
def Bl (T : Tb) (c : CE) : Prop := ∀ r s x s', evE T.call T.G T.sub c r s = .ok x s' → ∃ k, x = .bl k
theorem tst_tE {σ : L2.St} {H : Hp} {Q : Bool → Hp → Prop} (hb : Bl T ca) (h : tTst T X.K ex W ca σ H Q) : tE T X.K ex W ca σ H (fun x H' => ∃ k, x = .bl k ∧ Q k H') := by
  obtain ⟨μ, r, s, R, L, h⟩ := h
  refine ⟨μ, r, s, R, L, ?_⟩
  cases hm : evE T.call T.G T.sub ca r s with
  | ok x s1 =>
    rw [hm] at h
    obtain ⟨k, rfl⟩ := hb _ _ _ _ hm
    exact fun μ' H' le R' v hv => by
      cases hv
      exact ⟨k, rfl, h μ' H' le R'⟩
  | exc c s1 => rw [hm] at h; exact h
  | stuck => rw [hm] at h; exact h
theorem bl_chain {op op2 : COp} : Bl T (.chain op op2 ca cb cc) := by
  intro r s x s' h
  simp only [evE] at h
  cases h1 : evE T.call T.G T.sub ca r s with
  | ok x1 s1 =>
    rw [h1] at h
    simp only [Res.bind] at h
    cases h2 : evE T.call T.G T.sub cb r s1 with
    | ok x2 s2 =>
      rw [h2] at h
      simp only at h
      cases h3 : cmpV op x1 x2 s2 with
      | ok k s3 =>
        rw [h3] at h
        simp only at h
        cases k with
        | true =>
          simp only [cond] at h
          cases h4 : evE T.call T.G T.sub cc r s3 with
          | ok x4 s4 =>
            rw [h4] at h
            simp only at h
            cases h5 : cmpV op2 x2 x4 s4 with
            | ok k5 s5 => rw [h5] at h; cases h; exact ⟨_, rfl⟩
            | exc c s5 => rw [h5] at h; cases h
            | stuck => rw [h5] at h; cases h
          | exc c s4 => rw [h4] at h; cases h
          | stuck => rw [h4] at h; cases h
        | false => simp only [cond] at h; cases h; exact ⟨_, rfl⟩
      | exc c s3 => rw [h3] at h; cases h
      | stuck => rw [h3] at h; cases h
    | exc c s2 => rw [h2] at h; cases h
    | stuck => rw [h2] at h; cases h
  | exc c s1 => rw [h1] at h; cases h
  | stuck => rw [h1] at h; cases h
theorem st_chain (hu : X.A.units + 64 < cLine) (op op2 : COp) (ha : SE T X ex W a ca) (hb : SE T X ex W b cb) (hc : SE T X ex W c cc) (hm : lastMarks [copOf op, copOf op2] [b, c] = false := by with_unfolding_all rfl) :
    ST T X ex W (.Compare a [copOf op, copOf op2] [b, c] pos) (.chain op op2 ca cb cc) := ⟨(pt_chain (cop_sound hu op) (cop_sound hu op2) ha.pe hb.pe hc.pe hm).imp fun σ H Q h => chain_step (tst_tE bl_chain h)⟩

/-! ### subscripts and slices -/
theorem atI_vr {K : PySem.W.Frag} {μ : List Addr} {H : Hp} {vs : List V} {ds : List DV} {i : Int} {d : DV} (h : VRs K μ H vs ds) (e : L2.atI ds i = some d) : ∃ v, L2.atI vs i = some v ∧ VR K μ H v d := by
  unfold L2.atI at e ⊢
  rw [h.length]
  cases hp : L2.ixN ds.length i with
  | none => rw [hp] at e; cases e
  | some j =>
    rw [hp] at e
    exact h.get e
def rI' (K : PySem.W.Frag) : R2 := fun x y H Q => ∃ μ s d e Wn, Rel K μ H s ∧ VR K μ H x d ∧ VR K μ H y e ∧ Go K μ H (itemV d e s) Wn (fun μ' H' _ z => ∀ v, VR K μ' H' v z → Q v H')
theorem ix_sound : IxR X (rI' X.K) := by
  intro val sl pins s σ H x y v u Q I rx ry h hsub
  obtain ⟨μ, s0, d, e, Wn, R, hx, hy, h⟩ := h
  cases hx with
  | tup h1 h2 =>
    cases hy with
    | int i =>
      simp only [itemV] at h
      cases hz : L2.atI _ i with
      | some z =>
        rw [hz] at h
        obtain ⟨w, q1, q2⟩ := atI_vr h2 hz
        exact ix_tup val sl pins s σ H _ _ v u Q I rx ry ⟨_, _, i, w, rfl, rfl, h1.sq, q1, h.ok R w q2⟩ hsub
      | none => rw [hz] at h; exact h.elim
    | _ => exact h.elim
  | ref hm =>
    cases hy with
    | int i =>
      simp only [itemV] at h
      cases hc : cellL s0 _ with
      | none => rw [hc] at h; exact h.elim
      | some xs =>
        rw [hc] at h
        simp only [optR] at h
        cases hz : L2.atI xs i with
        | some z =>
          rw [hz] at h
          obtain ⟨vs, c1, c2⟩ := R.cellL hm hc
          obtain ⟨w, q1, q2⟩ := atI_vr c2 hz
          exact ix_list val sl pins s σ H _ _ v u Q I rx ry ⟨_, _, i, w, rfl, rfl, c1, q1, h.ok R w q2⟩ hsub
        | none => rw [hz] at h; exact h.elim
    | _ => exact h.elim
  | str z =>
    cases hy with
    | int i =>
      simp only [itemV] at h
      split at h
      · rename_i hz
        split at h
        · rename_i c hc
          exact ix_str val sl pins s σ H _ _ v u Q I rx ry ⟨z, i, c, rfl, rfl, hz, hc, h.ok R _ (.str _)⟩ hsub
        · exact h.elim
      · exact h.elim
    | _ => exact h.elim
  | non => exact h.elim
  | bl _ => exact h.elim
  | int _ => exact h.elim
theorem se_ix (ha : SE T X ex W a ca) (hb : SE T X ex W b cb) (hs : PlainIx b := by exact fun _ _ => rfl) : SE T X ex W (.Subscript a b pos) (.ix ca cb) := ⟨(pe_ix ix_sound ha.pe hb.pe hs).imp fun σ H Q h => by
  obtain ⟨μ, r, s, R, L, h⟩ := h
  refine ⟨μ, r, s, R, L, h.bind.map fun μ1 H1 s1 x le1 R1 h1 v1 hv1 => ?_⟩
  exact ⟨μ1, r, s1, R1, L.mono le1, h1.bind.map fun μ2 H2 s2 y le2 R2 h2 v2 hv2 => ⟨μ2, s2, x, y, _, R2, hv1.mono le2, hv2, h2⟩⟩⟩
theorem cut_vr {K : PySem.W.Frag} {μ : List Addr} {H : Hp} {vs : List V} {ds : List DV} {lo hi : Option Int} (h : VRs K μ H vs ds) : VRs K μ H (cutV vs lo hi) (cut ds lo hi) := by
  unfold cutV cut
  rw [h.length]
  exact (h.drop _).take _
theorem cut_le {α : Type} (xs : List α) (lo hi : Option Int) : (cut xs lo hi).length ≤ xs.length := by
  unfold cut
  rw [List.length_take, List.length_drop]
  omega
theorem cut_all {α : Type} {xs : List α} {lo hi : Option Int} (h : HT.sIx xs.length 0 lo = 0 ∧ HT.sIx xs.length xs.length hi = xs.length) : cut xs lo hi = xs := by
  unfold cut
  rw [h.1, h.2]
  exact List.take_length
def rS' (K : PySem.W.Frag) : V → Option Int → Option Int → Hp → VK → Prop := fun x lo hi H Q => ∃ μ s d Wn, Rel K μ H s ∧ VR K μ H x d ∧ Go K μ H (sliceV d lo hi s) Wn (fun μ' H' _ z => ∀ v, VR K μ' H' v z → Q v H')
theorem sl_sound : SlR X (rS' X.K) := by
  intro pins s σ H x v vl vu lo hi sl Q I rx hs pl pu h
  obtain ⟨μ, s0, d, Wn, R, hx, h⟩ := h
  cases hx with
  | tup h1 h2 =>
    refine sl_cutZ pins s σ H _ v vl vu lo hi sl Q I rx hs pl pu ⟨_, _, rfl, h1, fun e => ?_, fun p o hp hd => ?_⟩
    · have e' : cut _ lo hi = _ := cut_all (by rw [h2.length] at e; exact e)
      have q := h.ok R
      rw [e'] at q
      exact q _ (.tup h1 h2)
    · exact h μ _ (le_upd hp) (R.upd hp) _ (.tup (TupP.of upd_same hd) ((cut_vr h2).mono (le_upd hp)))
  | ref hm =>
    simp only [sliceV] at h
    split at h
    · rename_i xs hc
      obtain ⟨vs, c1, c2⟩ := R.cellL hm hc
      refine sl_list pins s σ H _ v vl vu lo hi sl Q I rx hs pl pu ⟨_, _, rfl, c1, fun p hp => ?_⟩
      have hz : (cut xs lo hi).length ≤ sizeLine := by
        obtain ⟨_, _, _, hz⟩ := I.list c1
        rw [c2.length] at hz
        exact Nat.le_trans (cut_le _ _ _) hz
      refine h (μ ++ [p]) _ (le_new hp) (R.new hp (cut_vr c2) hz) _ (.ref ?_)
      rw [← R.len]
      exact get_app_n
    · exact h.elim
  | str z =>
    simp only [sliceV] at h
    split at h
    · rename_i hz
      exact sl_str pins s σ H _ v vl vu lo hi sl Q I rx hs pl pu ⟨z, rfl, hz, h.ok R _ (.str _)⟩
    · exact h.elim
  | non => exact h.elim
  | bl _ => exact h.elim
  | int _ => exact h.elim
theorem so_none : SO T X ex W none .no := ⟨po_none.imp fun σ H Q h => by
  obtain ⟨μ, r, s, R, L, h⟩ := h
  exact h.ok R⟩
theorem so_some (ha : SE T X ex W a ca) : SO T X ex W (some a) (.some ca) := ⟨(po_some ha.pe).imp fun σ H Q h => by
  obtain ⟨μ, r, s, R, L, h⟩ := h
  refine ⟨μ, r, s, R, L, h.bind.map fun μ1 H1 s1 x le1 R1 h1 v1 hv1 => ?_⟩
  cases hv1 with
  | int i => exact ⟨i, rfl, h1.ok R1⟩
  | _ => exact h1.elim⟩
theorem se_slc {lo hi : Option Expr} {cl ch : CO} {p2 : Pos} (ha : SE T X ex W a ca) (hl : SO T X ex W lo cl) (hh : SO T X ex W hi ch) : SE T X ex W (.Subscript a (.Slice lo hi none p2) pos) (.slc ca cl ch) := ⟨(pe_slice sl_sound ha.pe hl.po hh.po).imp fun σ H Q h => by
  obtain ⟨μ, r, s, R, L, h⟩ := h
  refine ⟨μ, r, s, R, L, h.bind.map fun μ1 H1 s1 x le1 R1 h1 v1 hv1 => ?_⟩
  refine ⟨μ1, r, s1, R1, L.mono le1, h1.bind.map fun μ2 H2 s2 y le2 R2 h2 => ?_⟩
  exact ⟨μ2, r, s2, R2, (L.mono le1).mono le2, h2.bind.map fun μ3 H3 s3 z le3 R3 h3 => ⟨μ3, s3, x, _, R3, hv1.mono (le2.trans le3), h3⟩⟩⟩
theorem se_rev {k : Nat} {p1 p2 p3 : Pos} (ha : SE T X ex W a ca) :
    SE T X ex W (.Subscript a (.Slice none none (some (.UnaryOp .USub (.Constant (.int 1) k p1) p2)) p3) pos) (.rev ca) := ⟨⟨fun pins s σ H Q I h => (pe_revL (p3 := p3) (pos := pos) (k := k) (p1 := p1) (p2 := p2) ha.pe).run pins s σ H Q I (by
  obtain ⟨μ, r, s, R, L, h⟩ := h
  refine ⟨μ, r, s, R, L, h.bind.map fun μ1 H1 s1 x le1 R1 h1 v1 hv1 => ?_⟩
  cases hv1 with
  | ref hm =>
    simp only at h1
    split at h1
    · rename_i xs hc
      obtain ⟨vs, c1, c2, c3⟩ := R1.cellZ hm hc
      refine ⟨_, vs, rfl, c1, fun p hp => ?_⟩
      have hz : xs.reverse.length ≤ sizeLine := by rw [List.length_reverse]; exact c3
      refine h1 (μ1 ++ [p]) _ (le_new hp) (R1.new hp c2.reverse hz) _ (.ref ?_)
      rw [← R1.len]
      exact get_app_n
    · exact h1.elim
  | _ => exact h1.elim)⟩⟩
end
end Ip
end PtIpExpr2
section PtIpExpr3
set_option Elab.async false
set_option linter.all false
set_option maxRecDepth 100000
namespace Ip
open PySem PySem.Spec PyProof.Rows L2

section
variable {T : Tb} {X : Cx} {ex : Option (Addr × Nat)} {W : WX} {a b c e : Expr} {ca cb cc : CE} {pos : Pos} {es rest : List Expr} {ces : CEs}

/-! ### lists of arguments, displays -/
theorem ses_nil : SEs T X ex W [] .nil := ⟨pa_nil.imp fun σ H Q h => by
  obtain ⟨μ, r, s, R, L, h⟩ := h
  exact h.ok R [] .nil⟩
theorem ses_cons (ha : SE T X ex W e ca) (hr : SEs T X ex W es ces) (hs : starEach (e :: es) X.env = (false, eval e X.env) :: starEach es X.env := by rfl) : SEs T X ex W (e :: es) (.cons ca ces) := ⟨(pa_cons ha.pe hr.pa hs).imp fun σ H Q h => by
  obtain ⟨μ, r, s, R, L, h⟩ := h
  refine ⟨μ, r, s, R, L, h.bind.map fun μ1 H1 s1 x le1 R1 h1 v1 hv1 => ?_⟩
  exact ⟨μ1, r, s1, R1, L.mono le1, h1.bind.map fun μ2 H2 s2 xs le2 R2 h2 vs2 hv2 => h2.ok R2 _ (.cons (hv1.mono le2) hv2)⟩⟩
theorem se_tup {k : Nat} (h : SEs T X ex W es ces) : SE T X ex W (.Tuple es k pos) (.tup ces) := ⟨(pe_tupZ h.pa).imp fun σ H Q h => by
  obtain ⟨μ, r, s, R, L, h⟩ := h
  refine ⟨μ, r, s, R, L, h.bind.map fun μ1 H1 s1 xs le1 R1 h1 vs hv => ?_⟩
  split at h1
  · rename_i hz
    exact ⟨by rw [hv.length]; exact hz, fun p o hp hd => h1 μ1 _ (le_upd hp) (R1.upd hp) _ (.tup (TupP.of upd_same hd) (hv.mono (le_upd hp)))⟩
  · exact h1.elim⟩
theorem ref_new {K : PySem.W.Frag} {μ : List Addr} {H H' : Hp} {s : Store} {p : Addr} (R : Rel K μ H s) : VR K (μ ++ [p]) H' (.ref p) (.ref s.length) := by
  refine .ref ?_
  rw [← R.len]
  exact get_app_n
theorem se_lst (h : SEs T X ex W es ces) : SE T X ex W (.List es pos) (.lst ces) := ⟨(pe_lst h.pa).imp fun σ H Q h => by
  obtain ⟨μ, r, s, R, L, h⟩ := h
  refine ⟨μ, r, s, R, L, h.bind.map fun μ1 H1 s1 xs le1 R1 h1 vs hv => ?_⟩
  split at h1
  · rename_i hz
    exact ⟨by rw [hv.length]; exact hz, fun p hp => h1 (μ1 ++ [p]) _ (le_new hp) (R1.new hp hv hz) _ (ref_new R1)⟩
  · exact h1.elim⟩

/-! ### calls of defs -/
/-- what the def number f promises -/
def spC (T : Tb) (K : PySem.W.Frag) (f np : Nat) : Sp := fun vs H Q E => ∃ μ s ds, Rel K μ H s ∧ VRs K μ H vs ds ∧ ds.length = np ∧
  Go K μ H (T.call f ds s) (fun c H' => ∀ C, T.cls c = some C → E (.ref C) none H') (fun μ' H' _ d => ∀ v, VR K μ' H' v d → Q v H')
/-- the def number f, called x: where it stands -/
structure Fd (T : Tb) (X : Cx) (k : Nat) (x : Str) (f np : Nat) : Prop where
  ok : ∃ (ad : Addr) (fd : FuncData) (ps : List Str), FnOk X.prog X.w X.K X.mg X.base (L2.CX X.prog X.w) k ad fd ps (spC T X.K f np) ∧ ps.length = np ∧ X.mg x = some (.ref ad) ∧ PySem.W.keepIn X.K (.ref ad) = true ∧ Binds X.K fd ps []
theorem se_call {k : Nat} {x : Str} {f np : Nat} {p : Pos} {cs : CEs} (F : Fd T X k x f np) (hr : Room k X.A) (tk : Takes X W) (ha : SEs T X ex W (e :: es) cs) (hnp : (e :: es).length = np := by rfl) (hg : Gl X x := by rfl) (hdb : (x == ("__debug__" : Str)) = false := by decide)
    (he : starEach (e :: es) X.env = (false, eval e X.env) :: starEach es X.env := by rfl) (hpl : (backTo pos (starEach es X.env)).any (·.1) = false := by rfl)
    (hlen : ∀ r s xs s', evEs T.call T.G T.sub cs r s = .ok xs s' → xs.length = np) : SE T X ex W (.Call (.Name x p) (e :: es) [] pos) (.call f cs) := by
  obtain ⟨ad, fd, ps, FO, _, hm, hk, hb⟩ := F.ok
  exact ⟨(pe_callS FO hr hg hm hk hb (fun σ => passAt tk σ) ha.pa hdb he hpl).imp fun σ H Q h => by
    obtain ⟨μ, r, s, R, L, h⟩ := h
    refine ⟨μ, r, s, R, L, ?_⟩
    simp only [evE] at h
    cases hm : evEs T.call T.G T.sub cs r s with
    | ok xs s1 =>
      rw [hm] at h
      exact fun μ1 H1 le1 R1 vs hv => ⟨μ1, s1, xs, R1, hv, hlen _ _ _ _ hm, Go.later (m := T.call f xs s1) h le1⟩
    | exc c s1 => rw [hm] at h; exact h
    | stuck => rw [hm] at h; exact h⟩
theorem len_nil {r s xs s'} (h : evEs T.call T.G T.sub .nil r s = .ok xs s') : xs.length = 0 := by cases h; rfl
theorem len_cons {n : Nat} {c : CE} {cs : CEs} (hc : ∀ r s xs s', evEs T.call T.G T.sub cs r s = .ok xs s' → xs.length = n) : ∀ r s xs s', evEs T.call T.G T.sub (.cons c cs) r s = .ok xs s' → xs.length = n + 1 := by
  intro r s xs s' h
  simp only [evEs] at h
  cases h1 : evE T.call T.G T.sub c r s with
  | ok x s1 =>
    rw [h1] at h
    simp only [Res.bind] at h
    cases h2 : evEs T.call T.G T.sub cs r s1 with
    | ok ys s2 =>
      rw [h2] at h
      cases h
      rw [List.length_cons, hc _ _ _ _ h2]
    | exc c s2 => rw [h2] at h; cases h
    | stuck => rw [h2] at h; cases h
  | exc c s1 => rw [h1] at h; cases h
  | stuck => rw [h1] at h; cases h

/-! ### built-ins -/
def rBi (K : PySem.W.Frag) (b : Bi) : List V → Hp → VK → Prop := fun xs H Q => ∃ μ s ds Wn, Rel K μ H s ∧ VRs K μ H xs ds ∧ Go K μ H (biV b ds s) Wn (fun μ' H' _ z => ∀ v, VR K μ' H' v z → Q v H')
theorem bi_len : CallR X (.builtin "len") (rBi X.K .len) := by
  intro pins s σ H xs us Q I r h
  obtain ⟨μ, s0, ds, Wn, R, hv, h⟩ := h
  match hv with
  | .nil => exact h.elim
  | .cons hx .nil =>
    cases hx with
    | str z =>
      simp only [biV] at h
      split at h
      · rename_i hz
        exact call_len pins s σ H _ us Q I r ⟨_, z.length, rfl, ⟨hz, rfl⟩, h.ok R _ (.int _)⟩
      · exact h.elim
    | tup h1 h2 => exact call_len pins s σ H _ us Q I r ⟨_, _, rfl, .inr ⟨_, h1.sq, rfl⟩, by rw [h2.length]; exact h.ok R _ (.int _)⟩
    | ref hm =>
      simp only [biV] at h
      split at h
      · rename_i ys hc
        obtain ⟨vs, c1, c2⟩ := R.cellL hm hc
        exact call_len pins s σ H _ us Q I r ⟨_, _, rfl, .inl ⟨_, c1, rfl⟩, by rw [c2.length]; exact h.ok R _ (.int _)⟩
      · exact h.elim
    | _ => exact h.elim
  | .cons hx (.cons hy hr) => cases hx <;> exact h.elim
theorem bi_abs : CallR X (.builtin "abs") (rBi X.K .abs) := by
  intro pins s σ H xs us Q I r h
  obtain ⟨μ, s0, ds, Wn, R, hv, h⟩ := h
  match hv with
  | .nil => exact h.elim
  | .cons hx .nil =>
    cases hx with
    | int i => exact call_abs pins s σ H _ us Q I r ⟨i, rfl, h.ok R _ (.int _)⟩
    | _ => exact h.elim
  | .cons hx (.cons hy hr) => cases hx <;> exact h.elim
theorem bi_int : CallR X (.type "int") (rBi X.K .int) := by
  intro pins s σ H xs us Q I r h
  obtain ⟨μ, s0, ds, Wn, R, hv, h⟩ := h
  match hv with
  | .nil => exact h.elim
  | .cons hx .nil =>
    cases hx with
    | int i => exact call_int1 pins s σ H _ us Q I r (.inl ⟨i, rfl, h.ok R _ (.int _)⟩)
    | bl i => exact call_int1 pins s σ H _ us Q I r (.inr ⟨i, rfl, h.ok R _ (.int _)⟩)
    | str z =>
      simp only [biV] at h
      cases hz : PySem.intText? z with
      | none => rw [hz] at h; exact h.elim
      | some n =>
        rw [hz] at h
        simp only [optR] at h
        split at h
        · rename_i hl
          exact call_int_str pins s σ H _ us Q I r ⟨z, n, rfl, hz, hl, h.ok R _ (.int _)⟩
        · exact h.elim
    | _ => exact h.elim
  | .cons hx (.cons hy hr) => cases hx <;> exact h.elim
theorem bi_divmod : CallR X (.builtin "divmod") (rBi X.K .divmod) := by
  intro pins s σ H xs us Q I r h
  obtain ⟨μ, s0, ds, Wn, R, hv, h⟩ := h
  match hv with
  | .nil => exact h.elim
  | .cons hx .nil => cases hx <;> exact h.elim
  | .cons hx (.cons hy .nil) =>
    cases hx with
    | int i =>
      cases hy with
      | int j =>
        simp only [biV] at h
        split at h
        · rename_i hj
          refine cr_divmodZ pins s σ H _ us Q I r ⟨i, j, rfl, hj, fun p o hp hd => h μ _ (le_upd hp) (R.upd hp) _ (.tup (TupP.of upd_same hd) ?_)⟩
          exact .cons (.int _) (.cons (.int _) .nil)
        · exact h.elim
      | _ => exact h.elim
    | _ => exact h.elim
  | .cons hx (.cons hy (.cons hz hr)) => cases hx <;> (first | exact h.elim | (cases hy <;> exact h.elim))
theorem bi_list : CallR X (.type "list") (rBi X.K .list) := by
  intro pins s σ H xs us Q I r h
  obtain ⟨μ, s0, ds, Wn, R, hv, h⟩ := h
  match hv with
  | .nil => exact h.elim
  | .cons hx .nil =>
    cases hx with
    | tup h1 h2 =>
      refine call_list_of pins s σ H _ us Q I r ⟨_, _, rfl, .inr h1.sq, fun p hp => ?_⟩
      obtain ⟨_, _, _, hz⟩ := I.tuple h1.sq
      rw [h2.length] at hz
      exact h (μ ++ [p]) _ (le_new hp) (R.new hp h2 hz) _ (ref_new R)
    | ref hm =>
      simp only [biV] at h
      split at h
      · rename_i ys hc
        obtain ⟨vs, c1, c2, hz⟩ := R.cellZ hm hc
        refine call_list_of pins s σ H _ us Q I r ⟨_, _, rfl, .inl c1, fun p hp => ?_⟩
        exact h (μ ++ [p]) _ (le_new hp) (R.new hp c2 hz) _ (ref_new R)
      · exact h.elim
    | _ => exact h.elim
  | .cons hx (.cons hy hr) => cases hx <;> exact h.elim
theorem bi_tuple : CallR X (.type "tuple") (rBi X.K .tuple) := by
  intro pins s σ H xs us Q I r h
  obtain ⟨μ, s0, ds, Wn, R, hv, h⟩ := h
  match hv with
  | .nil => exact h.elim
  | .cons hx .nil =>
    cases hx with
    | tup h1 h2 => exact cr_tupleZ pins s σ H _ us Q I r ⟨_, _, rfl, .inr ⟨h1, h.ok R _ (.tup h1 h2)⟩⟩
    | ref hm =>
      simp only [biV] at h
      split at h
      · rename_i ys hc
        obtain ⟨vs, c1, c2, hz⟩ := R.cellZ hm hc
        exact cr_tupleZ pins s σ H _ us Q I r ⟨_, _, rfl, .inl ⟨c1, fun p o hp hd => h μ _ (le_upd hp) (R.upd hp) _ (.tup (TupP.of upd_same hd) (c2.mono (le_upd hp)))⟩⟩
      · exact h.elim
    | _ => exact h.elim
  | .cons hx (.cons hy hr) => cases hx <;> exact h.elim
theorem bi_str : CallR X (.type "str") (rBi X.K .str) := by
  intro pins s σ H xs us Q I r h
  obtain ⟨μ, s0, ds, Wn, R, hv, h⟩ := h
  match hv with
  | .nil => exact h.elim
  | .cons hx .nil =>
    cases hx with
    | int i =>
      simp only [biV] at h
      split at h
      · rename_i hi
        exact call_str_int pins s σ H _ us Q I r ⟨i, rfl, hi, h.ok R _ (.str _)⟩
      · exact h.elim
    | _ => exact h.elim
  | .cons hx (.cons hy hr) => cases hx <;> exact h.elim
theorem bi_max2 (hc : X.calm = true) : CallR X (.builtin "max") (rBi X.K .max2) := by
  intro pins s σ H xs us Q I r h
  obtain ⟨μ, s0, ds, Wn, R, hv, h⟩ := h
  match hv with
  | .nil => exact h.elim
  | .cons hx .nil => cases hx <;> exact h.elim
  | .cons hx (.cons hy .nil) =>
    cases hx with
    | int i =>
      cases hy with
      | int j => exact call_max2 hc pins s σ H _ us Q I r ⟨i, j, rfl, h.ok R _ (.int _)⟩
      | _ => exact h.elim
    | _ => exact h.elim
  | .cons hx (.cons hy (.cons hz hr)) => cases hx <;> (first | exact h.elim | (cases hy <;> exact h.elim))
theorem bi_min2 (hc : X.calm = true) : CallR X (.builtin "min") (rBi X.K .min2) := by
  intro pins s σ H xs us Q I r h
  obtain ⟨μ, s0, ds, Wn, R, hv, h⟩ := h
  match hv with
  | .nil => exact h.elim
  | .cons hx .nil => cases hx <;> exact h.elim
  | .cons hx (.cons hy .nil) =>
    cases hx with
    | int i =>
      cases hy with
      | int j => exact call_min2 hc pins s σ H _ us Q I r ⟨i, j, rfl, h.ok R _ (.int _)⟩
      | _ => exact h.elim
    | _ => exact h.elim
  | .cons hx (.cons hy (.cons hz hr)) => cases hx <;> (first | exact h.elim | (cases hy <;> exact h.elim))
theorem se_biB (B : Bi) {x : Str} {id : String} {p : Pos} {cs : CEs} (hc : CallR X (.builtin id) (rBi X.K B)) (hm : X.mg x = none) (hv : bootBuiltins x = some (.builtin id)) (ha : SEs T X ex W (e :: es) cs) (hg : Gl X x := by rfl) (hn : x ≠ "__name__" := by decide)
    (hdb : (x == ("__debug__" : Str)) = false := by decide) (he : starEach (e :: es) X.env = (false, eval e X.env) :: starEach es X.env := by rfl) (hpl : (backTo pos (starEach es X.env)).any (·.1) = false := by rfl) : SE T X ex W (.Call (.Name x p) (e :: es) [] pos) (.bi B cs) :=
  ⟨(pe_callB hc hg hm hv ha.pa hn hdb he hpl).imp fun σ H Q h => by
    obtain ⟨μ, r, s, R, L, h⟩ := h
    exact ⟨μ, r, s, R, L, h.bind.map fun μ1 H1 s1 xs le1 R1 h1 vs hv => ⟨μ1, s1, xs, _, R1, hv, h1⟩⟩⟩
theorem se_biT (B : Bi) {x : Str} {id : String} {p : Pos} {cs : CEs} (hc : CallR X (.type id) (rBi X.K B)) (hm : X.mg x = none) (hv : bootBuiltins x = some (.type id)) (ha : SEs T X ex W (e :: es) cs) (hg : Gl X x := by rfl) (hn : x ≠ "__name__" := by decide)
    (hdb : (x == ("__debug__" : Str)) = false := by decide) (he : starEach (e :: es) X.env = (false, eval e X.env) :: starEach es X.env := by rfl) (hpl : (backTo pos (starEach es X.env)).any (·.1) = false := by rfl) : SE T X ex W (.Call (.Name x p) (e :: es) [] pos) (.bi B cs) :=
  ⟨(pe_callTy hc hg hm hv ha.pa hn hdb he hpl).imp fun σ H Q h => by
    obtain ⟨μ, r, s, R, L, h⟩ := h
    exact ⟨μ, r, s, R, L, h.bind.map fun μ1 H1 s1 xs le1 R1 h1 vs hv => ⟨μ1, s1, xs, _, R1, hv, h1⟩⟩⟩

/-! ### isinstance(x, T), T built-in -/
def tyName (n : String) : Bool := n == "int" || n == "bool" || n == "str" || n == "tuple" || n == "list"
theorem tyX_of {K : PySem.W.Frag} {μ : List Addr} {H : Hp} {s : Store} {v : V} {d : DV} {n : String} {b : Bool} (hn : tyName n = true) (R : Rel K μ H s) (h : VR K μ H v d) (e : clIs d s (.ty n) = some b) : ∃ t, TyX K H v (.type t) ∧ kitB t n = some b := by
  have hn' : n = "int" ∨ n = "bool" ∨ n = "str" ∨ n = "tuple" ∨ n = "list" := by
    unfold tyName at hn
    simp only [Bool.or_eq_true, beq_iff_eq] at hn
    rcases hn with (((h | h) | h) | h) | h <;> simp [h]
  cases h with
  | non =>
    refine ⟨"NoneType", .base .non, ?_⟩
    rcases hn' with rfl | rfl | rfl | rfl | rfl <;> cases e <;> decide +kernel
  | bl k =>
    refine ⟨"bool", .base (.bl k), ?_⟩
    rcases hn' with rfl | rfl | rfl | rfl | rfl <;> cases e <;> decide +kernel
  | int k =>
    refine ⟨"int", .base (.int k), ?_⟩
    rcases hn' with rfl | rfl | rfl | rfl | rfl <;> cases e <;> decide +kernel
  | str k =>
    refine ⟨"str", .base (.str k), ?_⟩
    rcases hn' with rfl | rfl | rfl | rfl | rfl <;> cases e <;> decide +kernel
  | tup h1 h2 =>
    refine ⟨"tuple", ?_, ?_⟩
    · rcases h1.sq with (h1 | ⟨o, h1⟩) | ⟨o, its, n, h1, h3, _⟩
      · exact .base (.tup h1)
      · exact .fTuple h1
      · exact .kTuple h1 h3
    · rcases hn' with rfl | rfl | rfl | rfl | rfl <;> cases e <;> decide +kernel
  | ref hm =>
    simp only [clIs] at e
    split at e
    · rename_i xs0 hc0
      obtain ⟨c, hc⟩ := R.there hm
      refine ⟨"list", ?_, ?_⟩
      · have q := R.at_ _ _ _ hm hc
        cases c with
        | lst xs => exact .base (.lst q.choose_spec.1)
        | frz xs =>
          obtain ⟨vs, q, _⟩ := q
          rcases q with ⟨o, q⟩ | ⟨o, its, n, h1, h3, _⟩
          · exact .base (.frz q)
          · exact .kList h1 h3
        | dct kvs =>
          unfold Ip.cellL at hc0
          rw [hc] at hc0
          cases hc0
        | fdct kvs =>
          unfold Ip.cellL at hc0
          rw [hc] at hc0
          cases hc0
      · rcases hn' with rfl | rfl | rfl | rfl | rfl <;> cases e <;> decide +kernel
    · cases e
theorem se_isi (n : String) {p p2 : Pos} {x : Str} (hm : X.mg "isinstance" = none) (hm2 : X.mg x = none) (hv2 : bootBuiltins x = some (.type n)) (ha : SE T X ex W a ca) (hn : tyName n = true := by decide) (hg : Gl X "isinstance" := by rfl) (hg2 : Gl X x := by rfl)
    (hx : x ≠ "__name__" := by decide) (hxd : (x == ("__debug__" : Str)) = false := by decide) (he : starEach [a, .Name x p2] X.env = (false, eval a X.env) :: starEach [.Name x p2] X.env := by rfl) : SE T X ex W (.Call (.Name "isinstance" p) [a, .Name x p2] [] pos) (.isi ca [.ty n]) :=
  ⟨(pe_callB call_isi hg hm boot_isinstance (pa_cons ha.pe (pa_cons (pe_bltn (v := .ty n) hg2 hm2 hv2 rfl hx hxd) pa_nil) he) (by decide) (by decide) he rfl).imp fun σ H Q h => by
    obtain ⟨μ, r, s, R, L, h⟩ := h
    refine ⟨μ, r, s, R, L, h.bind.map fun μ1 H1 s1 d le1 R1 h1 v hv => ?_⟩
    simp only at h1
    split at h1
    · rename_i k hk
      obtain ⟨t, ht, hkt⟩ := tyX_of hn R1 hv hk
      exact ⟨v, .ty n, .type t, .type n, k, rfl, .ty n, ht, kit_ty hkt, h1.ok R1 _ (.bl k)⟩
    · exact h1.elim⟩

/-! ### xs.append(e) -/
theorem se_append {apos cpos : Pos} (ha : SE T X ex W a ca) (hb : SE T X ex W b cb) (hbase : attributeBase a "append" X.env (eval a X.env) = eval a X.env := by rfl)
    (hfew : ((backTo cpos (starEach [b] X.env)).all (fun x => !x.1) && (backToKw cpos (keywordEach [] X.env)).all (fun x => x.1.isSome)
      && decide (([b] : List Expr).length + ([] : List Keyword).length + (if ([] : List Keyword).isEmpty then 0 else 1) < 30)) = true := by rfl)
    (hline : (apos.endLine == cpos.line) = true := by rfl) (hs : starEach [b] X.env = (false, eval b X.env) :: starEach [] X.env := by rfl) (hplain : (backTo cpos (starEach [] X.env)).any (·.1) = false := by rfl) :
    SE T X ex W (.Call (.Attribute a "append" apos) [b] [] cpos) (.meth .append ca (.cons cb .nil)) :=
  ⟨(pe_bm PySem.F.plainAttrs_list PySem.F.slot_list_append PySem.F.type_list_append mt_append ha.pe (pa_cons hb.pe pa_nil hs) hbase hfew hline hs hplain).imp fun σ H Q h => by
    obtain ⟨μ, r, s, R, L, h⟩ := h
    simp only [evE, evEs] at h
    cases hx : evE T.call T.G T.sub ca r s with
    | exc c s1 =>
      rw [hx] at h
      refine ⟨μ, r, s, R, L, ?_⟩
      rw [hx]
      exact h
    | stuck => rw [hx] at h; exact h.elim
    | ok x s1 =>
      rw [hx] at h
      refine ⟨μ, r, s, R, L, ?_⟩
      rw [hx]
      refine fun μ1 H1 le1 R1 v hv => ?_
      have h := h.later le1
      simp only [Res.bind] at h
      -- the receiver is a list
      cases hv with
      | @ref n a hm =>
        refine ⟨.inl ⟨rfl, ?_⟩, μ1, r, s1, R1, L.mono le1, ?_⟩
        · cases hc0 : cellL s1 n with
          | none => simp only [hc0] at h; exact h.elim
          | some xs0 =>
            obtain ⟨vs, q, _⟩ := R1.cellL hm hc0
            exact ⟨_, q⟩
        · cases hc0 : cellL s1 n with
          | none => simp only [hc0] at h; exact h.elim
          | some xs0 =>
          simp only [hc0] at h
          cases hy : evE T.call T.G T.sub cb r s1 with
          | exc c s2 => rw [hy] at h; exact h
          | stuck => rw [hy] at h; exact h.elim
          | ok y s2 =>
            rw [hy] at h
            refine fun μ2 H2 le2 R2 w hw => ?_
            have h := Go.later (K := X.K) h le2
            simp only [mtV] at h
            split at h
            · rename_i ys hc
              split at h
              · rename_i hz
                obtain ⟨vs, c1, c2, _⟩ := R2.at_ _ _ _ (le2.pre _ _ hm) hc
                refine ⟨a, vs, w, rfl, rfl, c1, by rw [c2.length]; exact hz, ?_⟩
                have q : VRs X.K μ2 H2 (vs ++ [w]) (ys ++ [y]) := c2.append (.cons hw .nil)
                have hz' : (ys ++ [y]).length ≤ sizeLine := by rw [List.length_append]; exact hz
                exact h μ2 _ (le_set c1) (R2.set (le2.pre _ _ hm) hc c1 q hz') _ .non
              · exact h.elim
            · exact h.elim
      | _ => exact h.elim⟩
end
end Ip
end PtIpExpr3
section PtIpStmt
set_option Elab.async false
set_option linter.all false
set_option maxRecDepth 100000
namespace Ip
open PySem PySem.Spec PyProof.Rows L2 RZ RT

/-! ### targets -/
def tG (T : Tb) (K : PySem.W.Frag) (ex : Option (Addr × Nat)) (c : CT) : TG := fun v σ H Q =>
  ∃ μ r s d, Rel K μ H s ∧ LR K ex μ H σ r ∧ VR K μ H v d ∧ Go K μ H (evT T.call T.G T.sub c d r s) (fun _ _ => False) (fun μ' H' _ r' => ∀ σ', LR K ex μ' H' σ' r' → Q σ' H')
def tGs (T : Tb) (K : PySem.W.Frag) (ex : Option (Addr × Nat)) (c : CTs) : TGs := fun vs σ H Q =>
  ∃ μ r s ds, Rel K μ H s ∧ LR K ex μ H σ r ∧ VRs K μ H vs ds ∧ Go K μ H (evTs T.call T.G T.sub c ds r s) (fun _ _ => False) (fun μ' H' _ r' => ∀ σ', LR K ex μ' H' σ' r' → Q σ' H')
structure SG (T : Tb) (X : Cx) (ex : Option (Addr × Nat)) (e : Expr) (c : CT) : Prop where
  pg : PG X e (tG T X.K ex c)
structure SGs (T : Tb) (X : Cx) (ex : Option (Addr × Nat)) (es : List Expr) (c : CTs) : Prop where
  pg : PGs X es (tGs T X.K ex c)
/-! ### what is walked -/
structure Wk (K : PySem.W.Frag) (J : It) (f : Src) (ds : List DV) (μ0 : List Addr) (H0 : Hp) : Prop where
  go : ∀ (i : Nat) (d : DV) (μ : List Addr) (H : Hp) (s : Store), Le K μ0 H0 μ H → Rel K μ H s → f.ok s → ds[i]? = some d → J.go i H ∧ ∀ x H', J.yld i H x H' → Le K μ H μ H' ∧ Rel K μ H' s ∧ VR K μ H' x d
  stop : ∀ (i : Nat) (μ : List Addr) (H : Hp) (s : Store), Le K μ0 H0 μ H → Rel K μ H s → f.ok s → ds.length ≤ i → J.stop i H
def tI (T : Tb) (K : PySem.W.Frag) (ex : Option (Addr × Nat)) (W : WX) (c : CI) : TI := fun σ H R =>
  ∃ μ r s, Rel K μ H s ∧ LR K ex μ H σ r ∧ Go K μ H (evI T.call T.G T.sub c r s) (fun c H' => ∀ C, T.cls c = some C → W (.ref C) none σ H') (fun μ' H' _ q => ∀ J, Wk K J q.1 q.2 μ' H' → R J H')
structure SI (T : Tb) (X : Cx) (ex : Option (Addr × Nat)) (W : WX) (tg e : Expr) (c : CI) : Prop where
  pi : PI X tg e (tI T X.K ex W c)
/-! ### statements -/
def GoS (T : Tb) (K : PySem.W.Frag) (ex : Option (Addr × Nat)) (W : WX) (μ : List Addr) (H : Hp) (o : Out) (D : Ends) : Prop := match o with
  | .nx r s => ∀ μ' H' σ', Le K μ H μ' H' → Rel K μ' H' s → LR K ex μ' H' σ' r → D.nx σ' H'
  | .rt v s => ∀ μ' H' u, Le K μ H μ' H' → Rel K μ' H' s → VR K μ' H' u v → D.rt u H'
  | .bk r s => ∀ μ' H' σ', Le K μ H μ' H' → Rel K μ' H' s → LR K ex μ' H' σ' r → D.bk σ' H'
  | .ct r s => ∀ μ' H' σ', Le K μ H μ' H' → Rel K μ' H' s → LR K ex μ' H' σ' r → D.ct σ' H'
  | .exc c r s => ∀ μ' H' σ', Le K μ H μ' H' → Rel K μ' H' s → LR K ex μ' H' σ' r → ∀ C, T.cls c = some C → W (.ref C) none σ' H'
  | .stuck => False
theorem GoS.later {T : Tb} {K : PySem.W.Frag} {ex : Option (Addr × Nat)} {W : WX} {μ μ' : List Addr} {H H' : Hp} {o : Out} {D : Ends} (h : GoS T K ex W μ H o D) (e : Le K μ H μ' H') : GoS T K ex W μ' H' o D := by
  cases o with
  | nx r s => exact fun μ2 H2 σ2 le R L => h μ2 H2 σ2 (e.trans le) R L
  | rt v s => exact fun μ2 H2 u le R L => h μ2 H2 u (e.trans le) R L
  | bk r s => exact fun μ2 H2 σ2 le R L => h μ2 H2 σ2 (e.trans le) R L
  | ct r s => exact fun μ2 H2 σ2 le R L => h μ2 H2 σ2 (e.trans le) R L
  | exc c r s => exact fun μ2 H2 σ2 le R L => h μ2 H2 σ2 (e.trans le) R L
  | stuck => exact h
def tS (T : Tb) (K : PySem.W.Frag) (ex : Option (Addr × Nat)) (W : WX) (c : CS) : TS := fun D σ H =>
  ∃ μ r s, Rel K μ H s ∧ LR K ex μ H σ r ∧ GoS T K ex W μ H (evS T.call T.G T.sub c r s) D
def tSs (T : Tb) (K : PySem.W.Frag) (ex : Option (Addr × Nat)) (W : WX) (c : CSs) : TS := fun D σ H =>
  ∃ μ r s, Rel K μ H s ∧ LR K ex μ H σ r ∧ GoS T K ex W μ H (evSs T.call T.G T.sub c r s) D
structure SS (T : Tb) (X : Cx) (ex : Option (Addr × Nat)) (W : WX) (st : Stmt) (c : CS) : Prop where
  ps : PS X st (tS T X.K ex W c)
structure SSs (T : Tb) (X : Cx) (ex : Option (Addr × Nat)) (W : WX) (st : List Stmt) (c : CSs) : Prop where
  ps : PSs X st (tSs T X.K ex W c)

section
variable {T : Tb} {X : Cx} {ex : Option (Addr × Nat)} {W : WX} {a b c e tg : Expr} {ca cb cc ce : CE} {pos : Pos} {es rest : List Expr} {ces : CEs} {ct : CT} {cts : CTs}

theorem sg_name (i : Nat) {x : Str} (hN : X.N.Nodup) (hi : X.N[i]? = some x := by rfl) (hx : L2.Loc X.env.scope x := by first | exact Or.inl rfl | exact Or.inr rfl) (hf : X.fn x = true ∨ X.env.scope.names.lookup x = some .local := by first | exact .inl rfl | exact .inr rfl) : SG T X ex (.Name x pos) (.name i) := ⟨(pg_name hN hi hx hf).imp fun v σ H Q h => by
  obtain ⟨μ, r, s, d, R, L, hv, h⟩ := h
  simp only [evT] at h
  split at h
  · exact h.ok R _ (L.set hv)
  · exact h.elim⟩
theorem sgs_nil : SGs T X ex [] .nil := ⟨pgs_nil.imp fun vs σ H Q h => by
  obtain ⟨μ, r, s, ds, R, L, hv, h⟩ := h
  cases hv with
  | nil => exact ⟨rfl, h.ok R _ L⟩
  | cons _ _ => exact h.elim⟩
theorem sgs_cons (h1 : SG T X ex e ct) (h2 : SGs T X ex es cts) (hs : (assignEach (e :: es) X.env).map (·.2) = assign e X.env :: (assignEach es X.env).map (·.2) := by rfl) : SGs T X ex (e :: es) (.cons ct cts) := ⟨(pgs_cons h1.pg h2.pg hs).imp fun vs σ H Q h => by
  obtain ⟨μ, r, s, ds, R, L, hv, h⟩ := h
  cases hv with
  | nil => exact h.elim
  | cons h3 h4 =>
    refine ⟨_, _, rfl, μ, r, s, _, R, L, h3, h.bind.map fun μ1 H1 s1 r1 le1 R1 q σ1 L1 => ⟨μ1, r1, s1, _, R1, L1, h4.mono le1, q⟩⟩⟩
mutual
theorem evT_noexc : ∀ (t : CT) (v : DV) (r : Loc) (s : Store) (c : Nat) (s' : Store), evT T.call T.G T.sub t v r s ≠ .exc c s'
  | .name i, v, r, s, c, s' => by
    simp only [evT]
    split <;> intro h <;> cases h
  | .tup ts, v, r, s, c, s' => by
    cases v with
    | tup xs => exact evTs_noexc ts xs r s c s'
    | ref l =>
      simp only [evT]
      split
      · exact evTs_noexc ts _ r s c s'
      · intro h; cases h
    | _ => intro h; cases h
  | .sub a b, v, r, s, c, s' => by
    simp only [evT]
    cases h1 : evE T.call T.G T.sub a r s with
    | ok x s1 =>
      simp only [Res.quiet, Res.bind]
      cases h2 : evE T.call T.G T.sub b r s1 with
      | ok y s2 =>
        simp only [Res.quiet, Res.bind, optR]
        cases setV x y v s2 <;> intro h <;> cases h
      | exc c s2 => intro h; cases h
      | stuck => intro h; cases h
    | exc c s1 => intro h; cases h
    | stuck => intro h; cases h
theorem evTs_noexc : ∀ (t : CTs) (v : List DV) (r : Loc) (s : Store) (c : Nat) (s' : Store), evTs T.call T.G T.sub t v r s ≠ .exc c s'
  | .nil, v, r, s, c, s' => by
    cases v <;> intro h <;> cases h
  | .cons t ts, v, r, s, c, s' => by
    cases v with
    | nil => intro h; cases h
    | cons x xs =>
      intro h
      simp only [evTs] at h
      cases h1 : evT T.call T.G T.sub t x r s with
      | ok r1 s1 =>
        rw [h1] at h
        exact evTs_noexc ts xs r1 s1 c s' h
      | exc d s1 => exact evT_noexc t x r s d s1 h1
      | stuck => rw [h1] at h; cases h
end
theorem sg_tup {k n : Nat} (hc : X.calm = true) (h : SGs T X ex es cts) (hlen : ∀ xs r s r' s', evTs T.call T.G T.sub cts xs r s = .ok r' s' → xs.length = n)
    (hn : (assignEach es X.env).length = n := by rfl) (hst : (assignEach es X.env).findIdx? (·.1) = none := by rfl) : SG T X ex (.Tuple es k pos) (.tup cts) :=
  ⟨⟨fun pins s0 σ H v u Q I rv h' => by
    obtain ⟨μ, r, s, d, R, L, hv, hg⟩ := h'
    have key : ∀ (vs : List V) (ds : List DV), VRs X.K μ H vs ds → Go X.K μ H (evTs T.call T.G T.sub cts ds r s) (fun _ _ => False) (fun μ' H' _ r' => ∀ σ', LR X.K ex μ' H' σ' r' → Q σ' H') → vs.length = n ∧ tGs T X.K ex cts vs σ H Q := fun vs ds hv hg => by
      refine ⟨?_, μ, r, s, ds, R, L, hv, hg⟩
      rw [hv.length]
      cases hm : evTs T.call T.G T.sub cts ds r s with
      | ok r' s' => exact hlen _ _ _ _ _ hm
      | exc c s' => exact absurd hm (evTs_noexc _ _ _ _ _ _)
      | stuck => rw [hm] at hg; exact hg.elim
    cases hv with
    | tup h1 h2 =>
      obtain ⟨k1, k2⟩ := key _ _ h2 hg
      exact (pg_tup hc h.pg hn hst).run pins s0 σ H _ u Q I rv ⟨_, _, rfl, h1.sq, k1, k2⟩
    | ref hm =>
      simp only [evT] at hg
      split at hg
      · rename_i xs hc'
        obtain ⟨vs, c1, c2⟩ := R.cellL hm hc'
        obtain ⟨k1, k2⟩ := key _ _ c2 hg
        exact (pg_lst hc h.pg hn hst).run pins s0 σ H _ u Q I rv ⟨_, _, rfl, c1, k1, k2⟩
      · exact hg.elim
    | _ => exact hg.elim⟩⟩

theorem lenT_nil : ∀ xs r s r' s', evTs T.call T.G T.sub .nil xs r s = .ok r' s' → xs.length = 0 := by
  intro xs r s r' s' h
  cases xs with
  | nil => rfl
  | cons _ _ => cases h
theorem lenT_cons {n : Nat} (hc : ∀ xs r s r' s', evTs T.call T.G T.sub cts xs r s = .ok r' s' → xs.length = n) : ∀ xs r s r' s', evTs T.call T.G T.sub (.cons ct cts) xs r s = .ok r' s' → xs.length = n + 1 := by
  intro xs r s r' s' h
  cases xs with
  | nil => cases h
  | cons x xs =>
    simp only [evTs] at h
    cases h1 : evT T.call T.G T.sub ct x r s with
    | ok r1 s1 =>
      rw [h1] at h
      rw [List.length_cons, hc _ _ _ _ _ h]
    | exc d s1 => rw [h1] at h; cases h
    | stuck => rw [h1] at h; cases h
/-- o[i] = v of a list or of a dict -/
def rSetB : TSet := fun o i v H Q => rSetL o i v H Q ∨ rSetD o i v H Q
theorem set_both (hu : X.A.units + 64 < cLine) : PSet X rSetB := by
  intro pins s σ H o i v ov iv u Q I ro ri rv h
  rcases h with h | h
  · exact set_list pins s σ H o i v ov iv u Q I ro ri rv h
  · exact set_dict (Nat.lt_of_le_of_lt (Nat.add_le_add_left (by decide) _) hu) pins s σ H o i v ov iv u Q I ro ri rv h
theorem sg_sub (hu : X.A.units + 64 < cLine) (ha : SE T X ex (fun _ _ _ _ => False) a ca) (hb : SE T X ex (fun _ _ _ _ => False) b cb) (hs : ∀ v, assign (.Subscript a b pos) X.env v = (do
      let ov ← holding [v] (eval a X.env)
      let iv ← holding [v, ov] (eval b X.env)
      standAt pos
      holding [v, ov, iv] (setItem ov iv v)
      release [v, ov, iv] []) := by exact fun _ => rfl) : SG T X ex (.Subscript a b pos) (.sub ca cb) := ⟨(pg_sub ha.pe hb.pe (set_both hu) hs).imp fun v σ H Q h => by
  obtain ⟨μ, r, s, d, R, L, hv, h⟩ := h
  simp only [evT] at h
  cases h1 : evE T.call T.G T.sub ca r s with
  | exc c s1 => rw [h1] at h; exact h.elim
  | stuck => rw [h1] at h; exact h.elim
  | ok x s1 =>
    rw [h1] at h
    simp only [Res.quiet, Res.bind] at h
    refine ⟨μ, r, s, R, L, ?_⟩
    rw [h1]
    intro μ1 H1 le1 R1 o ho
    have h := h.later le1
    cases h2 : evE T.call T.G T.sub cb r s1 with
    | exc c s2 => rw [h2] at h; exact h.elim
    | stuck => rw [h2] at h; exact h.elim
    | ok y s2 =>
      rw [h2] at h
      simp only [Res.quiet, Res.bind] at h
      refine ⟨μ1, r, s1, R1, L.mono le1, ?_⟩
      rw [h2]
      intro μ2 H2 le2 R2 i hi
      have h := h.later le2
      have hv2 := (hv.mono le1).mono le2
      have hL := (L.mono le1).mono le2
      have ho2 := ho.mono le2
      clear ho
      cases ho2 with
      | @ref l pa hm =>
        simp only [setV] at h
        cases hc : s2[l]? with
        | none => rw [hc] at h; exact h.elim
        | some c =>
          rw [hc] at h
          cases c with
          | frz _ => exact h.elim
          | fdct _ => exact h.elim
          | lst ys =>
            cases hi with
            | int j =>
              simp only at h
              cases hk : L2.ixN ys.length j with
              | none => rw [hk] at h; exact h.elim
              | some k =>
                rw [hk] at h
                obtain ⟨vs, c1, c2, c3⟩ := R2.at_ _ _ _ hm hc
                refine .inl ⟨_, vs, j, k, rfl, rfl, c1, by rw [c2.length]; exact hk, ?_⟩
                exact h μ2 _ (le_set c1) (R2.set hm hc c1 (c2.set k hv2) (by rw [List.length_set]; exact c3)) σ (hL.mono (le_set c1))
            | _ => exact h.elim
          | dct ks =>
            simp only at h
            cases hk : key? y with
            | none => rw [hk] at h; exact h.elim
            | some k =>
              rw [hk] at h
              simp only at h
              split at h
              · rename_i hlt
                obtain ⟨ws, dk, k1, k2, k3⟩ := R2.at_ _ _ _ hm hc
                have kr := KR.of k1 k2
                have hz : ws.length = ks.length := kr.len
                have e := key_kV hi hk
                subst e
                have q := kr.put (k := k) hv2
                have n := length_putD ks k d
                have le := le_setU (K := X.K) (μ := μ2) (w := .dK (putK ws k v)) dk trivial fun _ _ z => nomatch z
                refine .inr ⟨_, _, rfl, .inl ⟨ws, k, dk, rfl, by rw [hz]; exact hlt, rfl⟩, ?_⟩
                exact h μ2 _ le (R2.setD hm hc dk q.both.1 q.both.2 (by omega)) σ (hL.mono le)
              · exact h.elim
      | _ => exact h.elim⟩

/-! ### iterables -/
theorem wk_list {K : PySem.W.Frag} {a : Addr} {l : Nat} {xs : List DV} {μ0 : List Addr} {H0 : Hp} (hm : μ0[l]? = some a) : Wk K (Itl K a) (.cell l xs) xs μ0 H0 where
  go := fun i d μ H s le R hf hd => by
    obtain ⟨vs, c1, c2⟩ := R.cellL (le.pre _ _ hm) hf
    obtain ⟨v, hv, rv⟩ := c2.get hd
    refine ⟨⟨vs, v, c1, hv⟩, fun x H' hy => ?_⟩
    obtain ⟨rfl, hx⟩ := hy
    have e := hx vs c1
    rw [hv] at e
    cases e
    exact ⟨Le.refl, R, rv⟩
  stop := fun i μ H s le R hf hd => by
    obtain ⟨vs, c1, c2⟩ := R.cellL (le.pre _ _ hm) hf
    exact ⟨vs, c1, by rw [c2.length]; exact hd⟩
theorem wk_tup {K : PySem.W.Frag} {a : Addr} {vs : List V} {xs : List DV} {μ0 : List Addr} {H0 : Hp} (h1 : TupP K H0 a vs) (h2 : VRs K μ0 H0 vs xs) : Wk K (Itt K a) .free xs μ0 H0 where
  go := fun i d μ H s le R hf hd => by
    obtain ⟨v, hv, rv⟩ := (h2.mono le).get hd
    refine ⟨⟨vs, v, (le.tup _ _ h1).sq, hv⟩, fun x H' hy => ?_⟩
    obtain ⟨rfl, hx⟩ := hy
    have e := hx vs ((le.tup _ _ h1).sq)
    rw [hv] at e
    cases e
    exact ⟨Le.refl, R, rv⟩
  stop := fun i μ H s le R hf hd => ⟨vs, (le.tup _ _ h1).sq, by rw [h2.length]; exact hd⟩
theorem wk_str {K : PySem.W.Frag} {z : Str} {μ0 : List Addr} {H0 : Hp} : Wk K (Its z) .free (z.cps.toList.map fun c => .str ⟨#[c]⟩) μ0 H0 where
  go := fun i d μ H s le R hf hd => by
    rw [List.getElem?_map] at hd
    cases hc : z.cps.toList[i]? with
    | none => rw [hc] at hd; cases hd
    | some c =>
      rw [hc] at hd
      cases hd
      have hc' : z.cps[i]? = some c := by rw [← Array.getElem?_toList]; exact hc
      refine ⟨(Array.getElem?_eq_some_iff.mp hc').1, fun x H' hy => ?_⟩
      obtain ⟨rfl, c', e1, rfl⟩ := hy
      rw [hc'] at e1
      cases e1
      exact ⟨Le.refl, R, .str _⟩
  stop := fun i μ H s le R hf hd => by
    rw [List.length_map, Array.length_toList] at hd
    exact hd
theorem si_seq (ha : SE T X ex W a ca) : SI T X ex W tg a (.seq ca) := ⟨⟨fun pins s0 σ H R I h => by
  obtain ⟨μ, r, s, R0, L, h⟩ := h
  simp only [evI] at h
  cases hm : evE T.call T.G T.sub ca r s with
  | stuck => rw [hm] at h; exact h.elim
  | exc c s1 =>
    rw [hm] at h
    refine (pi_list (tg := tg) ha.pe).run pins s0 σ H R I ⟨μ, r, s, R0, L, ?_⟩
    rw [hm]
    exact h
  | ok x s1 =>
    rw [hm] at h
    simp only [Res.bind] at h
    cases x with
    | tup xs =>
      refine (pi_tup (tg := tg) ha.pe).run pins s0 σ H R I ⟨μ, r, s, R0, L, ?_⟩
      rw [hm]
      intro μ1 H1 le1 R1 v hv
      cases hv with
      | tup h1 h2 => exact ⟨_, rfl, ⟨_, h1.sq⟩, h μ1 H1 le1 R1 _ (wk_tup h1 h2)⟩
    | ref l =>
      simp only at h
      split at h
      · rename_i xs hc
        refine (pi_list (tg := tg) ha.pe).run pins s0 σ H R I ⟨μ, r, s, R0, L, ?_⟩
        rw [hm]
        intro μ1 H1 le1 R1 v hv
        cases hv with
        | ref q =>
          obtain ⟨vs, c1, _⟩ := R1.cellL q hc
          exact ⟨_, rfl, ⟨_, c1⟩, h μ1 H1 le1 R1 _ (wk_list q)⟩
      · exact h.elim
    | str z =>
      refine (pi_str (tg := tg) ha.pe).run pins s0 σ H R I ⟨μ, r, s, R0, L, ?_⟩
      rw [hm]
      intro μ1 H1 le1 R1 v hv
      cases hv with
      | str _ => exact ⟨z, rfl, h μ1 H1 le1 R1 _ wk_str⟩
    | _ => exact h.elim⟩⟩
theorem wk_range {K : PySem.W.Frag} {lo : Int} {n : Nat} {μ0 : List Addr} {H0 : Hp} : Wk K (Itr lo n) .free ((List.range n).map fun (i : Nat) => .int (lo + (i : Int))) μ0 H0 where
  go := fun i d μ H s le R hf hd => by
    rw [List.getElem?_map] at hd
    cases hc : (List.range n)[i]? with
    | none => rw [hc] at hd; cases hd
    | some c =>
      rw [hc] at hd
      cases hd
      have hi := (List.getElem?_eq_some_iff.mp hc).1
      have e : c = i := by
        rw [List.getElem?_eq_getElem hi, List.getElem_range] at hc
        exact (Option.some.inj hc).symm
      subst e
      rw [List.length_range] at hi
      refine ⟨hi, fun x H' hy => ?_⟩
      obtain ⟨rfl, rfl⟩ := hy
      exact ⟨Le.refl, R, .int _⟩
  stop := fun i μ H s le R hf hd => by
    rw [List.length_map, List.length_range] at hd
    exact hd
theorem si_range1 {p : Pos} (hm : X.mg "range" = none) (ha : SE T X ex W a ca) (hg : Gl X "range" := by rfl) (hs : starEach [a] X.env = [(false, eval a X.env)] := by rfl) : SI T X ex W tg (.Call (.Name "range" p) [a] [] pos) (.range1 ca) :=
  ⟨(pi_range1 hg hm (pa_cons ha.pe pa_nil hs) hs).imp fun σ H R h => by
    obtain ⟨μ, r, s, R0, L, h⟩ := h
    refine ⟨μ, r, s, R0, L, h.bind.map fun μ1 H1 s1 x le1 R1 h1 v hv => ?_⟩
    cases hv with
    | int n =>
      simp only at h1
      split at h1
      · rename_i hn
        exact ⟨n, rfl, hn.1, hn.2, h1.ok R1 _ wk_range⟩
      · exact h1.elim
    | _ => exact h1.elim⟩
theorem si_range2 {p : Pos} (hm : X.mg "range" = none) (ha : SE T X ex W a ca) (hb : SE T X ex W b cb) (hg : Gl X "range" := by rfl) (hs : starEach [a, b] X.env = [(false, eval a X.env), (false, eval b X.env)] := by rfl) (hs2 : starEach [b] X.env = [(false, eval b X.env)] := by rfl) :
    SI T X ex W tg (.Call (.Name "range" p) [a, b] [] pos) (.range2 ca cb) :=
  ⟨(pi_range2 hg hm (pa_cons ha.pe (pa_cons hb.pe pa_nil hs2) (by rw [hs, hs2])) hs hs2).imp fun σ H R h => by
    obtain ⟨μ, r, s, R0, L, h⟩ := h
    refine ⟨μ, r, s, R0, L, h.bind.map fun μ1 H1 s1 x le1 R1 h1 v hv => ?_⟩
    refine ⟨μ1, r, s1, R1, L.mono le1, h1.bind.map fun μ2 H2 s2 y le2 R2 h2 w hw => ?_⟩
    cases hv with
    | int m =>
      cases hw with
      | int n =>
        simp only at h2
        split at h2
        · rename_i hn
          exact ⟨m, n, rfl, ⟨hn.1.1, hn.1.2, hn.2.1, hn.2.2⟩, h2.ok R2 _ wk_range⟩
        · exact h2.elim
      | _ => exact h2.elim
    | _ => exact h2.elim⟩
theorem wk_rangeC {K : PySem.W.Frag} {lo c : Int} {n : Nat} {μ0 : List Addr} {H0 : Hp} : Wk K (Itc lo c n) .free ((List.range n).map fun (i : Nat) => .int (lo + (i : Int) * c)) μ0 H0 where
  go := fun i d μ H s le R hf hd => by
    rw [List.getElem?_map] at hd
    cases hc : (List.range n)[i]? with
    | none => rw [hc] at hd; cases hd
    | some c =>
      rw [hc] at hd
      cases hd
      have hi := (List.getElem?_eq_some_iff.mp hc).1
      have e : c = i := by
        rw [List.getElem?_eq_getElem hi, List.getElem_range] at hc
        exact (Option.some.inj hc).symm
      subst e
      rw [List.length_range] at hi
      refine ⟨hi, fun x H' hy => ?_⟩
      obtain ⟨rfl, rfl⟩ := hy
      exact ⟨Le.refl, R, .int _⟩
  stop := fun i μ H s le R hf hd => by
    rw [List.length_map, List.length_range] at hd
    exact hd
theorem si_range3 {c : Expr} {cc : CE} {p : Pos} (hm : X.mg "range" = none) (ha : SE T X ex W a ca) (hb : SE T X ex W b cb) (hc : SE T X ex W c cc) (hg : Gl X "range" := by rfl) (hs : starEach [a, b, c] X.env = (false, eval a X.env) :: starEach [b, c] X.env := by rfl) (hpl : (backTo pos (starEach [b, c] X.env)).any (·.1) = false := by rfl)
    (hs1 : starEach [b, c] X.env = (false, eval b X.env) :: starEach [c] X.env := by rfl) (hs2 : starEach [c] X.env = (false, eval c X.env) :: starEach [] X.env := by rfl) :
    SI T X ex W tg (.Call (.Name "range" p) [a, b, c] [] pos) (.range3 ca cb cc) :=
  ⟨(pi_range3 hg hm (pa_cons ha.pe (pa_cons hb.pe (pa_cons hc.pe pa_nil hs2) hs1) hs) hs hpl).imp fun σ H R h => by
    obtain ⟨μ, r, s, R0, L, h⟩ := h
    refine ⟨μ, r, s, R0, L, h.bind.map fun μ1 H1 s1 x le1 R1 h1 v hv => ?_⟩
    refine ⟨μ1, r, s1, R1, L.mono le1, h1.bind.map fun μ2 H2 s2 y le2 R2 h2 w hw => ?_⟩
    refine ⟨μ2, r, s2, R2, (L.mono le1).mono le2, h2.bind.map fun μ3 H3 s3 z le3 R3 h3 u hu => ?_⟩
    cases hv with
    | int m =>
      cases hw with
      | int n =>
        cases hu with
        | int d =>
          simp only at h3
          split at h3
          · rename_i hn
            obtain ⟨⟨q1, q2⟩, rfl⟩ := hn
            exact ⟨m, n, -1, _, rfl, .neg q1.1 q1.2 q2.1 q2.2, h3.ok R3 _ wk_rangeC⟩
          · exact h3.elim
        | _ => exact h3.elim
      | _ => exact h3.elim
    | _ => exact h3.elim⟩
theorem zip_get {α β : Type} : ∀ {xs : List α} {ys : List β} {i : Nat} {p : α × β}, (xs.zip ys)[i]? = some p → xs[i]? = some p.1 ∧ ys[i]? = some p.2
  | [], _, _, _, h => by simp at h
  | _ :: _, [], _, _, h => by simp at h
  | x :: xs, y :: ys, 0, p, h => by
    have e := Option.some.inj h
    subst e
    exact ⟨rfl, rfl⟩
  | x :: xs, y :: ys, i + 1, p, h => zip_get (xs := xs) (ys := ys) (i := i) h
theorem wk_rev {K : PySem.W.Frag} {a : Addr} {vs : List V} {xs : List DV} {μ0 : List Addr} {H0 : Hp} (h1 : TupP K H0 a vs) (h2 : VRs K μ0 H0 vs xs) : Wk K (ItvT K a vs.length) .free xs.reverse μ0 H0 where
  go := fun i d μ H s le R hf hd => by
    have hlt := (List.getElem?_eq_some_iff.mp hd).1
    rw [List.length_reverse] at hlt
    rw [List.getElem?_reverse hlt] at hd
    obtain ⟨v, hv, rv⟩ := (h2.mono le).get hd
    have hl := h2.length
    rw [← hl] at hv hlt
    refine ⟨⟨hlt, vs, v, (le.tup _ _ h1).sq, hv⟩, fun x H' hy => ?_⟩
    obtain ⟨rfl, hx⟩ := hy
    have e := hx vs ((le.tup _ _ h1).sq)
    rw [hv] at e
    cases e
    exact ⟨Le.refl, R, rv⟩
  stop := fun i μ H s le R hf hd => by
    rw [List.length_reverse, ← h2.length] at hd
    exact hd
theorem si_rev {p : Pos} (hm : X.mg "reversed" = none) (ha : SE T X ex W a ca) (hg : Gl X "reversed" := by rfl) (hs : starEach [a] X.env = (false, eval a X.env) :: starEach [] X.env := by rfl) : SI T X ex W tg (.Call (.Name "reversed" p) [a] [] pos) (.rev ca) :=
  ⟨(pi_revA hg hm ha.pe hs).imp fun σ H R h => by
    obtain ⟨μ, r, s, R0, L, h⟩ := h
    refine ⟨μ, r, s, R0, L, h.bind.map fun μ1 H1 s1 x le1 R1 h1 v hv => ?_⟩
    cases hv with
    | tup q1 q2 => exact ⟨_, _, rfl, .inr ⟨q1.sq, h1.ok R1 _ (wk_rev q1 q2)⟩⟩
    | _ => exact h1.elim⟩
end
end Ip
end PtIpStmt
section PtIpEnum
set_option Elab.async false
set_option linter.all false
set_option maxRecDepth 100000
/-! enumerate of tuples and texts: each pair a new tuple that is known to have no dict -/
namespace Ip
open PySem PySem.Spec PyProof.Rows L2
/-- (k, x), (k + 1, y), .. of xs, as long as S holds -/
def Itn (S : Hp → Prop) (xs : List V) (k : Int) : It where
  go := fun i H => S H ∧ i < xs.length
  yld := fun i H v H' => ∃ p o x, v = .ref p ∧ H p = none ∧ o.dict = none ∧ H' = upd H p (.frz o (.tup [.int (k + (i : Nat)), x])) ∧ xs[i]? = some x
  stop := fun i H => S H ∧ xs.length ≤ i
/-- what an iterator draws while S holds -/
structure Dra (P : Program) (w : World) (K : PySem.W.Frag) (S : Hp → Prop) (xs : List V) (e it : Addr) (cell : Nat → Heap → Prop) : Prop where
  ob : ∀ i h, cell i h → ∃ o, h.get? it = some o ∧ ∀ v, o.data ≠ .cell v
  kp : ∀ i h h', cell i h → (∀ o, h.get? it = some o → h'.get? it = some o) → cell i h'
  dr : ∀ (X : Cx) (pins : List (Addr × Obj)) (σ : L2.St) (H : Hp) (s : Shared) (i : Nat) (c : Int) (old : Value), X.prog = P → X.w = w → X.K = K → X.calm = true → Inv X pins σ H s → S H → cell i s.heap → IsEnum s.heap e it c old →
    ∃ (fp : List Addr) (Pv : Nat → Value → Prop) (St : Nat → Heap → Prop), Draws P w X.A.in1 it fp xs.length Pv St ∧ St i s.heap ∧ e ∉ fp ∧ (∀ j v, Pv j v → ∃ x, xs[j]? = some x ∧ RelV x v) ∧ ∀ j h, St j h → cell j h
theorem turn_en {P : Program} {w : World} {K : PySem.W.Frag} {S : Hp → Prop} {xs : List V} {e it : Addr} {cell : Nat → Heap → Prop} {elts : List Expr} {kk : Nat} {tpos : Pos} (k : Int) (D : Dra P w K S xs e it cell) :
    Turn P w K (.Tuple elts kk tpos) (Itn S xs k) [e, it] e (fun i h => ∃ old, IsEnum h e it (k + (i : Nat)) old ∧ cell i h ∧ e ≠ it ∧ i ≤ xs.length) where
  mem := List.mem_cons_self
  obj := fun i h st b hb => by
    obtain ⟨old, a1, a2, a3, a4⟩ := st
    rcases List.mem_cons.mp hb with rfl | hb
    · exact ⟨_, a1, fun _ z => nomatch z⟩
    · rw [List.mem_singleton.mp hb]
      exact D.ob i h a2
  keep := fun i h h' st kp => by
    obtain ⟨old, a1, a2, a3, a4⟩ := st
    exact ⟨old, kp e List.mem_cons_self _ a1, D.kp i h h' a2 fun o q => kp it (List.mem_cons_of_mem _ (List.mem_singleton.mpr rfl)) o q, a3, a4⟩
  item := by
    rintro X rfl rfl rfl calm i pins s σ H E I fr st ⟨hS, hi⟩
    obtain ⟨old, a1, a2, a3, a4⟩ := st
    obtain ⟨fp, Pv, St, dd, d1, d2, d3, d4⟩ := D.dr X pins σ H s i _ old rfl rfl rfl calm I hS a2 a1
    apply wpAny_pyNext_enum_itemC dd a1 d1 hi a3 d2
    intro v h1 tk pv ho st1 hT hsz kp
    refine ⟨_, rfl, ?_⟩
    apply wpAny_letOwnedTupleGo_enum (s := { s with heap := h1, toks := tk + 1 }) ho
    intro h2 he2 sb
    obtain ⟨x, hx, rx⟩ := d3 i v pv
    have le := Heap.lt_size a1
    have li : it < s.heap.objs.size := by
      obtain ⟨_, q, _⟩ := D.ob i _ a2
      exact Heap.lt_size q
    have hN : h2.get? s.heap.objs.size = some (tupO [.int (k + (i : Nat)) tk, v]) := by
      rw [sb.2 _ (Nat.ne_of_gt le)]
      exact hT
    have ok : ObjOk X.prog X.w (upd H s.heap.objs.size (.frz (tupO [.int (k + (i : Nat)) tk, v]) (.tup [.int (k + (i : Nat)), x]))) h2 s.heap.objs.size (.frz (tupO [.int (k + (i : Nat)) tk, v]) (.tup [.int (k + (i : Nat)), x])) :=
      ⟨hN, (by decide : 2 ≤ sizeLine), [.int (k + (i : Nat)) tk, v], .cons ⟨_, rfl⟩ (.cons rx .nil), _, hN, rfl, _, rfl⟩
    have out : ∀ b, b ∉ [e, it] → b ≠ e ∧ b ≠ it := fun b hb => ⟨fun z => hb (z ▸ List.mem_cons_self), fun z => hb (z ▸ List.mem_cons_of_mem _ (List.mem_singleton.mpr rfl))⟩
    have I2 := I.turnedNew (t' := tk + 1) (ch := [e, it]) (h' := h2) (fun b ob hb q => by
      obtain ⟨n1, n2⟩ := out b hb
      rw [sb.2 b n1]
      exact kp b ob n1 n2 q) fr (Nat.le_refl _) ok
    have nn := I.hok.fresh (Nat.le_refl s.heap.objs.size)
    refine ⟨.ref s.heap.objs.size, _, I2, rfl, ⟨_, _, x, rfl, nn, rfl, rfl, hx⟩, ⟨v, ?_, ?_, a3, hi⟩, fun b hb => ?_⟩
    · have q : k + ((i + 1 : Nat) : Int) = k + (i : Nat) + 1 := by omega
      rw [q]
      exact he2
    · exact D.kp _ _ _ (d4 _ _ st1) fun o q => by rw [sb.2 it (Ne.symm a3)]; exact q
    · have lb : b < s.heap.objs.size := by
        rcases List.mem_cons.mp hb with rfl | hb
        · exact le
        · rw [List.mem_singleton.mp hb]
          exact li
      rw [upd_ne (Nat.ne_of_lt lb)]
      exact (fr b hb).1
  done := by
    rintro X rfl rfl rfl calm i pins s σ H E I fr st ⟨hS, hi⟩
    obtain ⟨old, a1, a2, a3, a4⟩ := st
    obtain ⟨fp, Pv, St, dd, d1, d2, d3, d4⟩ := D.dr X pins σ H s i _ old rfl rfl rfl calm I hS a2 a1
    have q : i = xs.length := Nat.le_antisymm a4 hi
    subst q
    apply wpAny_pyNext_enum_endD dd a1 d1
    intro h1 eb
    obtain ⟨f0, f1, f2, f3, f4, f5⟩ := fr it (List.mem_cons_of_mem _ (List.mem_singleton.mpr rfl))
    exact ⟨rfl, I.turned (t' := s.toks) (fun b o hb z => eb b o hb z) f0 f1 f3 f4 f5⟩
  self := fun A i s Q E st h => by
    obtain ⟨old, a1, _⟩ := st
    exact wpAny_pyIter_enum a1 h
/-! ### the two sources -/
theorem dra_tup {P : Program} {w : World} {K : PySem.W.Frag} {xs : List V} {a e it : Addr} (ne : a ≠ it) : Dra P w K (fun H => SqT K H a xs) xs e it (fun i h => h.IsTupleIter it a i) where
  ob := fun i h c => by
    obtain ⟨o, q, _, d⟩ := c
    exact ⟨o, q, fun v z => by rw [d] at z; cases z⟩
  kp := fun i h h' c kp => c.at kp
  dr := by
    rintro X pins σ H s i c old rfl rfl rfl calm I hS hc he
    obtain ⟨us, rv, pt, _⟩ := I.tuple hS
    have calm2 : X.A.in1.handled = none := by simp [I.ok.hd calm]
    have len : us.toArray.size = xs.length := by rw [List.size_toArray, rv.length]
    have dd := Draws.tuple (prog := X.prog) (w := X.w) calm2 it a ne us.toArray
    rw [len] at dd
    refine ⟨_, _, _, dd, ⟨hc, pt⟩, fun hm => ?_, fun j v hv => ?_, fun j h q => q.1⟩
    · rcases List.mem_cons.mp hm with rfl | hm
      · obtain ⟨o, q, c1, _⟩ := hc
        rw [he] at q
        cases q
        exact absurd (show Value.type "enumerate" = Value.type "tuple_iterator" from c1) (by decide)
      · rw [List.mem_singleton.mp hm] at he
        obtain ⟨o, q, c1, _⟩ := pt
        rw [he] at q
        cases q
        exact absurd (show Value.type "enumerate" = Value.type "tuple" from c1) (by decide)
    · have hv : us[j]? = some v := by simpa using hv
      have lt : j < xs.length := by
        rw [rv.length]
        exact (List.getElem?_eq_some_iff.mp hv).1
      obtain ⟨u, hu, r⟩ := rv.get (List.getElem?_eq_getElem lt)
      rw [hv] at hu
      cases hu
      exact ⟨_, List.getElem?_eq_getElem lt, r⟩
theorem dra_txt {P : Program} {w : World} {K : PySem.W.Frag} {z : Str} {t : Tok} {e it : Addr} : Dra P w K (fun _ => True) (z.cps.toList.map fun c => V.str ⟨#[c]⟩) e it (fun i h => h.IsStrIter it (strIterType z) z t i) where
  ob := fun i h c => by
    obtain ⟨o, q, _, d⟩ := c
    exact ⟨o, q, fun v z => by rw [d] at z; cases z⟩
  kp := fun i h h' c kp => by
    obtain ⟨o, q, r⟩ := c
    exact ⟨o, kp o q, r⟩
  dr := by
    rintro X pins σ H s i c old rfl rfl rfl calm I hS hc he
    have calm2 : X.A.in1.handled = none := by simp [I.ok.hd calm]
    have dd := Draws.text (prog := X.prog) (w := X.w) calm2 it z t
    rw [show z.cps.size = (z.cps.toList.map fun c => V.str ⟨#[c]⟩).length by rw [List.length_map, Array.length_toList]] at dd
    refine ⟨_, _, _, dd, hc, fun hm => ?_, fun j v hv => ?_, fun j h q => q⟩
    · rw [List.mem_singleton.mp hm] at he
      obtain ⟨o, q, c1, _⟩ := hc
      rw [he] at q
      cases q
      unfold strIterType at c1
      split at c1
      · exact absurd (show Value.type "enumerate" = Value.type "str_ascii_iterator" from c1) (by decide)
      · exact absurd (show Value.type "enumerate" = Value.type "str_iterator" from c1) (by decide)
    · obtain ⟨n, u, q, rfl⟩ := hv
      refine ⟨.str ⟨#[n]⟩, ?_, u, rfl⟩
      rw [List.getElem?_map, Array.getElem?_toList, q]
      rfl
/-! ### the call -/
set_option maxHeartbeats 1000000 in
theorem en_new {v : Value} {o : Obj} {Hh : Heap → Prop} (B : Begins v o Hh) : Meets (Builtin.«enumerate.__new__» ⟨[.type "enumerate", v], []⟩) fun _ R s => Hh s.heap ∧
    R (.ok (.ret (.ref (s.heap.push o).objs.size))) { s with heap := (s.heap.push o).push { cls := .type "enumerate", data := .fields #[.none, .bool false, .ref s.heap.objs.size, rawInt 0, .none, .none] } } :=
  .of_wp fun P w A R s q => by
    obtain ⟨hp, g, d, tk, os⟩ := s
    obtain ⟨q0, q⟩ := q
    have sb := sub_enumerate
    have st : ∀ {A' : Around} {E : Value → Shared → Prop} {Q : Value → Shared → Prop}, Q (.ref hp.objs.size) ⟨hp.push o, g, d, tk, os⟩ → wpAny (model P w) A' (pyIter v) Q E ⟨hp, g, d, tk, os⟩ := fun z => B.iter P w _ _ ⟨hp, g, d, tk, os⟩ _ q0 z
    wp_walk using st
    refine wpAny_stack_any fun sk => wpAny_pure ?_
    split
    · rename_i c0 _ _ _ _ _
      generalize (c0 == Value.type "enumerate") = b
      cases b
      · wp_walk using st
        exact ⟨_, rfl, q⟩
      · wp_walk using st
        exact ⟨_, rfl, q⟩
    · wp_walk using st
      exact ⟨_, rfl, q⟩
section
variable {prog : Program} {w : World} {A : Around} {E : Value → Shared → Prop} {s : Shared}
theorem en_call {v : Value} {o : Obj} {Hh : Heap → Prop} {Q : Value → Shared → Prop} (B : Begins v o Hh) (q0 : Hh s.heap)
    (q : ∀ h2, IsEnum h2 (s.heap.objs.size + 1) s.heap.objs.size 0 .none → h2.get? s.heap.objs.size = some o → (∀ b u, s.heap.get? b = some u → h2.get? b = some u) → Q (.ref (s.heap.objs.size + 1)) { s with heap := h2 }) :
    wpAny (model prog w) A (call (.type "enumerate") [v]) Q E s := by
  have g1 := F.newCall_enumerate_1 v
  have g2 := F.typeCall_enumerate_1 v
  refine callType_new F.called_enumerate (by decide) g2 g1 (fun x => F.args_object_init_2 x _) F.entry_enumerate_new (en_new B) ⟨q0, ?_⟩
  have sz : (s.heap.push o).objs.size = s.heap.objs.size + 1 := Heap.size_push ..
  show _ ∧ _
  rw [sz]
  have at1 := Heap.get?_push_size (s.heap.push o) (o := { cls := .type "enumerate", data := .fields #[.none, .bool false, .ref s.heap.objs.size, rawInt 0, .none, .none] }) rfl
  rw [sz] at at1
  exact ⟨⟨_, at1, rfl⟩, q _ at1 (Heap.get?_push_of_some _ (Heap.get?_push_size _ B.free)) fun b u z => Heap.get?_push_of_some _ (Heap.get?_push_of_some _ z)⟩
end
/-! ### the rules -/
section
variable {T : Tb} {X : Cx} {ex : Option (Addr × Nat)} {W : WX} {a : Expr} {ca : CE} {pos p tpos : Pos} {elts : List Expr} {kk : Nat}
/-- what enumerate takes: a tuple, a text -/
def iEn (K : PySem.W.Frag) (k : Int) (ta : TE) : TI := fun σ H R => ta σ H fun v H1 => (∃ l xs, v = .ref l ∧ SqT K H1 l xs ∧ R (Itn (fun H => SqT K H l xs) xs k) H1) ∨ ∃ z, v = .str z ∧ R (Itn (fun _ => True) (z.cps.toList.map fun c => V.str ⟨#[c]⟩) k) H1
theorem en_pie {pins : List (Addr × Obj)} {σ : L2.St} {H : Hp} {s : Shared} {R : It → Hp → Prop} {S : Hp → Prop} {xs : List V} {cell : Nat → Heap → Prop} {h2 : Heap} {k : Int} (I : Inv X pins σ H s) (he : IsEnum h2 (s.heap.objs.size + 1) s.heap.objs.size k .none)
    (kp : ∀ b u, s.heap.get? b = some u → h2.get? b = some u) (c0 : cell 0 h2) (D : Dra X.prog X.w X.K S xs (s.heap.objs.size + 1) s.heap.objs.size cell) (q : R (Itn S xs k) H) : PIE X pins σ (.Tuple elts kk tpos) R (.ref (s.heap.objs.size + 1)) { s with heap := h2 } := by
  have I2 := I.kept (t' := s.toks) kp
  refine ⟨_, _, _, _, H, rfl, I2, turn_en k D, ⟨.none, ?_, c0, Nat.succ_ne_self _, Nat.zero_le _⟩, fun b hb => ?_, q⟩
  · rw [show k + ((0 : Nat) : Int) = k from Int.add_zero k]
    exact he
  · have ge : s.heap.objs.size ≤ b := by
      rcases List.mem_cons.mp hb with rfl | hb
      · exact Nat.le_succ _
      · rw [List.mem_singleton.mp hb]
        exact Nat.le_refl _
    exact I.fpOk ge (I.hok.fresh ge)
theorem pi_en {ta : TE} (hg : Gl X "enumerate") (hm : X.mg "enumerate" = none) (ha : PE X a ta) (hs : starEach [a] X.env = (false, eval a X.env) :: starEach [] X.env := by rfl) : PI X (.Tuple elts kk tpos) (.Call (.Name "enumerate" p) [a] [] pos) (iEn X.K 0 ta) := by
  refine ⟨fun pins s σ H R I h => Call_ (ld_blt I hg hm boot_enumerate (PyProof.Rows.callWith_type1 (PyProof.Rows.args_cons (thn (ha.run pins s σ H _ I h) fun v s1 q => PyProof.Rows.args_nil ?_) hs) hs rfl))⟩
  obtain ⟨x, H1, I1, rx, q⟩ := q
  rcases q with ⟨l, xs, rfl, hq, q⟩ | ⟨z, rfl, q⟩
  · cases rx
    obtain ⟨us, rv, pt, _⟩ := I1.tuple hq
    refine en_call (begins_tuple l us.toArray) pt fun h2 he hi kp => wpAny_pyIter_enum he ?_
    have ne : l ≠ s1.heap.objs.size := by
      obtain ⟨_, e, _⟩ := pt
      exact Nat.ne_of_lt (Heap.lt_size e)
    exact en_pie I1 he kp ⟨_, hi, rfl, rfl⟩ (dra_tup ne) q
  · obtain ⟨t, rfl⟩ := rx
    exact en_call (begins_text z t) trivial fun h2 he hi kp => wpAny_pyIter_enum he (en_pie I1 he kp ⟨_, hi, rfl, rfl⟩ dra_txt q)
theorem wk_en {K : PySem.W.Frag} {S : Hp → Prop} {vs : List V} {xs : List DV} {k : Int} {μ0 : List Addr} {H0 : Hp} (hS : ∀ μ H, Le K μ0 H0 μ H → S H) (hv : VRs K μ0 H0 vs xs) :
    Wk K (Itn S vs k) .free (xs.mapIdx fun i x => .tup [.int (k + (i : Nat)), x]) μ0 H0 where
  go := fun i d μ H s le R hf hd => by
    rw [List.getElem?_mapIdx] at hd
    cases hx : xs[i]? with
    | none => rw [hx] at hd; cases hd
    | some x =>
      rw [hx] at hd
      cases hd
      obtain ⟨v, q, r⟩ := (hv.mono le).get hx
      refine ⟨⟨hS μ H le, (List.getElem?_eq_some_iff.mp q).1⟩, fun y H' hy => ?_⟩
      obtain ⟨p, o, u, rfl, hp, ho, rfl, hu⟩ := hy
      rw [q] at hu
      cases hu
      have l := le_upd (K := K) (μ := μ) (o := .frz o (.tup [.int (k + (i : Nat)), v])) hp
      exact ⟨l, R.upd hp, .tup (TupP.of upd_same ho) (.cons (.int _) (.cons (r.mono l) .nil))⟩
  stop := fun i μ H s le R hf hd => by
    rw [List.length_mapIdx, ← hv.length] at hd
    exact ⟨hS μ H le, hd⟩
theorem signs_vr {K : PySem.W.Frag} {μ : List Addr} {H : Hp} : ∀ l : List Nat, VRs K μ H (l.map fun c => V.str ⟨#[c]⟩) (l.map fun c => DV.str ⟨#[c]⟩)
  | [] => .nil
  | c :: l => .cons (.str _) (signs_vr l)
theorem si_enum (hm : X.mg "enumerate" = none) (ha : SE T X ex W a ca) (hg : Gl X "enumerate" := by rfl) (hs : starEach [a] X.env = (false, eval a X.env) :: starEach [] X.env := by rfl) :
    SI T X ex W (.Tuple elts kk tpos) (.Call (.Name "enumerate" p) [a] [] pos) (.enum ca) :=
  ⟨(pi_en hg hm ha.pe hs).imp fun σ H R h => by
    obtain ⟨μ, r, s, R0, L, h⟩ := h
    refine ⟨μ, r, s, R0, L, h.bind.map fun μ1 H1 s1 x le1 R1 h1 v hv => ?_⟩
    cases hv with
    | tup q1 q2 => exact .inl ⟨_, _, rfl, q1.sq, h1.ok R1 _ (wk_en (fun μ H le => (le.tup _ _ q1).sq) q2)⟩
    | str z =>
      refine .inr ⟨z, rfl, h1.ok R1 _ ?_⟩
      exact wk_en (fun _ _ _ => trivial) (signs_vr _)
    | _ => exact h1.elim⟩
end
end Ip
end PtIpEnum
section PtIpStmt2
set_option Elab.async false
set_option linter.all false
set_option maxRecDepth 100000
namespace Ip
open PySem PySem.Spec PyProof.Rows L2

section
variable {T : Tb} {X : Cx} {ex : Option (Addr × Nat)} {W : WX} {a b c e tg : Expr} {ca cb cc ce : CE} {pos : Pos} {es rest : List Expr} {ct : CT} {ci : CI} {st : Stmt} {sts sts2 : List Stmt} {cs : CS} {css css2 : CSs}

theorem sss_nil : SSs T X ex W [] .nil := ⟨pss_nil.imp fun D σ H h => by
  obtain ⟨μ, r, s, R, L, h⟩ := h
  exact h μ H σ Le.refl R L⟩
theorem sss_cons (h1 : SS T X ex W st cs) (h2 : SSs T X ex W sts css) : SSs T X ex W (st :: sts) (.cons cs css) := ⟨(pss_cons h1.ps h2.ps).imp fun D σ H h => by
  obtain ⟨μ, r, s, R, L, h⟩ := h
  refine ⟨μ, r, s, R, L, ?_⟩
  simp only [evSs] at h
  cases hm : evS T.call T.G T.sub cs r s with
  | nx r1 s1 =>
    rw [hm] at h
    exact fun μ' H' σ' le R' L' => ⟨μ', r1, s1, R', L', GoS.later (o := evSs T.call T.G T.sub css r1 s1) h le⟩
  | rt v s1 => rw [hm] at h; exact h
  | bk r1 s1 => rw [hm] at h; exact h
  | ct r1 s1 => rw [hm] at h; exact h
  | exc c r1 s1 => rw [hm] at h; exact h
  | stuck => rw [hm] at h; exact h⟩
theorem ss_asg (he : SE T X ex W e ce) (hg : SG T X ex tg ct) (hs : swapsWithSole [tg] e pos.line X.env = pure false := by rfl) (hw : swappedStores [tg] e X.env = pure none := by rfl)
    (h1 : (assignEach [tg] X.env).map (·.2) = [assign tg X.env] := by rfl) : SS T X ex W (.Assign [tg] e pos) (.asg ct ce) := ⟨(ps_asg he.pe hg.pg hs hw h1).imp fun D σ H h => by
  obtain ⟨μ, r, s, R, L, h⟩ := h
  refine ⟨μ, r, s, R, L, ?_⟩
  simp only [evS] at h
  cases hm : evE T.call T.G T.sub ce r s with
  | ok v s1 =>
    rw [hm] at h
    simp only [Res.out] at h
    intro μ1 H1 le1 R1 x hx
    refine ⟨μ1, r, s1, v, R1, L.mono le1, hx, ?_⟩
    cases hn : evT T.call T.G T.sub ct v r s1 with
    | ok r2 s2 =>
      rw [hn] at h
      exact fun μ2 H2 le2 R2 σ2 L2 => h μ2 H2 σ2 (le1.trans le2) R2 L2
    | exc c s2 => exact absurd hn (evT_noexc _ _ _ _ _ _)
    | stuck => rw [hn] at h; exact h
  | exc c s1 =>
    rw [hm] at h
    exact fun μ' H' le R' => h μ' H' σ le R' (L.mono le)
  | stuck => rw [hm] at h; exact h⟩
theorem ss_par {i j : Nat} {x y : Str} {px py pt : Pos} {kt k2 : Nat} {pt2 : Pos} (hc : X.calm = true) (hN : X.N.Nodup) (ha : SE T X ex W a ca) (hb : SE T X ex W b cb) (hi : X.N[i]? = some x := by rfl) (hj : X.N[j]? = some y := by rfl) (hij : i ≠ j := by decide)
    (hx : X.env.scope.names.lookup x = some .local := by rfl) (hy : X.env.scope.names.lookup y = some .local := by rfl) (hst : starEach [a, b] X.env = (false, eval a X.env) :: starEach [b] X.env := by rfl) (hst2 : starEach [b] X.env = (false, eval b X.env) :: starEach [] X.env := by rfl)
    (hw : swappedStores [.Tuple [.Name x px, .Name y py] kt pt] (.Tuple [a, b] k2 pt2) X.env = pure (some [x, y]) := by rfl)
    (hs : swapsWithSole [.Tuple [.Name x px, .Name y py] kt pt] (.Tuple [a, b] k2 pt2) pos.line X.env = pure false := by rfl) :
    SS T X ex W (.Assign [.Tuple [.Name x px, .Name y py] kt pt] (.Tuple [a, b] k2 pt2) pos) (.par i j ca cb) := ⟨(ps_par hc hN hi hj hij hx hy (pa_cons ha.pe (pa_cons hb.pe pa_nil hst2) hst) hw hs).imp fun D σ H h => by
  obtain ⟨μ, r, s, R, L, h⟩ := h
  refine ⟨μ, r, s, R, L, ?_⟩
  simp only [evS] at h
  cases hm : evE T.call T.G T.sub ca r s with
  | ok v s1 =>
    rw [hm] at h
    simp only [Res.out] at h
    intro μ1 H1 le1 R1 x1 hx1
    refine ⟨μ1, r, s1, R1, L.mono le1, ?_⟩
    cases hn : evE T.call T.G T.sub cb r s1 with
    | ok w s2 =>
      rw [hn] at h
      simp only at h
      split at h
      · exact fun μ2 H2 le2 R2 y1 hy1 => ⟨x1, y1, rfl, h μ2 H2 _ (le1.trans le2) R2 ((((L.mono le1).mono le2).set (hx1.mono le2)).set hy1)⟩
      · exact h.elim
    | exc c s2 =>
      rw [hn] at h
      exact fun μ' H' le R' => h μ' H' σ (le1.trans le) R' ((L.mono le1).mono le)
    | stuck => rw [hn] at h; exact h
  | exc c s1 =>
    rw [hm] at h
    exact fun μ' H' le R' => h μ' H' σ le R' (L.mono le)
  | stuck => rw [hm] at h; exact h⟩
/-! ### op= of ints -/
def rA (K : PySem.W.Frag) (op : BOp) : R2 := fun x y H Q => ∃ μ s d e Wn, Rel K μ H s ∧ VR K μ H x d ∧ VR K μ H y e ∧ Go K μ H (augV op d e s) Wn (fun μ' H' _ z => ∀ v, VR K μ' H' v z → Q v H')
theorem iop_sound (op : BOp) (ho : op = .add ∨ op = .sub) : PIp X (bopOf op) (rA X.K op) := by
  intro pins s σ H x y v u Q I rx ry h
  obtain ⟨μ, s0, d, e, Wn, R, hx, hy, h⟩ := h
  rcases ho with rfl | rfl
  · cases hx with
    | int i =>
      cases hy with
      | int j => exact iop_add pins s σ H _ _ v u Q I rx ry ⟨i, j, rfl, rfl, h.ok R _ (.int _)⟩
      | _ => exact h.elim
    | str i =>
      cases hy with
      | str j =>
        simp only [augV] at h
        split at h
        · rename_i hm
          exact iop_add_str pins s σ H _ _ v u Q I rx ry ⟨i, j, rfl, rfl, hm, h.ok R _ (.str _)⟩
        · exact h.elim
      | _ => exact h.elim
    | _ => cases hy <;> exact h.elim
  · cases hx with
    | int i =>
      cases hy with
      | int j => exact iop_sub pins s σ H _ _ v u Q I rx ry ⟨i, j, rfl, rfl, h.ok R _ (.int _)⟩
      | _ => exact h.elim
    | _ => cases hy <;> exact h.elim
theorem ss_aug (i : Nat) (op : BOp) {x : Str} {pos' : Pos} (hN : X.N.Nodup) (ho : op = .add ∨ op = .sub) (he : SE T X ex W e ce) (hi : X.N[i]? = some x := by rfl) (hx : L2.Loc X.env.scope x := by first | exact Or.inl rfl | exact Or.inr rfl)
    (hf : X.fn x = true ∨ X.env.scope.names.lookup x = some .local := by first | exact .inl rfl | exact .inr rfl) : SS T X ex W (.AugAssign (.Name x pos') (bopOf op) e pos) (.aug i op ce) := ⟨(ps_aug hN hi hx he.pe (iop_sound op ho) hf).imp fun D σ H h => by
  obtain ⟨μ, r, s, R, L, h⟩ := h
  simp only [evS] at h
  cases hr : r[i]? with
  | none => rw [hr] at h; exact h.elim
  | some o =>
    rw [hr] at h
    cases o with
    | none => exact h.elim
    | some d =>
      rcases L.at_ i d hr with ⟨v, h1, h2⟩ | ⟨_, c, h1, _⟩
      · refine ⟨v, h1, μ, r, s, R, L, ?_⟩
        have h' : GoS T X.K ex W μ H ((evE T.call T.G T.sub ce r s).out r fun y s => (augV op d y s).out r fun z s => .nx (r.set i (some z)) s) D := by
          cases h2 <;> exact h
        clear h
        cases hm : evE T.call T.G T.sub ce r s with
        | ok y s1 =>
          rw [hm] at h'
          simp only [Res.out] at h'
          intro μ1 H1 le1 R1 w hw
          refine ⟨μ1, s1, d, y, fun _ _ => False, R1, h2.mono le1, hw, ?_⟩
          cases hn : augV op d y s1 with
          | ok z s2 =>
            rw [hn] at h'
            exact fun μ2 H2 le2 R2 u hu => h' μ2 H2 _ (le1.trans le2) R2 (((L.mono le1).mono le2).set hu)
          | exc c s2 =>
            exfalso
            unfold augV at hn
            split at hn <;> (try split at hn) <;> cases hn
          | stuck => rw [hn] at h'; exact h'
        | exc c s1 =>
          rw [hm] at h'
          exact fun μ' H' le R' => h' μ' H' σ le R' (L.mono le)
        | stuck => rw [hm] at h'; exact h'
      · subst h1
        exact h.elim⟩
theorem ss_if (hc : ST T X ex W c cc) (ha : SSs T X ex W sts css) (hb : SSs T X ex W sts2 css2) : SS T X ex W (.If c sts sts2 pos) (.ife cc css css2) := ⟨(ps_if hc.pt ha.ps hb.ps).imp fun D σ H h => by
  obtain ⟨μ, r, s, R, L, h⟩ := h
  refine ⟨μ, r, s, R, L, ?_⟩
  simp only [evS] at h
  cases hm : evE T.call T.G T.sub cc r s with
  | ok v s1 =>
    rw [hm] at h
    simp only [Res.out, Res.bind] at h ⊢
    cases ht : truth v s1 with
    | ok k s2 =>
      rw [ht] at h
      intro μ1 H1 le1 R1
      cases k with
      | true => exact ⟨μ1, r, s2, R1, L.mono le1, GoS.later (o := evSs T.call T.G T.sub css r s2) h le1⟩
      | false => exact ⟨μ1, r, s2, R1, L.mono le1, GoS.later (o := evSs T.call T.G T.sub css2 r s2) h le1⟩
    | exc c s2 => exact absurd ht truth_noexc
    | stuck => rw [ht] at h; exact h.elim
  | exc c s1 =>
    rw [hm] at h
    exact fun μ' H' le R' => h μ' H' σ le R' (L.mono le)
  | stuck => rw [hm] at h; exact h⟩
theorem ss_ret (he : SE T X ex W e ce) : SS T X ex W (.Return (some e) pos) (.ret ce) := ⟨(ps_ret he.pe).imp fun D σ H h => by
  obtain ⟨μ, r, s, R, L, h⟩ := h
  refine ⟨μ, r, s, R, L, ?_⟩
  simp only [evS] at h
  cases hm : evE T.call T.G T.sub ce r s with
  | ok v s1 =>
    rw [hm] at h
    exact fun μ' H' le R' u hu => h μ' H' u le R' hu
  | exc c s1 =>
    rw [hm] at h
    exact fun μ' H' le R' => h μ' H' σ le R' (L.mono le)
  | stuck => rw [hm] at h; exact h⟩
theorem ss_retN : SS T X ex W (.Return none pos) .retN := ⟨ps_retN.imp fun D σ H h => by
  obtain ⟨μ, r, s, R, L, h⟩ := h
  exact h μ H .non Le.refl R .non⟩
theorem ss_drop (he : SE T X ex W e ce) (hs : swapsWith e none pos.line X.env = pure false := by rfl) : SS T X ex W (.Expr e pos) (.drop ce) := ⟨(ps_expr he.pe hs).imp fun D σ H h => by
  obtain ⟨μ, r, s, R, L, h⟩ := h
  refine ⟨μ, r, s, R, L, ?_⟩
  simp only [evS] at h
  cases hm : evE T.call T.G T.sub ce r s with
  | ok v s1 =>
    rw [hm] at h
    exact fun μ' H' le R' u hu => h μ' H' σ le R' (L.mono le)
  | exc c s1 =>
    rw [hm] at h
    exact fun μ' H' le R' => h μ' H' σ le R' (L.mono le)
  | stuck => rw [hm] at h; exact h⟩
theorem ss_pass : SS T X ex W (.Pass pos) .pass := ⟨ps_pass.imp fun D σ H h => by
  obtain ⟨μ, r, s, R, L, h⟩ := h
  exact h μ H σ Le.refl R L⟩
theorem ss_brk : SS T X ex W (.Break pos) .brk := ⟨ps_break.imp fun D σ H h => by
  obtain ⟨μ, r, s, R, L, h⟩ := h
  exact h μ H σ Le.refl R L⟩
theorem ss_cont : SS T X ex W (.Continue pos) .cont := ⟨ps_continue.imp fun D σ H h => by
  obtain ⟨μ, r, s, R, L, h⟩ := h
  exact h μ H σ Le.refl R L⟩

/-! ### loops -/
theorem for_sound {J : It} {f : Src} {ds : List DV} {μ0 : List Addr} {H0 : Hp} {g : TG} {tb : TS} {D : Ends} {body : DV → Loc → Store → Out} {σ : L2.St} {r : Loc} {s : Store} (K : PySem.W.Frag) (wk : Wk K J f ds μ0 H0)
    (hb : ∀ (D' : Ends) (μ : List Addr) (H : Hp) (σ : L2.St) (r : Loc) (s : Store) (x : V) (d : DV), Rel K μ H s → LR K ex μ H σ r → VR K μ H x d → GoS T K ex W μ H (body d r s) D' → g x σ H fun σ2 H2 => tb D' σ2 H2)
    (R : Rel K μ0 H0 s) (L : LR K ex μ0 H0 σ r) (h : GoS T K ex W μ0 H0 (forL f body ds r s) D) :
    ∃ Wv : Nat → Nat → L2.St → Hp → Prop, (∃ m, Wv 0 m σ H0) ∧ ∀ i m σ H, Wv i m σ H →
      (J.stop i H ∧ D.nx σ H) ∨ (J.go i H ∧ ∃ N : L2.St → Hp → Prop, (∀ σ' H', N σ' H' → ∃ m', m' < m ∧ Wv (i + 1) m' σ' H') ∧ ∀ x H', J.yld i H x H' → g x σ H' fun σ2 H2 => tb { D with nx := N, ct := N, bk := D.nx } σ2 H2) := by
  refine ⟨fun i m σ H => m = ds.length - i ∧ i ≤ ds.length ∧ ∃ μ r s, Le K μ0 H0 μ H ∧ Rel K μ H s ∧ LR K ex μ H σ r ∧ GoS T K ex W μ H (forL f body (ds.drop i) r s) D, ⟨_, rfl, Nat.zero_le _, μ0, r, s, Le.refl, R, L, h⟩, ?_⟩
  rintro i m σ H ⟨rfl, hi, μ, r, s, le, R, L, h⟩
  by_cases hlt : i < ds.length
  · refine .inr ?_
    have hd : ds[i]? = some ds[i] := List.getElem?_eq_getElem hlt
    rw [List.drop_eq_getElem_cons hlt] at h
    simp only [forL] at h
    split at h
    · rename_i hf
      obtain ⟨g1, g2⟩ := wk.go i _ μ H s le R hf hd
      refine ⟨g1, fun σ' H' => ∃ μ r s, Le K μ0 H0 μ H' ∧ Rel K μ H' s ∧ LR K ex μ H' σ' r ∧ GoS T K ex W μ H' (forL f body (ds.drop (i + 1)) r s) D, fun σ' H' hN => ⟨_, by omega, rfl, hlt, hN⟩, fun x H' hy => ?_⟩
      obtain ⟨l2, R2, rx⟩ := g2 x H' hy
      refine hb _ μ H' σ r s x _ R2 (L.mono l2) rx ?_
      cases hm : body ds[i] r s with
      | nx r1 s1 =>
        rw [hm] at h
        exact fun μ' H2 σ' le' R' L' => ⟨μ', r1, s1, (le.trans l2).trans le', R', L', GoS.later (o := forL f body (ds.drop (i + 1)) r1 s1) h (l2.trans le')⟩
      | ct r1 s1 =>
        rw [hm] at h
        exact fun μ' H2 σ' le' R' L' => ⟨μ', r1, s1, (le.trans l2).trans le', R', L', GoS.later (o := forL f body (ds.drop (i + 1)) r1 s1) h (l2.trans le')⟩
      | bk r1 s1 =>
        rw [hm] at h
        exact GoS.later (o := .nx r1 s1) h l2
      | rt v s1 =>
        rw [hm] at h
        exact GoS.later (o := .rt v s1) h l2
      | exc c r1 s1 =>
        rw [hm] at h
        exact GoS.later (o := .exc c r1 s1) h l2
      | stuck => rw [hm] at h; exact h
    · exact h.elim
  · refine .inl ?_
    have e : i = ds.length := by omega
    subst e
    rw [List.drop_length] at h
    simp only [forL] at h
    split at h
    · rename_i hf
      exact ⟨wk.stop _ μ H s le R hf (Nat.le_refl _), h μ H σ Le.refl R L⟩
    · exact h.elim
theorem ss_for {iter : Expr} (hp : PassesOwn (model X.prog X.w) X.A X.env X.xe) (hc : X.calm = true) (hi : SI T X ex W tg iter ci) (hg : SG T X ex tg ct) (hb : SSs T X ex W sts css)
    (hs : ∀ x, foldedSetIterable iter X.env x = pure x := by intro _; rfl) : SS T X ex W (.For tg iter sts [] pos) (.for_ ct ci css) := ⟨(ps_for hp hc hi.pi hg.pg hb.ps hs).imp fun D σ H h => by
  obtain ⟨μ, r, s, R, L, h⟩ := h
  simp only [evS] at h
  refine ⟨μ, r, s, R, L, ?_⟩
  cases hm : evI T.call T.G T.sub ci r s with
  | ok q s1 =>
    rw [hm] at h
    intro μ1 H1 le1 R1 J wk
    refine for_sound (T := T) (ex := ex) (W := W) X.K wk (fun D' μ H σ r s x d R L hx h => ?_) R1 (L.mono le1) (GoS.later h le1)
    refine ⟨μ, r, s, d, R, L, hx, ?_⟩
    cases hn : evT T.call T.G T.sub ct d r s with
    | ok r2 s2 =>
      rw [hn] at h
      exact fun μ2 H2 le2 R2 σ2 L2 => ⟨μ2, r2, s2, R2, L2, GoS.later (o := evSs T.call T.G T.sub css r2 s2) h le2⟩
    | exc c s2 => exact absurd hn (evT_noexc _ _ _ _ _ _)
    | stuck => rw [hn] at h; exact h
  | exc c s1 =>
    rw [hm] at h
    exact fun μ' H' le R' => h μ' H' σ le R' (L.mono le)
  | stuck => rw [hm] at h; exact h⟩
/-! ### through a dict -/
theorem wk_keys {K : PySem.W.Frag} {a : Addr} {o : Obj} {ws : List (Key × V)} {ks : List (Key × DV)} {μ0 : List Addr} {H0 : Hp} (h : H0 a = some (.frz o (.dK ws))) (hk : ws.map (·.1) = ks.map (·.1)) : Wk K (Itk a o ws) .free (ks.map fun z => keyD z.1) μ0 H0 where
  go := fun i d μ H s le R hf hd => by
    have e : (ws.map (·.1))[i]? = (ks.map (·.1))[i]? := by rw [hk]
    rw [List.getElem?_map, List.getElem?_map] at e
    rw [List.getElem?_map] at hd
    cases hz : ks[i]? with
    | none => rw [hz] at hd; cases hd
    | some z =>
      rw [hz] at hd e
      cases hd
      cases hw : ws[i]? with
      | none => rw [hw] at e; cases e
      | some w =>
        rw [hw] at e
        have e := Option.some.inj e
        refine ⟨⟨le.frz _ _ _ h, (List.getElem?_eq_some_iff.mp hw).1⟩, fun x H' hy => ?_⟩
        obtain ⟨rfl, k, v, q, rfl⟩ := hy
        rw [hw] at q
        cases q
        refine ⟨Le.refl, R, ?_⟩
        have e : k = z.1 := e
        show VR K μ H' (kV k) (keyD z.1)
        rw [← e]
        cases k with
        | inl i => exact .int i
        | inr x => exact .str x
  stop := fun i μ H s le R hf hd => by
    have n := congrArg List.length hk
    rw [List.length_map, List.length_map] at n
    rw [List.length_map, ← n] at hd
    exact ⟨le.frz _ _ _ h, hd⟩
/-- what follows a walk through a locked dict -/
theorem unlock_sound {K : PySem.W.Frag} {μ : List Addr} {H : Hp} {l : Nat} {a : Addr} {ob : Obj} {ws : List (Key × V)} {o : Out} {D : Ends} (hm : μ[l]? = some a) (hH : H a = some (.dK ws)) (h : GoS T K ex W μ H (o.unlock l) D) :
    GoS T K ex W μ (L2.upd H a (.frz ob (.dK ws))) o ⟨fun σ' H' => H' a = some (.frz ob (.dK ws)) ∧ D.nx σ' (L2.upd H' a (.dK ws)), fun v H' => H' a = some (.frz ob (.dK ws)) ∧ D.rt v (L2.upd H' a (.dK ws)), fun σ' H' => H' a = some (.frz ob (.dK ws)) ∧ D.bk σ' (L2.upd H' a (.dK ws)), fun σ' H' => H' a = some (.frz ob (.dK ws)) ∧ D.ct σ' (L2.upd H' a (.dK ws))⟩ := by
  have up : ∀ μ' H', Le K μ (L2.upd H a (.frz ob (.dK ws))) μ' H' → H' a = some (.frz ob (.dK ws)) ∧ Le K μ H μ' (L2.upd H' a (.dK ws)) ∧ LeW K μ' H' μ' (L2.upd H' a (.dK ws)) := fun μ' H' le => by
    have q := le.frz _ _ _ (upd_same (H := H) (o := .frz ob (.dK ws)))
    have w : LeW K μ' H' μ' (L2.upd H' a (.dK ws)) := le_setW q trivial
    refine ⟨q, ⟨⟨le.pre, fun x xs t => w.tup x xs (le.tup x xs (t.setU hH trivial))⟩, fun x o2 u z => ?_⟩, w⟩
    have ne : x ≠ a := ne_of z hH fun e => nomatch e
    rw [upd_ne ne]
    exact le.frz x o2 u (by rw [upd_ne ne]; exact z)
  have rel : ∀ μ' H' s' k2, Le K μ (L2.upd H a (.frz ob (.dK ws))) μ' H' → Rel K μ' H' s' → s'[l]? = some (.fdct k2) → Rel K μ' (L2.upd H' a (.dK ws)) (s'.set l (.dct k2)) := fun μ' H' s' k2 le R hs => by
    obtain ⟨q, _, w⟩ := up μ' H' le
    have hm' := le.pre _ _ hm
    obtain ⟨o2, w2, e1, e2, e3, e4⟩ := R.at_ l a _ hm' hs
    rw [q] at e1
    cases e1
    exact R.setC hm' hs trivial trivial ⟨ws, upd_same, e2, e3.monoW w, e4⟩
  cases o with
  | nx r s' =>
    simp only [Out.unlock] at h
    split at h
    · rename_i k2 hs
      exact fun μ' H' σ' le R L => ⟨(up μ' H' le).1, h μ' _ σ' (up μ' H' le).2.1 (rel μ' H' s' k2 le R hs) (L.monoW (up μ' H' le).2.2)⟩
    · exact h.elim
  | rt v s' =>
    simp only [Out.unlock] at h
    split at h
    · rename_i k2 hs
      exact fun μ' H' u le R r => ⟨(up μ' H' le).1, h μ' _ u (up μ' H' le).2.1 (rel μ' H' s' k2 le R hs) (r.monoW (up μ' H' le).2.2)⟩
    · exact h.elim
  | _ => exact h.elim
theorem ss_forD (i : Nat) {x : Str} {p : Pos} (hp : PassesOwn (model X.prog X.w) X.A X.env X.xe) (hc : X.calm = true) (hg : SG T X ex tg ct) (hb : SSs T X ex W sts css) (hN : X.N[i]? = some x := by rfl)
    (hv : Vis X.env.scope x := by first | exact Or.inl rfl | exact Or.inr (Or.inl rfl) | exact Or.inr (Or.inr rfl)) (hd : (x == ("__debug__" : Str)) = false := by decide) (hcd : (x == ("__classdict__" : Str)) = false := by decide)
    (hs : ∀ y, foldedSetIterable (.Name x p) X.env y = pure y := by intro _; rfl) : SS T X ex W (.For tg (.Name x p) sts [] pos) (.forD ct i css) := ⟨(ps_lock (ps_for hp hc (pi_keys (pe_var hN hv hd hcd)) hg.pg hb.ps hs)).imp fun D σ H h => by
  obtain ⟨μ, r, s, R, L, h⟩ := h
  simp only [evS] at h
  cases hr : r[i]? with
  | none => rw [hr] at h; exact h.elim
  | some q =>
    rw [hr] at h
    cases q with
    | none => exact h.elim
    | some d =>
      cases d with
      | ref l =>
        simp only at h
        cases hc0 : s[l]? with
        | none => rw [hc0] at h; exact h.elim
        | some c =>
          rw [hc0] at h
          cases c with
          | dct ks =>
            simp only at h
            rcases L.at_ i _ hr with ⟨v, h1, h2⟩ | ⟨_, _, h1, _⟩
            · cases h2 with
              | @ref _ a hm =>
                obtain ⟨ws, d0, k1, k2, k3⟩ := R.at_ _ _ _ hm hc0
                refine ⟨a, .dK ws, d0, trivial, fun ob => ?_⟩
                have w : LeW X.K μ H μ (L2.upd H a (.frz ob (.dK ws))) := le_setW d0 trivial
                have R2 := R.setC (w := .frz ob (.dK ws)) hm hc0 trivial trivial (c' := .fdct ks) ⟨ob, ws, upd_same, k1, k2.monoW w, k3⟩
                refine ⟨_, h1, a, ob, rfl, .inl ⟨ws, upd_same, ?_⟩⟩
                refine for_sound (T := T) (ex := ex) (W := W) X.K (wk_keys upd_same k1) (fun D' μ H σ r s x d R L hx h => ?_) R2 (L.monoW w) (unlock_sound hm d0 h)
                refine ⟨μ, r, s, d, R, L, hx, ?_⟩
                cases hn : evT T.call T.G T.sub ct d r s with
                | ok r2 s2 =>
                  rw [hn] at h
                  exact fun μ2 H2 le2 R2 σ2 L2 => ⟨μ2, r2, s2, R2, L2, GoS.later (o := evSs T.call T.G T.sub css r2 s2) h le2⟩
                | exc c s2 => exact absurd hn (evT_noexc _ _ _ _ _ _)
                | stuck => rw [hn] at h; exact h
            · cases h1
          | _ => exact h.elim
      | _ => exact h.elim⟩
theorem ss_while (hp : PassesOwn (model X.prog X.w) X.A X.env X.xe) (hc : ST T X ex W c cc) (hb : SSs T X ex W sts css) : SS T X ex W (.While c sts [] pos) (.while_ cc css) := ⟨(ps_while hp hc.pt hb.ps).imp fun D σ H h => by
  obtain ⟨μ, r, s, R, L, h⟩ := h
  simp only [evS] at h
  refine ⟨fun m σ H => ∃ μ r s, Rel X.K μ H s ∧ LR X.K ex μ H σ r ∧ GoS T X.K ex W μ H (whileL (fun r s => (evE T.call T.G T.sub cc r s).bind fun x s => truth x s) (fun r s => evSs T.call T.G T.sub css r s) m r s) D, ⟨turns, μ, r, s, R, L, h⟩, ?_⟩
  rintro m σ H ⟨μ, r, s, R, L, h⟩
  cases m with
  | zero => exact h.elim
  | succ m =>
    refine ⟨μ, r, s, R, L, ?_⟩
    simp only [whileL] at h
    cases hm : (evE T.call T.G T.sub cc r s).bind fun x s => truth x s with
    | ok k s1 =>
      rw [hm] at h
      simp only [Res.out] at h
      intro μ1 H1 le1 R1
      cases k with
      | true =>
        refine ⟨fun σ' H' => ∃ μ r s, Rel X.K μ H' s ∧ LR X.K ex μ H' σ' r ∧ GoS T X.K ex W μ H' (whileL (fun r s => (evE T.call T.G T.sub cc r s).bind fun x s => truth x s) (fun r s => evSs T.call T.G T.sub css r s) m r s) D, fun σ' H' hN => ⟨m, Nat.lt_succ_self m, hN⟩, μ1, r, s1, R1, L.mono le1, ?_⟩
        simp only [cond] at h
        cases hn : evSs T.call T.G T.sub css r s1 with
        | nx r2 s2 =>
          rw [hn] at h
          exact fun μ2 H2 σ2 le2 R2 L2 => ⟨μ2, r2, s2, R2, L2, GoS.later (o := whileL _ _ m r2 s2) h (le1.trans le2)⟩
        | ct r2 s2 =>
          rw [hn] at h
          exact fun μ2 H2 σ2 le2 R2 L2 => ⟨μ2, r2, s2, R2, L2, GoS.later (o := whileL _ _ m r2 s2) h (le1.trans le2)⟩
        | bk r2 s2 =>
          rw [hn] at h
          exact GoS.later (o := .nx r2 s2) h le1
        | rt v s2 =>
          rw [hn] at h
          exact GoS.later (o := .rt v s2) h le1
        | exc c r2 s2 =>
          rw [hn] at h
          exact GoS.later (o := .exc c r2 s2) h le1
        | stuck => rw [hn] at h; exact h
      | false =>
        simp only [cond] at h ⊢
        exact h μ1 H1 σ le1 R1 (L.mono le1)
    | exc c s1 =>
      rw [hm] at h
      exact fun μ' H' le R' => h μ' H' σ le R' (L.mono le)
    | stuck => rw [hm] at h; exact h⟩
end

/-! ### defs -/
theorem VRs.start {K : PySem.W.Frag} {μ : List Addr} {H : Hp} {vs : List V} {ds : List DV} {N : List Str} (h : VRs K μ H vs ds) (hl : ds.length ≤ N.length) : LR K none μ H (L2.start N vs) (Ip.start N.length ds) := by
  have e := h.length
  refine ⟨?_, fun i d hd => .inl ?_⟩
  · unfold L2.start Ip.start
    rw [List.length_append, List.length_append, List.length_map, List.length_map, List.length_replicate, List.length_replicate, e]
  · unfold Ip.start at hd
    unfold L2.start
    rw [List.getElem?_append] at hd ⊢
    rw [List.length_map] at hd ⊢
    rw [e]
    split at hd
    · rename_i hi
      rw [if_pos hi]
      rw [List.getElem?_map] at hd ⊢
      cases hc : ds[i]? with
      | none => rw [hc] at hd; cases hd
      | some d' =>
        rw [hc] at hd
        cases hd
        obtain ⟨v, hv, rv⟩ := h.get hc
        exact ⟨v, by rw [hv]; rfl, rv⟩
    · rw [List.getElem?_replicate] at hd
      split at hd <;> cases hd
/-- the def number f by its body -/
theorem fn_ok {P : Program} {w : World} {K : PySem.W.Frag} {mg : Str → Option Value} {base : Heap} {x : Str} {st : Stmt} {ad : Addr} {fd : FuncData} {N ps : List Str} {k f : Nat} {D : Nat → Option Def} {G : Nat → Option DV} {sub : Nat → Nat → Bool} {cls : Nat → Option Addr} {body : CSs}
    (F : Fun K x x st ad fd) (S : FnScope N ps (defScope st)) (hd : D f = some ⟨N.length, ps.length, body⟩) (hle : ps.length ≤ N.length)
    (hbody : ∀ (cdv : Value) (A : Around) (outer : List Env) (s : Shared) (H : Hp) (E : XK), Room k (A.deeper (envOfC x (defScope st) s.heap.objs.size ad cdv)) →
      SSs ⟨callAt D G sub k, G, sub, cls⟩ (cxOf (L2.CX P w) P w K mg base N x (defScope st) ad cdv A outer s H E) none (fun c d _ H => E c d H) (defBody st) body) :
    FnOk P w K mg base (L2.CX P w) (k + 1) ad fd ps (spC ⟨callAt D G sub (k + 1), G, sub, cls⟩ K f ps.length) := by
  refine F.okX S (fun vs H Q E h => ?_) (fun cdv A outer s H vs Q E hr h => ?_)
  · obtain ⟨μ, s0, ds, R, hv, hl, _⟩ := h
    rw [hv.length, hl]
  · obtain ⟨μ, s0, ds, R, hv, hl, h⟩ := h
    refine ⟨_, (hbody cdv A outer s H E hr).ps, μ, Ip.start N.length ds, s0, R, hv.start (by rw [hl]; exact hle), ?_⟩
    simp only [callAt, hd] at h
    rw [if_pos hl] at h
    unfold Out.fin at h
    cases hm : evSs (callAt D G sub k) G sub body (Ip.start N.length ds) s0 with
    | nx r1 s1 =>
      rw [hm] at h
      exact fun μ' H' σ' le R' L' => h μ' H' le R' _ .non
    | rt v s1 =>
      rw [hm] at h
      exact fun μ' H' u le R' hu => h μ' H' le R' u hu
    | bk r1 s1 => rw [hm] at h; exact h.elim
    | ct r1 s1 => rw [hm] at h; exact h.elim
    | exc c r1 s1 =>
      rw [hm] at h
      exact fun μ' H' σ' le R' L' => h μ' H' le R'
    | stuck => rw [hm] at h; exact h

/-! ### the law -/
theorem fn_zero {P : Program} {w : World} {K : PySem.W.Frag} {mg : Str → Option Value} {base : Heap} {CX : CXT} {ad : Addr} {fd : FuncData} {ps : List Str} {f np : Nat} {D : Nat → Option Def} {G : Nat → Option DV} {sub : Nat → Nat → Bool} {cls : Nat → Option Addr} :
    FnOk P w K mg base CX 0 ad fd ps (spC ⟨callAt D G sub 0, G, sub, cls⟩ K f np) :=
  ⟨fun vs H Q E ⟨_, _, _, _, _, _, h⟩ => h.elim, fun _ _ _ _ _ _ _ _ _ _ _ _ _ ⟨_, _, _, _, _, _, h⟩ => h.elim⟩
theorem ints_vrs {K : PySem.W.Frag} {μ : List Addr} {H : Hp} : ∀ ns : List Int, VRs K μ H (ns.map V.int) (ns.map DV.int)
  | [] => .nil
  | n :: ns => .cons (.int n) (ints_vrs ns)
/-- the law's promise from the small machine's run -/
theorem law_sp {K : PySem.W.Frag} {H : Hp} {a : Addr} {ns : List Int} {T : Tb} {f : Nat} (hl : ns.length ≤ 63) (ho : Only H) (h : SqL K H a (ns.map V.int))
    (run : ∃ s', T.call f [.ref 0] [.frz (ns.map DV.int)] = .ok (.bl true) s') : spC T K f 1 [.ref a] H (fun v _ => v = .bl true) fun _ _ _ => False := by
  obtain ⟨s', run⟩ := run
  refine ⟨[a], [.frz (ns.map DV.int)], [.ref 0], ⟨rfl, fun n m b xs ys h1 h2 h3 h4 t1 t2 => ?_, fun n b c h1 h2 => ?_⟩, .cons (.ref rfl) .nil, rfl, ?_⟩
  · cases n with
    | zero => cases h3; exact t1.elim
    | succ n => simp at h3
  · cases n with
    | zero =>
      cases h1
      cases h2
      refine ⟨ns.map V.int, ?_, ints_vrs ns, by rw [List.length_map]; exact Nat.le_trans hl (by decide)⟩
      rcases h with (h | ⟨o, h⟩) | h
      · rcases ho a with q | ⟨o, xs, q⟩
        · rw [q] at h; cases h
        · rw [q] at h; cases h
      · exact .inl ⟨o, h⟩
      · exact .inr h
    | succ n => simp at h2
  · rw [run]
    exact fun μ' H' le R v hv => by
      cases hv
      rfl
theorem cx_none {P : Program} {w : World} {H : Hp} {s : Shared} {e : Value} {s' : Shared} (h : L2.CX P w [] H s (fun _ _ _ => False) e s') : False := by
  obtain ⟨_, _, _, _, _, _, _, _, _, _, _, _, z⟩ := h
  exact z
end Ip
end PtIpStmt2
section PtIpEqs
set_option Elab.async false
set_option linter.all false
set_option maxRecDepth 100000
set_option autoImplicit true
/-! the equations of the small machine, one a construct -/
namespace Ip
open PySem
theorem nr {α : Type} {a b : α} (h : a = b) : a = b := by
  cases h
  exact Eq.refl a
theorem qE_slot {call : Nat → List DV → Store → Res DV} {G : Nat → Option DV} {sub : Nat → Nat → Bool} {i r s} : evE call G sub (.slot i) r s = match r[i]? with
      | some (some (.exc _)) => .stuck
      | some (some v) => .ok v s
      | _ => .stuck := nr rfl
theorem qE_isx {call : Nat → List DV → Store → Res DV} {G : Nat → Option DV} {sub : Nat → Nat → Bool} {i c r s} : evE call G sub (.isx i c) r s = match r[i]? with
      | some (some (.exc d)) => match c with
        | .own c => .ok (.bl (sub d c)) s
        | .ty n => if n = "ValueError" then .ok (.bl true) s else .stuck
      | _ => .stuck := nr rfl
theorem qE_k {call : Nat → List DV → Store → Res DV} {G : Nat → Option DV} {sub : Nat → Nat → Bool} {c u0 s} : evE call G sub (.k c) u0 s = .ok c.dv s := nr rfl
theorem qE_glob {call : Nat → List DV → Store → Res DV} {G : Nat → Option DV} {sub : Nat → Nat → Bool} {g u0 s} : evE call G sub (.glob g) u0 s = match G g with
      | some v => .ok v s
      | none => .stuck := nr rfl
theorem qE_bin {call : Nat → List DV → Store → Res DV} {G : Nat → Option DV} {sub : Nat → Nat → Bool} {op a b r s} : evE call G sub (.bin op a b) r s = (evE call G sub a r s).bind fun x s => (evE call G sub b r s).bind fun y s => binV op x y s := nr rfl
theorem qE_neg {call : Nat → List DV → Store → Res DV} {G : Nat → Option DV} {sub : Nat → Nat → Bool} {a r s} : evE call G sub (.neg a) r s = (evE call G sub a r s).bind fun x s => match x with
      | .int i => .ok (.int (-i)) s
      | _ => .stuck := nr rfl
theorem qE_not {call : Nat → List DV → Store → Res DV} {G : Nat → Option DV} {sub : Nat → Nat → Bool} {a r s} : evE call G sub (.not a) r s = (evE call G sub a r s).bind fun x s => (truth x s).bind fun b s => .ok (.bl (!b)) s := nr rfl
theorem qE_and {call : Nat → List DV → Store → Res DV} {G : Nat → Option DV} {sub : Nat → Nat → Bool} {a b r s} : evE call G sub (.and a b) r s = (evE call G sub a r s).bind fun x s => (truth x s).bind fun c s => cond c (evE call G sub b r s) (.ok x s) := nr rfl
theorem qE_or {call : Nat → List DV → Store → Res DV} {G : Nat → Option DV} {sub : Nat → Nat → Bool} {a b r s} : evE call G sub (.or a b) r s = (evE call G sub a r s).bind fun x s => (truth x s).bind fun c s => cond c (.ok x s) (evE call G sub b r s) := nr rfl
theorem qE_cmp {call : Nat → List DV → Store → Res DV} {G : Nat → Option DV} {sub : Nat → Nat → Bool} {op a b r s} : evE call G sub (.cmp op a b) r s = (evE call G sub a r s).bind fun x s => (evE call G sub b r s).bind fun y s => (cmpV op x y s).bind fun c s => .ok (.bl c) s := nr rfl
theorem qE_chain {call : Nat → List DV → Store → Res DV} {G : Nat → Option DV} {sub : Nat → Nat → Bool} {op op2 a b c r s} : evE call G sub (.chain op op2 a b c) r s = (evE call G sub a r s).bind fun x s => (evE call G sub b r s).bind fun y s => (cmpV op x y s).bind fun k s =>
        cond k ((evE call G sub c r s).bind fun z s => (cmpV op2 y z s).bind fun k s => .ok (.bl k) s) (.ok (.bl false) s) := nr rfl
theorem qE_ife {call : Nat → List DV → Store → Res DV} {G : Nat → Option DV} {sub : Nat → Nat → Bool} {t a b r s} : evE call G sub (.ife t a b) r s = (evE call G sub t r s).bind fun x s => (truth x s).bind fun c s => cond c (evE call G sub a r s) (evE call G sub b r s) := nr rfl
theorem qE_ix {call : Nat → List DV → Store → Res DV} {G : Nat → Option DV} {sub : Nat → Nat → Bool} {a b r s} : evE call G sub (.ix a b) r s = (evE call G sub a r s).bind fun x s => (evE call G sub b r s).bind fun y s => itemV x y s := nr rfl
theorem qE_slc {call : Nat → List DV → Store → Res DV} {G : Nat → Option DV} {sub : Nat → Nat → Bool} {a lo hi r s} : evE call G sub (.slc a lo hi) r s = (evE call G sub a r s).bind fun x s => (evO call G sub lo r s).bind fun l s => (evO call G sub hi r s).bind fun h s => sliceV x l h s := nr rfl
theorem qE_rev {call : Nat → List DV → Store → Res DV} {G : Nat → Option DV} {sub : Nat → Nat → Bool} {a r s} : evE call G sub (.rev a) r s = (evE call G sub a r s).bind fun x s => match x with
      | .ref l => match cellL s l with
        | some xs => .ok (.ref s.length) (s ++ [.lst xs.reverse])
        | none => .stuck
      | _ => .stuck := nr rfl
theorem qE_tup {call : Nat → List DV → Store → Res DV} {G : Nat → Option DV} {sub : Nat → Nat → Bool} {es r s} : evE call G sub (.tup es) r s = (evEs call G sub es r s).bind fun xs s => if xs.length ≤ sizeLine then .ok (.tup xs) s else .stuck := nr rfl
theorem qE_lst {call : Nat → List DV → Store → Res DV} {G : Nat → Option DV} {sub : Nat → Nat → Bool} {es r s} : evE call G sub (.lst es) r s = (evEs call G sub es r s).bind fun xs s => if xs.length ≤ sizeLine then .ok (.ref s.length) (s ++ [.lst xs]) else .stuck := nr rfl
theorem qE_call {call : Nat → List DV → Store → Res DV} {G : Nat → Option DV} {sub : Nat → Nat → Bool} {f es r s} : evE call G sub (.call f es) r s = (evEs call G sub es r s).bind fun xs s => call f xs s := nr rfl
theorem qE_bi {call : Nat → List DV → Store → Res DV} {G : Nat → Option DV} {sub : Nat → Nat → Bool} {b es r s} : evE call G sub (.bi b es) r s = (evEs call G sub es r s).bind fun xs s => biV b xs s := nr rfl
theorem qE_isi {call : Nat → List DV → Store → Res DV} {G : Nat → Option DV} {sub : Nat → Nat → Bool} {a cs r s} : evE call G sub (.isi a cs) r s = (evE call G sub a r s).bind fun x s => match cs with
      | [c] => match clIs x s c with
        | some b => .ok (.bl b) s
        | none => .stuck
      | _ => .stuck := nr rfl
theorem qE_meth {call : Nat → List DV → Store → Res DV} {G : Nat → Option DV} {sub : Nat → Nat → Bool} {m o es r s} : evE call G sub (.meth m o es) r s = (evE call G sub o r s).bind fun x s => match x with
      | .ref l => match cellL s l with
        | some _ => (evEs call G sub es r s).bind fun xs s => mtV m (.ref l) xs s
        | none => .stuck
      | _ => .stuck := nr rfl
theorem qE_lc {call : Nat → List DV → Store → Res DV} {G : Nat → Option DV} {sub : Nat → Nat → Bool} {t it ifs e own r s} : evE call G sub (.lc t it ifs e own) r s = (evI call G sub it r s).bind fun q s => lcL s.length q.1
        (fun x s => (evT call G sub t x (wipe r own) s).bind fun r s => (evAll call G sub ifs r s).bind fun b s => cond b ((evE call G sub e r s).bind fun v s => .ok (some v) s) (.ok none s)) q.2 (s ++ [.lst []]) := nr rfl
theorem qE_smeth {call : Nat → List DV → Store → Res DV} {G : Nat → Option DV} {sub : Nat → Nat → Bool} {m o es r s} : evE call G sub (.smeth m o es) r s = (evE call G sub o r s).bind fun x s => match x with
      | .str z => (evEs call G sub es r s).bind fun xs s => smV m z xs s
      | _ => .stuck := nr rfl
theorem qE_get2 {call : Nat → List DV → Store → Res DV} {G : Nat → Option DV} {sub : Nat → Nat → Bool} {d k x r s} : evE call G sub (.get2 d k x) r s = (evE call G sub d r s).bind fun y s => match y with
      | .ref l => optR (dctAt s l) fun _ => (evE call G sub k r s).bind fun z s => (evE call G sub x r s).bind fun w s => optR (dctAt s l) fun kvs => optR (key? z) fun k => .ok ((getD kvs k).getD w) s
      | _ => .stuck := nr rfl
theorem qE_setd {call : Nat → List DV → Store → Res DV} {G : Nat → Option DV} {sub : Nat → Nat → Bool} {d k x r s} : evE call G sub (.setd d k x) r s = (evE call G sub d r s).bind fun y s => match y with
      | .ref l => optR (dctAt s l) fun _ => (evE call G sub k r s).bind fun z s => (evE call G sub x r s).bind fun w s => match s[l]? with
        | some (.dct kvs) => optR (key? z) fun k => if kvs.length < sizeLine then match getD kvs k with
            | some v => .ok v s
            | none => .ok w (s.set l (.dct (putD kvs k w)))
          else .stuck
        | _ => .stuck
      | _ => .stuck := nr rfl
theorem qE_dnew {call : Nat → List DV → Store → Res DV} {G : Nat → Option DV} {sub : Nat → Nat → Bool} {u0 s} : evE call G sub (.dnew) u0 s = .ok (.ref s.length) (s ++ [.dct []]) := nr rfl
theorem qEs_nil {call : Nat → List DV → Store → Res DV} {G : Nat → Option DV} {sub : Nat → Nat → Bool} {u0 s} : evEs call G sub (.nil) u0 s = .ok [] s := nr rfl
theorem qEs_cons {call : Nat → List DV → Store → Res DV} {G : Nat → Option DV} {sub : Nat → Nat → Bool} {e es r s} : evEs call G sub (.cons e es) r s = (evE call G sub e r s).bind fun x s => (evEs call G sub es r s).bind fun xs s => .ok (x :: xs) s := nr rfl
theorem qAll_nil {call : Nat → List DV → Store → Res DV} {G : Nat → Option DV} {sub : Nat → Nat → Bool} {u0 s} : evAll call G sub (.nil) u0 s = .ok true s := nr rfl
theorem qAll_cons {call : Nat → List DV → Store → Res DV} {G : Nat → Option DV} {sub : Nat → Nat → Bool} {e es r s} : evAll call G sub (.cons e es) r s = (evE call G sub e r s).bind fun x s => (truth x s).bind fun c s => cond c (evAll call G sub es r s) (.ok false s) := nr rfl
theorem qO_no {call : Nat → List DV → Store → Res DV} {G : Nat → Option DV} {sub : Nat → Nat → Bool} {u0 s} : evO call G sub (.no) u0 s = .ok none s := nr rfl
theorem qO_some {call : Nat → List DV → Store → Res DV} {G : Nat → Option DV} {sub : Nat → Nat → Bool} {e r s} : evO call G sub (.some e) r s = (evE call G sub e r s).bind fun x s => match x with
      | .int i => .ok (some i) s
      | _ => .stuck := nr rfl
theorem qI_seq {call : Nat → List DV → Store → Res DV} {G : Nat → Option DV} {sub : Nat → Nat → Bool} {e r s} : evI call G sub (.seq e) r s = (evE call G sub e r s).bind fun x s => match x with
      | .tup xs => .ok (.free, xs) s
      | .ref l => match cellL s l with
        | some xs => .ok (.cell l xs, xs) s
        | none => .stuck
      | .str z => .ok (.free, z.cps.toList.map fun c => .str ⟨#[c]⟩) s
      | _ => .stuck := nr rfl
theorem qI_range1 {call : Nat → List DV → Store → Res DV} {G : Nat → Option DV} {sub : Nat → Nat → Bool} {a r s} : evI call G sub (.range1 a) r s = (evE call G sub a r s).bind fun x s => match x with
      | .int n => if -(2 ^ 62) ≤ n ∧ n < 2 ^ 62 then .ok (.free, (List.range n.toNat).map fun (i : Nat) => .int (0 + (i : Int))) s else .stuck
      | _ => .stuck := nr rfl
theorem qI_range2 {call : Nat → List DV → Store → Res DV} {G : Nat → Option DV} {sub : Nat → Nat → Bool} {a b r s} : evI call G sub (.range2 a b) r s = (evE call G sub a r s).bind fun x s => (evE call G sub b r s).bind fun y s => match x, y with
      | .int m, .int n => if (-(2 ^ 62) ≤ m ∧ m < 2 ^ 62) ∧ -(2 ^ 62) ≤ n ∧ n < 2 ^ 62 then .ok (.free, (List.range (n - m).toNat).map fun (i : Nat) => .int (m + (i : Int))) s else .stuck
      | _, _ => .stuck := nr rfl
theorem qI_range3 {call : Nat → List DV → Store → Res DV} {G : Nat → Option DV} {sub : Nat → Nat → Bool} {a b c r s} : evI call G sub (.range3 a b c) r s = (evE call G sub a r s).bind fun x s => (evE call G sub b r s).bind fun y s => (evE call G sub c r s).bind fun z s => match x, y, z with
      | .int m, .int n, .int d => if ((-(2 ^ 62) ≤ m ∧ m < 2 ^ 62) ∧ -(2 ^ 62) ≤ n ∧ n < 2 ^ 62) ∧ d = -1 then .ok (.free, (List.range (m - n).toNat).map fun (i : Nat) => .int (m + (i : Int) * -1)) s else .stuck
      | _, _, _ => .stuck := nr rfl
theorem qI_zip {call : Nat → List DV → Store → Res DV} {G : Nat → Option DV} {sub : Nat → Nat → Bool} {a b r s} : evI call G sub (.zip a b) r s = (evE call G sub a r s).bind fun x s => (evE call G sub b r s).bind fun y s => match x, y with
      | .tup xs, .tup ys => .ok (.free, (xs.zip ys).map fun p => .tup [p.1, p.2]) s
      | _, _ => .stuck := nr rfl
theorem qI_enum {call : Nat → List DV → Store → Res DV} {G : Nat → Option DV} {sub : Nat → Nat → Bool} {a r s} : evI call G sub (.enum a) r s = (evE call G sub a r s).bind fun x s => match x with
      | .tup xs => .ok (.free, xs.mapIdx fun i x => .tup [.int (0 + (i : Nat)), x]) s
      | .str z => .ok (.free, (z.cps.toList.map fun c => DV.str ⟨#[c]⟩).mapIdx fun i x => .tup [.int (0 + (i : Nat)), x]) s
      | _ => .stuck := nr rfl
theorem qI_rev {call : Nat → List DV → Store → Res DV} {G : Nat → Option DV} {sub : Nat → Nat → Bool} {a r s} : evI call G sub (.rev a) r s = (evE call G sub a r s).bind fun x s => match x with
      | .tup xs => .ok (.free, xs.reverse) s
      | _ => .stuck := nr rfl
theorem qT_name {call : Nat → List DV → Store → Res DV} {G : Nat → Option DV} {sub : Nat → Nat → Bool} {i v r s} : evT call G sub (.name i) v r s = if i < r.length then .ok (r.set i (some v)) s else .stuck := nr rfl
theorem qT_tup {call : Nat → List DV → Store → Res DV} {G : Nat → Option DV} {sub : Nat → Nat → Bool} {ts v r s} : evT call G sub (.tup ts) v r s = match v with
      | .tup xs => evTs call G sub ts xs r s
      | .ref l => match cellL s l with
        | some xs => evTs call G sub ts xs r s
        | none => .stuck
      | _ => .stuck := nr rfl
theorem qT_sub {call : Nat → List DV → Store → Res DV} {G : Nat → Option DV} {sub : Nat → Nat → Bool} {a b v r s} : evT call G sub (.sub a b) v r s = (evE call G sub a r s).quiet.bind fun x s => (evE call G sub b r s).quiet.bind fun y s => optR (setV x y v s) fun s => .ok r s := nr rfl
theorem qTs_nil {call : Nat → List DV → Store → Res DV} {G : Nat → Option DV} {sub : Nat → Nat → Bool} {xs r s} : evTs call G sub (.nil) xs r s = match xs with
      | [] => .ok r s
      | _ :: _ => .stuck := nr rfl
theorem qTs_cons {call : Nat → List DV → Store → Res DV} {G : Nat → Option DV} {sub : Nat → Nat → Bool} {t ts xs r s} : evTs call G sub (.cons t ts) xs r s = match xs with
      | x :: xs => (evT call G sub t x r s).bind fun r s => evTs call G sub ts xs r s
      | [] => .stuck := nr rfl
theorem qS_asg {call : Nat → List DV → Store → Res DV} {G : Nat → Option DV} {sub : Nat → Nat → Bool} {t e r s} : evS call G sub (.asg t e) r s = (evE call G sub e r s).out r fun v s => (evT call G sub t v r s).out r fun r s => .nx r s := nr rfl
theorem qS_par {call : Nat → List DV → Store → Res DV} {G : Nat → Option DV} {sub : Nat → Nat → Bool} {i j a b r s} : evS call G sub (.par i j a b) r s = (evE call G sub a r s).out r fun x s => (evE call G sub b r s).out r fun y s => if i < r.length ∧ j < r.length then .nx ((r.set i (some x)).set j (some y)) s else .stuck := nr rfl
theorem qS_aug {call : Nat → List DV → Store → Res DV} {G : Nat → Option DV} {sub : Nat → Nat → Bool} {i op e r s} : evS call G sub (.aug i op e) r s = match r[i]? with
      | some (some (.exc _)) => .stuck
      | some (some x) => (evE call G sub e r s).out r fun y s => (augV op x y s).out r fun z s => .nx (r.set i (some z)) s
      | _ => .stuck := nr rfl
theorem qS_ife {call : Nat → List DV → Store → Res DV} {G : Nat → Option DV} {sub : Nat → Nat → Bool} {c a b r s} : evS call G sub (.ife c a b) r s = (evE call G sub c r s).out r fun x s => (truth x s).out r fun c s => cond c (evSs call G sub a r s) (evSs call G sub b r s) := nr rfl
theorem qS_for {call : Nat → List DV → Store → Res DV} {G : Nat → Option DV} {sub : Nat → Nat → Bool} {t it b r s} : evS call G sub (.for_ t it b) r s = (evI call G sub it r s).out r fun q s => forL q.1 (fun x r s => (evT call G sub t x r s).out r fun r s => evSs call G sub b r s) q.2 r s := nr rfl
theorem qS_forD {call : Nat → List DV → Store → Res DV} {G : Nat → Option DV} {sub : Nat → Nat → Bool} {t i b r s} : evS call G sub (.forD t i b) r s = match r[i]? with
      | some (some (.ref l)) => match s[l]? with
        | some (.dct kvs) => (forL .free (fun x r s => (evT call G sub t x r s).out r fun r s => evSs call G sub b r s) (kvs.map fun kv => keyD kv.1) r (s.set l (.fdct kvs))).unlock l
        | _ => .stuck
      | _ => .stuck := nr rfl
theorem qS_while {call : Nat → List DV → Store → Res DV} {G : Nat → Option DV} {sub : Nat → Nat → Bool} {c b r s} : evS call G sub (.while_ c b) r s = whileL (fun r s => (evE call G sub c r s).bind fun x s => truth x s) (fun r s => evSs call G sub b r s) turns r s := nr rfl
theorem qS_ret {call : Nat → List DV → Store → Res DV} {G : Nat → Option DV} {sub : Nat → Nat → Bool} {e r s} : evS call G sub (.ret e) r s = (evE call G sub e r s).out r fun v s => .rt v s := nr rfl
theorem qS_retN {call : Nat → List DV → Store → Res DV} {G : Nat → Option DV} {sub : Nat → Nat → Bool} {u0 s} : evS call G sub (.retN) u0 s = .rt .non s := nr rfl
theorem qS_drop {call : Nat → List DV → Store → Res DV} {G : Nat → Option DV} {sub : Nat → Nat → Bool} {e r s} : evS call G sub (.drop e) r s = (evE call G sub e r s).out r fun _ s => .nx r s := nr rfl
theorem qS_pass {call : Nat → List DV → Store → Res DV} {G : Nat → Option DV} {sub : Nat → Nat → Bool} {r s} : evS call G sub (.pass) r s = .nx r s := nr rfl
theorem qS_brk {call : Nat → List DV → Store → Res DV} {G : Nat → Option DV} {sub : Nat → Nat → Bool} {r s} : evS call G sub (.brk) r s = .bk r s := nr rfl
theorem qS_cont {call : Nat → List DV → Store → Res DV} {G : Nat → Option DV} {sub : Nat → Nat → Bool} {r s} : evS call G sub (.cont) r s = .ct r s := nr rfl
theorem qS_raise {call : Nat → List DV → Store → Res DV} {G : Nat → Option DV} {sub : Nat → Nat → Bool} {c r s} : evS call G sub (.raise c) r s = .exc c r s := nr rfl
theorem qS_try {call : Nat → List DV → Store → Res DV} {G : Nat → Option DV} {sub : Nat → Nat → Bool} {b c i h r s} : evS call G sub (.try_ b c i h) r s = (evSs call G sub b r s).catch fun d r s => cond (sub d c) (match i with
        | none => (evSs call G sub h r s).hush
        | some i => (evSs call G sub h (r.set i (some (.exc d))) s).unset i) (.exc d r s) := nr rfl
theorem qS_pick {call : Nat → List DV → Store → Res DV} {G : Nat → Option DV} {sub : Nat → Nat → Bool} {i e kvs es r s} : evS call G sub (.pick i e kvs es) r s = (evE call G sub e r s).out r fun x s => match x with
      | .str z => match kvs.lookup z with
        | some f => if i < r.length then ((evEs call G sub es (r.set i none) s).bind fun xs s => call f xs s).out (r.set i none) fun v s => .rt v s else .stuck
        | none => .stuck
      | _ => .stuck := nr rfl
theorem qSs_nil {call : Nat → List DV → Store → Res DV} {G : Nat → Option DV} {sub : Nat → Nat → Bool} {r s} : evSs call G sub (.nil) r s = .nx r s := nr rfl
theorem qSs_cons {call : Nat → List DV → Store → Res DV} {G : Nat → Option DV} {sub : Nat → Nat → Bool} {st ss r s} : evSs call G sub (.cons st ss) r s = (evS call G sub st r s).then fun r s => evSs call G sub ss r s := nr rfl
end Ip
end PtIpEqs
section PtIpMath
set_option Elab.async false
set_option linter.all false
set_option maxRecDepth 100000
namespace Ip
open PySem
section
variable {α β : Type}
theorem bind_ok {a : α} {s : Store} {f : α → Store → Res β} : (Res.ok a s).bind f = f a s := rfl
theorem bind_exc {c : Nat} {s : Store} {f : α → Store → Res β} : (Res.exc c s : Res α).bind f = .exc c s := rfl
theorem out_ok {a : α} {s : Store} {r : Loc} {f : α → Store → Out} : (Res.ok a s).out r f = f a s := rfl
theorem out_exc {c : Nat} {s : Store} {r : Loc} {f : α → Store → Out} : (Res.exc c s : Res α).out r f = .exc c r s := rfl
theorem then_nx {r : Loc} {s : Store} {f : Loc → Store → Out} : (Out.nx r s).then f = f r s := rfl
theorem then_rt {v : DV} {s : Store} {f : Loc → Store → Out} : (Out.rt v s).then f = .rt v s := rfl
theorem then_exc {c : Nat} {r : Loc} {s : Store} {f : Loc → Store → Out} : (Out.exc c r s).then f = .exc c r s := rfl
theorem then_bk {r : Loc} {s : Store} {f : Loc → Store → Out} : (Out.bk r s).then f = .bk r s := rfl
theorem then_ct {r : Loc} {s : Store} {f : Loc → Store → Out} : (Out.ct r s).then f = .ct r s := rfl
end
/-! only the first place is looked into: what follows waits. A place on whose value a later place's type hangs is not looked into by simp without dsimp; so what waits is held by such a place. -/
def Hold {α : Type} (_ : α) : Type := Unit
def Hold2 {α β : Type} (_ : α) (_ : β) : Type := Unit
section
variable {α β : Type}
def bindK (m : Res α) (f : α → Store → Res β) (_ : Hold f) : Res β := m.bind f
def outK (m : Res α) (r : Loc) (f : α → Store → Out) (_ : Hold f) : Out := m.out r f
def thenK (m : Out) (f : Loc → Store → Out) (_ : Hold f) : Out := m.then f
def condK (c : Bool) (a b : α) (_ : Hold2 a b) : α := cond c a b
def optRK (o : Option α) (f : α → Res β) (_ : Hold f) : Res β := optR o f
noncomputable def forLK (f : Src) (b : DV → Loc → Store → Out) (l : List DV) (r : Loc) (s : Store) (_ : Hold b) : Out := forL f b l r s
noncomputable def lcLK (p : Nat) (f : Src) (b : DV → Store → Res (Option DV)) (l : List DV) (s : Store) (_ : Hold b) : Res DV := lcL p f b l s
noncomputable def whileLK (t : Loc → Store → Res Bool) (b : Loc → Store → Out) (n : Nat) (r : Loc) (s : Store) (_ : Hold2 t b) : Out := whileL t b n r s
def catchK (m : Out) (f : Nat → Loc → Store → Out) (_ : Hold f) : Out := m.catch f
theorem catch_K {m : Out} {f : Nat → Loc → Store → Out} : m.catch f = catchK m f () := nr rfl
theorem catchK_nx {r : Loc} {s : Store} {f : Nat → Loc → Store → Out} : catchK (.nx r s) f () = .nx r s := nr rfl
theorem catchK_rt {v : DV} {s : Store} {f : Nat → Loc → Store → Out} : catchK (.rt v s) f () = .rt v s := nr rfl
theorem catchK_exc {c : Nat} {r : Loc} {s : Store} {f : Nat → Loc → Store → Out} : catchK (.exc c r s) f () = f c r s := nr rfl
theorem unset_rt {v : DV} {s : Store} {i : Nat} : (Out.rt v s).unset i = .rt v s := nr rfl
theorem hush_rt {v : DV} {s : Store} : (Out.rt v s).hush = .rt v s := nr rfl
theorem hush_nx {r : Loc} {s : Store} : (Out.nx r s).hush = .nx r s := nr rfl
theorem hush_ct {r : Loc} {s : Store} : (Out.ct r s).hush = .ct r s := nr rfl
theorem bind_K {m : Res α} {f : α → Store → Res β} : m.bind f = bindK m f () := nr rfl
theorem out_K {m : Res α} {r : Loc} {f : α → Store → Out} : m.out r f = outK m r f () := nr rfl
theorem then_K {m : Out} {f : Loc → Store → Out} : m.then f = thenK m f () := nr rfl
theorem cond_K {c : Bool} {a b : α} : cond c a b = condK c a b () := nr rfl
theorem optR_K {o : Option α} {f : α → Res β} : optR o f = optRK o f () := nr rfl
theorem forL_K {f : Src} {b : DV → Loc → Store → Out} {l : List DV} {r : Loc} {s : Store} : forL f b l r s = forLK f b l r s () := nr rfl
theorem lcL_K {p : Nat} {f : Src} {b : DV → Store → Res (Option DV)} {l : List DV} {s : Store} : lcL p f b l s = lcLK p f b l s () := nr rfl
theorem whileL_K {t : Loc → Store → Res Bool} {b : Loc → Store → Out} {n : Nat} {r : Loc} {s : Store} : whileL t b n r s = whileLK t b n r s () := nr rfl
theorem bindK_ok {a : α} {s : Store} {f : α → Store → Res β} : bindK (.ok a s) f () = f a s := nr rfl
theorem outK_ok {a : α} {s : Store} {r : Loc} {f : α → Store → Out} : outK (.ok a s) r f () = f a s := nr rfl
theorem bindK_exc {c : Nat} {s : Store} {f : α → Store → Res β} : bindK (.exc c s) f () = .exc c s := nr rfl
theorem outK_exc {c : Nat} {s : Store} {r : Loc} {f : α → Store → Out} : outK (.exc c s) r f () = .exc c r s := nr rfl
theorem thenK_nx {r : Loc} {s : Store} {f : Loc → Store → Out} : thenK (.nx r s) f () = f r s := nr rfl
theorem thenK_rt {v : DV} {s : Store} {f : Loc → Store → Out} : thenK (.rt v s) f () = .rt v s := nr rfl
theorem thenK_exc {c : Nat} {r : Loc} {s : Store} {f : Loc → Store → Out} : thenK (.exc c r s) f () = .exc c r s := nr rfl
theorem thenK_bk {r : Loc} {s : Store} {f : Loc → Store → Out} : thenK (.bk r s) f () = .bk r s := nr rfl
theorem thenK_ct {r : Loc} {s : Store} {f : Loc → Store → Out} : thenK (.ct r s) f () = .ct r s := nr rfl
theorem condK_t {a b : α} : condK true a b () = a := nr rfl
theorem condK_f {a b : α} : condK false a b () = b := nr rfl
theorem optRK_some {a : α} {f : α → Res β} : optRK (some a) f () = f a := nr rfl
theorem cond_t {a b : α} : cond true a b = a := rfl
theorem cond_f {a b : α} : cond false a b = b := rfl
theorem optR_some {a : α} {f : α → Res β} : optR (some a) f = f a := rfl
theorem quiet_ok {a : α} {s : Store} : (Res.ok a s).quiet = .ok a s := rfl
end
theorem dv_int {i : Int} : (Kc.int i).dv = .int i := nr rfl
theorem dv_bl {b : Bool} : (Kc.bl b).dv = .bl b := nr rfl
theorem dv_str {x : Str} : (Kc.str x).dv = .str x := nr rfl
theorem dv_non : Kc.non.dv = .non := nr rfl
theorem fin_rt {v : DV} {s : Store} : (Out.rt v s).fin = .ok v s := rfl
theorem fin_nx {r : Loc} {s : Store} : (Out.nx r s).fin = .ok .non s := rfl
theorem fin_exc {c : Nat} {r : Loc} {s : Store} : (Out.exc c r s).fin = .exc c s := rfl
theorem itemV_ref {n : Nat} {i : Int} {s : Store} : itemV (.ref n) (.int i) s = optR (cellL s n) fun xs => optR (L2.atI xs i) fun v => .ok v s := rfl
theorem itemV_tup {xs : List DV} {i : Int} {s : Store} : itemV (.tup xs) (.int i) s = optR (L2.atI xs i) fun v => .ok v s := rfl
theorem at_0 {α : Type} {a : α} {l : List α} : L2.atI (a :: l) 0 = some a := by simp [L2.atI, L2.ixN]
theorem at_1 {α : Type} {a b : α} {l : List α} : L2.atI (a :: b :: l) 1 = some b := by
  have : (1 : Int) < ((a :: b :: l).length : Int) := by simp only [List.length_cons]; omega
  unfold L2.atI L2.ixN
  rw [if_pos (by decide), if_pos this]
  rfl
theorem at_2 {α : Type} {a b c : α} {l : List α} : L2.atI (a :: b :: c :: l) 2 = some c := by
  have : (2 : Int) < ((a :: b :: c :: l).length : Int) := by simp only [List.length_cons]; omega
  unfold L2.atI L2.ixN
  rw [if_pos (by decide), if_pos this]
  rfl
theorem at_3 {α : Type} {a b c d : α} {l : List α} : L2.atI (a :: b :: c :: d :: l) 3 = some d := by
  have : (3 : Int) < ((a :: b :: c :: d :: l).length : Int) := by simp only [List.length_cons]; omega
  unfold L2.atI L2.ixN
  rw [if_pos (by decide), if_pos this]
  rfl
theorem setV_4 {s : Store} {n : Nat} {a b c d v : DV} (h : s[n]? = some (.lst [a, b, c, d])) :
    setV (.ref n) (.int 1) v s = some (s.set n (.lst [a, v, c, d])) ∧ setV (.ref n) (.int 2) v s = some (s.set n (.lst [a, b, v, d])) ∧ setV (.ref n) (.int 3) v s = some (s.set n (.lst [a, b, c, v])) := by
  refine ⟨?_, ?_, ?_⟩ <;> simp only [setV, h] <;> rfl
theorem deq_int {i j : Int} : deq (.int i) (.int j) = (i == j) := rfl
theorem cmpable_int {i : Int} : cmpable (.int i) = true := rfl
theorem cmp_eq_int {i j : Int} {s : Store} : cmpV .eq (.int i) (.int j) s = .ok (i == j) s := rfl
theorem cmp_ne_int {i j : Int} {s : Store} : cmpV .ne (.int i) (.int j) s = .ok (!(i == j)) s := rfl
theorem cmp_lt_int {i j : Int} {s : Store} : cmpV .lt (.int i) (.int j) s = .ok (decide (i < j)) s := rfl
theorem cmp_le_int {i j : Int} {s : Store} : cmpV .le (.int i) (.int j) s = .ok (decide (i ≤ j)) s := rfl
theorem cmp_gt_int {i j : Int} {s : Store} : cmpV .gt (.int i) (.int j) s = .ok (decide (j < i)) s := rfl
theorem cmp_ge_int {i j : Int} {s : Store} : cmpV .ge (.int i) (.int j) s = .ok (decide (j ≤ i)) s := rfl
theorem truth_bl {b : Bool} {s : Store} : truth (.bl b) s = .ok b s := rfl
theorem bin_add {i j : Int} {s : Store} : binV .add (.int i) (.int j) s = .ok (.int (i + j)) s := rfl
theorem bin_sub {i j : Int} {s : Store} : binV .sub (.int i) (.int j) s = .ok (.int (i - j)) s := rfl
theorem bin_mul {i j : Int} {s : Store} (h : mulOk i j = true) : binV .mul (.int i) (.int j) s = .ok (.int (i * j)) s := by
  simp only [binV, binI, h, if_true]
theorem mulOk_r {i j : Int} (h : j.natAbs < 2 ^ 64) : mulOk i j = true := by
  unfold mulOk
  rw [Bool.or_eq_true, Bool.or_eq_true]
  exact .inl (.inr (decide_eq_true h))
theorem mulOk_l {i j : Int} (h : i.natAbs < 2 ^ 64) : mulOk i j = true := by
  unfold mulOk
  rw [Bool.or_eq_true, Bool.or_eq_true]
  exact .inl (.inl (decide_eq_true h))
theorem bin_mod {i j : Int} {s : Store} (h : 0 < j) : binV .mod (.int i) (.int j) s = .ok (.int (i % j)) s := by
  simp only [binV, binI, if_pos h]
theorem bin_fdiv {i j : Int} {s : Store} (h : 0 < j) (h2 : j.natAbs.log2 < 9000) : binV .fdiv (.int i) (.int j) s = .ok (.int (i / j)) s := by
  simp only [binV, binI, if_pos (show 0 < j ∧ j.natAbs.log2 < 9000 from ⟨h, h2⟩)]
theorem bi_int_int {i : Int} {s : Store} : biV .int [.int i] s = .ok (.int i) s := rfl
theorem bi_abs_int {i : Int} {s : Store} : biV .abs [.int i] s = .ok (.int (if i < 0 then -i else i)) s := rfl
theorem cellL_of {s : Store} {n : Nat} {xs : List DV} (h : s[n]? = some (.lst xs)) : cellL s n = some xs := by
  unfold cellL
  rw [h]
theorem cellF_of {s : Store} {n : Nat} {xs : List DV} (h : s[n]? = some (.frz xs)) : cellL s n = some xs := by
  unfold cellL
  rw [h]
theorem item_ref {s : Store} {n : Nat} {xs : List DV} {i : Int} {v : DV} (h : cellL s n = some xs) (hv : L2.atI xs i = some v) : itemV (.ref n) (.int i) s = .ok v s := by
  simp only [itemV, h, hv, optR]
theorem item_tup {s : Store} {xs : List DV} {i : Int} {v : DV} (hv : L2.atI xs i = some v) : itemV (.tup xs) (.int i) s = .ok v s := by
  simp only [itemV, hv, optR]
theorem len_ref {s : Store} {n : Nat} {xs : List DV} (h : cellL s n = some xs) : biV .len [.ref n] s = .ok (.int xs.length) s := by
  simp only [biV, h]
theorem setV_ref {s : Store} {n : Nat} {xs : List DV} {i : Int} {j : Nat} {v : DV} (h : s[n]? = some (.lst xs)) (hj : L2.ixN xs.length i = some j) : setV (.ref n) (.int i) v s = some (s.set n (.lst (xs.set j v))) := by
  simp only [setV, h, hj]
theorem list_ref {s : Store} {n : Nat} {xs : List DV} (h : cellL s n = some xs) : biV .list [.ref n] s = .ok (.ref s.length) (s ++ [.lst xs]) := by
  simp only [biV, h]
theorem tuple_ref {s : Store} {n : Nat} {xs : List DV} (h : cellL s n = some xs) : biV .tuple [.ref n] s = .ok (.tup xs) s := by
  simp only [biV, h]
theorem lt_of_get {α : Type} {l : List α} {n : Nat} {a : α} (h : l[n]? = some a) : n < l.length := (List.getElem?_eq_some_iff.mp h).1
theorem get_set {α : Type} {l : List α} {n : Nat} {a b : α} (h : l[n]? = some a) : (l.set n b)[n]? = some b := List.getElem?_set_self (lt_of_get h)
theorem get_set_ne {α : Type} {l : List α} {n m : Nat} {b : α} (h : n ≠ m) : (l.set n b)[m]? = l[m]? := List.getElem?_set_ne h

/-! ### loops by a word -/
/-- a for whose turns keep a word: every turn goes on -/
theorem forL_word {f : Src} {body : DV → Loc → Store → Out} (Pv : List DV → Loc → Store → Prop) : ∀ {all done rest : List DV} {r : Loc} {s : Store}, all = done ++ rest → Pv done r s → (∀ d r s, Pv d r s → f.ok s) →
    (∀ d x e r s, all = d ++ x :: e → Pv d r s → ∃ r' s', (body x r s = .nx r' s' ∨ body x r s = .ct r' s') ∧ Pv (d ++ [x]) r' s') → ∃ r' s', forL f body rest r s = .nx r' s' ∧ Pv all r' s'
  | all, done, [], r, s, e, h, hf, hs => by
    rw [List.append_nil] at e
    subst e
    refine ⟨r, s, ?_, h⟩
    simp only [forL]
    rw [if_pos (hf _ _ _ h)]
  | all, done, x :: rest, r, s, e, h, hf, hs => by
    obtain ⟨r1, s1, h1, h2⟩ := hs done x rest r s e h
    obtain ⟨r2, s2, h3, h4⟩ := forL_word Pv (rest := rest) (r := r1) (s := s1) (by rw [e, List.append_assoc]; rfl) h2 hf hs
    refine ⟨r2, s2, ?_, h4⟩
    simp only [forL]
    rw [if_pos (hf _ _ _ h)]
    rcases h1 with h1 | h1 <;> rw [h1] <;> exact h3
theorem for_word {f : Src} {body : DV → Loc → Store → Out} {all : List DV} {r : Loc} {s : Store} (Pv : List DV → Loc → Store → Prop) (h0 : Pv [] r s) (hf : ∀ d r s, Pv d r s → f.ok s)
    (hs : ∀ d x e r s, all = d ++ x :: e → Pv d r s → ∃ r' s', (body x r s = .nx r' s' ∨ body x r s = .ct r' s') ∧ Pv (d ++ [x]) r' s') : ∃ r' s', forL f body all r s = .nx r' s' ∧ Pv all r' s' :=
  forL_word Pv (done := []) rfl h0 hf hs
/-- a for that ends as told -/
theorem evS_for {call : Nat → List DV → Store → Res DV} {G : Nat → Option DV} {sub : Nat → Nat → Bool} {t : CT} {it : CI} {b : CSs} {r : Loc} {s s1 : Store} {f : Src} {xs : List DV} {o : Out}
    (hi : evI call G sub it r s = .ok (f, xs) s1) (h : forL f (fun x r s => (evT call G sub t x r s).out r fun r s => evSs call G sub b r s) xs r s1 = o) : evS call G sub (.for_ t it b) r s = o := by
  simp only [evS]
  rw [hi]
  exact h
/-! ### while, turn by turn -/
theorem while_go {t : Loc → Store → Res Bool} {b : Loc → Store → Out} {n : Nat} {r r' : Loc} {s s1 s' : Store} (h1 : t r s = .ok true s1) (h2 : b r s1 = .nx r' s') : whileL t b (n + 1) r s = whileL t b n r' s' := by
  simp only [whileL]
  rw [h1]
  simp only [Res.out, cond]
  rw [h2]
theorem while_end {t : Loc → Store → Res Bool} {b : Loc → Store → Out} {n : Nat} {r : Loc} {s s1 : Store} (h1 : t r s = .ok false s1) : whileL t b (n + 1) r s = .nx r s1 := by
  simp only [whileL]
  rw [h1]
  rfl
theorem len_tup {xs : List DV} {s : Store} : biV .len [.tup xs] s = .ok (.int xs.length) s := rfl
theorem abs_nat {i : Int} {s : Store} : biV .abs [.int i] s = .ok (.int (i.natAbs : Int)) s := by
  have : (if i < 0 then -i else i) = (i.natAbs : Int) := by split <;> omega
  show Res.ok (DV.int (if i < 0 then -i else i)) s = _
  rw [this]
end Ip
end PtIpMath
section PtIpExc
set_option Elab.async false
set_option linter.all false
set_option maxRecDepth 100000
/-! errors of the program's own classes: raise, try .. except X as e, isinstance of what was caught; ints by name -/
namespace Ip
open PySem PySem.Spec PyProof.Rows L2

/-- what the written part says of a class below ValueError -/
structure OwnC (K : PySem.W.Frag) (mg : Str → Option Value) (x : Str) (C : Addr) : Prop where
  g : mg x = some (.ref C)
  k : PySem.W.keepIn K (.ref C) = true
  e : PySem.W.excIn K C [.type "ValueError", .type "Exception", .type "BaseException", .type "object"] "ValueError.__new__" = true
  b : PySem.W.subIn K (.ref C) (.type "BaseException") = some true
  t : PySem.W.typeIn K (.ref C) = some (.type "type")
  v : PySem.W.subIn K (.ref C) (.type "ValueError") = some true
  i : ExcC K C
/-- all classes -/
structure ClsT (K : PySem.W.Frag) (mg : Str → Option Value) (sub : Nat → Nat → Bool) (cls : Nat → Option Addr) : Prop where
  own : ∀ c C, cls c = some C → ∃ x, OwnC K mg x C
  sb : ∀ c C e D, cls c = some C → cls e = some D → PySem.W.subIn K (.ref D) (.ref C) = some (sub e c)
  refl : ∀ c C, cls c = some C → sub c c = true
section
variable {K : PySem.W.Frag} {mg : Str → Option Value} {sub : Nat → Nat → Bool} {cls : Nat → Option Addr} {c e : Nat} {C D : Addr}
theorem ClsT.exm (M : ClsT K mg sub cls) (hc : cls c = some C) (he : cls e = some D) : PySem.W.exmOne K (.ref D) (.ref C) = some (sub e c) := by
  obtain ⟨x, O⟩ := M.own c C hc
  exact PySem.W.exm_ref O.b O.i.hd O.t (M.sb c C e D hc he)
theorem ClsT.kit (M : ClsT K mg sub cls) (hc : cls c = some C) (he : cls e = some D) : PySem.W.kitOne K (.ref D) (.ref C) = some (sub e c) := by
  obtain ⟨x, O⟩ := M.own c C hc
  have h := M.sb c C e D hc he
  by_cases q : D = C
  · subst q
    have h2 := M.sb c D c D hc hc
    rw [M.refl c D hc, h] at h2
    rw [h2]
    unfold PySem.W.kitOne
    rw [if_pos (beq_self_eq_true _)]
  · unfold PySem.W.kitOne
    rw [if_neg (fun z => q (Value.ref.inj (beq_iff_eq.mp z)))]
    obtain ⟨cd, hcd, _⟩ := PySem.W.any_some O.i.hd
    show (if ((PySem.W.clsIn K C).isSome && PySem.W.typeIn K (.ref C) == some (.type "type")) = true then PySem.W.subIn K (.ref D) (.ref C) else none) = some (sub e c)
    have e2 : ((PySem.W.clsIn K C).isSome && PySem.W.typeIn K (.ref C) == some (.type "type")) = true := by rw [hcd, O.t] <;> rfl
    rw [if_pos e2]
    exact h
theorem kit_meta : PySem.W.kitMeta "ValueError" = true := by decide +kernel
theorem ClsT.ve (M : ClsT K mg sub cls) (he : cls e = some D) : PySem.W.kitOne K (.ref D) (.type "ValueError") = some true := by
  obtain ⟨x, O⟩ := M.own e D he
  unfold PySem.W.kitOne
  have q : (Value.ref D == Value.type "ValueError") = false := Bool.eq_false_iff.mpr fun z => by
    have z := beq_iff_eq.mp z
    cases z
  rw [q, if_neg Bool.false_ne_true]
  show (if PySem.W.kitMeta "ValueError" = true then PySem.W.subIn K (.ref D) (.type "ValueError") else none) = some true
  rw [if_pos kit_meta]
  exact O.v
end

section
variable {T : Tb} {X : Cx} {ex : Option (Addr × Nat)} {W : WX} {a b : Expr} {pos : Pos} {ct : CT} {ci : CI} {st : Stmt} {sts : List Stmt} {cs : CS} {css : CSs}
theorem ss_raise (c : Nat) {C : Addr} {x m : Str} {j : Nat} {p p2 p3 : Pos} (hcls : T.cls c = some C) (O : OwnC X.K X.mg x C) (tk : Takes X W) (hc : X.calm = true := by rfl) (hg : Gl X x := by rfl) (hd : (x == ("__debug__" : Str)) = false := by decide) :
    SS T X ex W (.Raise (some (.Call (.Name x p) [.Constant (.str m) j p2] [] p3)) none pos) (.raise c) :=
  ⟨(ps_raise hc tk (pmk_own PySem.F.excBase_ValueError O.e O.g O.k (raises_own O.b O.t) hg hd)).imp fun D σ H h => by
    obtain ⟨μ, r, s, R, L, h⟩ := h
    exact h μ H σ Le.refl R L C hcls⟩
theorem LR.setx {K : PySem.W.Frag} {μ : List Addr} {H : Hp} {σ : L2.St} {r : Loc} {i e : Nat} {a : Addr} (h : LR K none μ H σ r) : LR K (some (a, e)) μ H (σ.set i (some (.ref a))) (r.set i (some (.exc e))) := by
  refine ⟨by rw [List.length_set, List.length_set]; exact h.len, fun j d hd => ?_⟩
  by_cases hij : i = j
  · subst hij
    have hlt : i < (r.set i (some (.exc e))).length := (List.getElem?_eq_some_iff.mp hd).1
    rw [List.length_set] at hlt
    rw [List.getElem?_set_self hlt] at hd
    cases hd
    exact .inr ⟨a, e, rfl, rfl, by rw [List.getElem?_set_self (by rw [← h.len]; exact hlt)]⟩
  · rw [List.getElem?_set_ne hij] at hd
    rw [List.getElem?_set_ne hij]
    rcases h.at_ j d hd with h | ⟨_, _, _, h2, _⟩
    · exact .inl h
    · cases h2
theorem LR.unx {K : PySem.W.Frag} {μ : List Addr} {H : Hp} {σ : L2.St} {r : Loc} {ex : Option (Addr × Nat)} (h : LR K ex μ H σ r) (hx : noX r = true) : LR K none μ H σ r := ⟨h.len, fun i d q => by
  rcases h.at_ i d q with h | ⟨a, c, h1, _, _⟩
  · exact .inl h
  · subst h1
    have := List.all_eq_true.mp hx _ (List.mem_of_getElem? q)
    cases this⟩
theorem ss_try_as (i c : Nat) {C : Addr} {x n : Str} {np p1 : Pos} {body suite : List Stmt} {b₀ : Stmt} {cb ch : CSs} (M : ClsT X.K X.mg T.sub T.cls) (hcls : T.cls c = some C) (O : OwnC X.K X.mg x C) (tk : Takes X W) (hN : X.N.Nodup)
    (hb : ∀ (W : WX) (pn : List (Addr × Obj)) (xe : Value → Shared → Prop), Takes (X.tr pn xe) W → PassesOwn (model X.prog X.w) X.A X.env xe → SSs T (X.tr pn xe) none W body cb)
    (hsu : ∀ (a : Addr) (oe : Obj) (D : Addr) (e : Nat) (pn : List (Addr × Obj)), T.cls e = some D → Zc (.ref D) none oe → (∃ vs, oe.data = .fields vs) → SSs T (X.suite a ((a, oe) :: pn)) (some (a, e)) (fun _ _ _ _ => False) (b₀ :: suite) ch)
    (hs : X.stack = X.env :: X.outer := by rfl) (hf : X.env.frame = some X.env.locals := by rfl) (hi : X.N[i]? = some n := by rfl) (hln : X.env.kindOf n = some .local := by rfl) (hg : Gl X x := by rfl) (hd : (x == ("__debug__" : Str)) = false := by decide) :
    SS T X none W (.Try body [.ExceptHandler (some (.Name x np)) (some n) (b₀ :: suite) p1] [] [] pos) (.try_ cb c (some i) ch) :=
  ⟨(ps_try_as (c := .ref C) (tb := fun W => tSs T X.K none W cb) (ts := fun a cls d D σ H => ∃ (e : Nat) (D' : Addr), cls = .ref D' ∧ d = none ∧ T.cls e = some D' ∧ tSs T X.K (some (a, e)) (fun _ _ _ _ => False) ch D σ H) hs hf hN hi hln ⟨hg, hd, .inl O.g⟩ tk
    (fun W pn xe tk hp => (hb W pn xe tk hp).ps)
    (fun a oe cls d pn hz hf => ⟨fun pins s σ H D I q => by
      obtain ⟨e, D', rfl, rfl, he, q⟩ := q
      exact (hsu a oe D' e pn he hz hf).ps.run pins s σ H D I q⟩)).imp fun D σ H h => by
    obtain ⟨μ, r, s, R, L, h⟩ := h
    refine ⟨μ, r, s, R, L, ?_⟩
    simp only [evS] at h
    cases hm : evSs T.call T.G T.sub cb r s with
    | nx r1 s1 => rw [hm] at h; exact h
    | rt v s1 => rw [hm] at h; exact h
    | bk r1 s1 => rw [hm] at h; exact h
    | ct r1 s1 => rw [hm] at h; exact h
    | stuck => rw [hm] at h; exact h
    | exc d r1 s1 =>
      rw [hm] at h
      intro μ' H' σ' le R' L' D' hD
      simp only [Out.catch] at h
      refine ⟨T.sub d c, M.exm hcls hD, fun hb a ha => ?_, fun hb => ?_⟩
      · rw [hb] at h
        refine ⟨d, D', rfl, rfl, hD, μ', _, s1, R', L'.setx, ?_⟩
        simp only [cond] at h
        cases hn : evSs T.call T.G T.sub ch (r1.set i (some (.exc d))) s1 with
        | nx r2 s2 =>
          rw [hn] at h
          simp only [Out.unset] at h
          split at h
          · rename_i hx
            exact fun μ2 H2 σ2 le2 R2 L2 => h μ2 H2 _ (le.trans le2) R2 (L2.del.unx hx)
          · exact h.elim
        | bk r2 s2 =>
          rw [hn] at h
          simp only [Out.unset] at h
          split at h
          · rename_i hx
            exact fun μ2 H2 σ2 le2 R2 L2 => h μ2 H2 _ (le.trans le2) R2 (L2.del.unx hx)
          · exact h.elim
        | ct r2 s2 =>
          rw [hn] at h
          simp only [Out.unset] at h
          split at h
          · rename_i hx
            exact fun μ2 H2 σ2 le2 R2 L2 => h μ2 H2 _ (le.trans le2) R2 (L2.del.unx hx)
          · exact h.elim
        | rt v s2 =>
          rw [hn] at h
          exact fun μ2 H2 u le2 R2 hu => h μ2 H2 u (le.trans le2) R2 hu
        | exc e r2 s2 => rw [hn] at h; exact h.elim
        | stuck => rw [hn] at h; exact h.elim
      · rw [hb] at h
        exact h μ' H' σ' le R' L' D' hD⟩
theorem ss_try_only (c : Nat) {C : Addr} {x : Str} {np p1 : Pos} {body suite : List Stmt} {b₀ : Stmt} {cb ch : CSs} (M : ClsT X.K X.mg T.sub T.cls) (hcls : T.cls c = some C) (O : OwnC X.K X.mg x C) (tk : Takes X W)
    (hb : ∀ (W : WX) (pn : List (Addr × Obj)) (xe : Value → Shared → Prop), Takes (X.tr pn xe) W → PassesOwn (model X.prog X.w) X.A X.env xe → SSs T (X.tr pn xe) none W body cb)
    (hsu : ∀ (a : Addr) (oe : Obj) (pn : List (Addr × Obj)), SSs T (X.suite a ((a, oe) :: pn)) none (fun _ _ _ _ => False) (b₀ :: suite) ch)
    (hs : X.stack = X.env :: X.outer := by rfl) (hf : X.env.frame = some X.env.locals := by rfl) (hg : Gl X x := by rfl) (hd : (x == ("__debug__" : Str)) = false := by decide) :
    SS T X none W (.Try body [.ExceptHandler (some (.Name x np)) none (b₀ :: suite) p1] [] [] pos) (.try_ cb c none ch) :=
  ⟨(ps_try_only (c := .ref C) (tb := fun W => tSs T X.K none W cb) (ts := fun a cls d D σ H => tSs T X.K none (fun _ _ _ _ => False) ch D σ H) hs hf ⟨hg, hd, .inl O.g⟩ tk
    (fun W pn xe tk hp => (hb W pn xe tk hp).ps)
    (fun a oe cls d pn hz hf => (hsu a oe pn).ps)).imp fun D σ H h => by
    obtain ⟨μ, r, s, R, L, h⟩ := h
    refine ⟨μ, r, s, R, L, ?_⟩
    simp only [evS] at h
    cases hm : evSs T.call T.G T.sub cb r s with
    | nx r1 s1 => rw [hm] at h; exact h
    | rt v s1 => rw [hm] at h; exact h
    | bk r1 s1 => rw [hm] at h; exact h
    | ct r1 s1 => rw [hm] at h; exact h
    | stuck => rw [hm] at h; exact h
    | exc d r1 s1 =>
      rw [hm] at h
      intro μ' H' σ' le R' L' D' hD
      simp only [Out.catch] at h
      refine ⟨T.sub d c, M.exm hcls hD, fun hb a ha => ?_, fun hb => ?_⟩
      · rw [hb] at h
        refine ⟨μ', r1, s1, R', L', ?_⟩
        simp only [cond] at h
        cases hn : evSs T.call T.G T.sub ch r1 s1 with
        | nx r2 s2 =>
          rw [hn] at h
          exact fun μ2 H2 σ2 le2 R2 L2 => h μ2 H2 _ (le.trans le2) R2 L2
        | bk r2 s2 =>
          rw [hn] at h
          exact fun μ2 H2 σ2 le2 R2 L2 => h μ2 H2 _ (le.trans le2) R2 L2
        | ct r2 s2 =>
          rw [hn] at h
          exact fun μ2 H2 σ2 le2 R2 L2 => h μ2 H2 _ (le.trans le2) R2 L2
        | rt v s2 =>
          rw [hn] at h
          exact fun μ2 H2 u le2 R2 hu => h μ2 H2 u (le.trans le2) R2 hu
        | exc e r2 s2 => rw [hn] at h; exact h.elim
        | stuck => rw [hn] at h; exact h.elim
      · rw [hb] at h
        exact h μ' H' σ' le R' L' D' hD⟩
/-! ### isinstance of what was caught -/
theorem se_isx (i c : Nat) {C D a : Addr} {e : Nat} {oe : Obj} {pn : List (Addr × Obj)} {x n : Str} {p p1 p2 : Pos} (M : ClsT X.K X.mg T.sub T.cls) (hcls : T.cls c = some C) (O : OwnC X.K X.mg x C) (he : T.cls e = some D) (hz : Zc (.ref D) none oe) (hf : ∃ vs, oe.data = .fields vs)
    (hm : X.mg "isinstance" = none) (hN : X.N[i]? = some n := by rfl) (hv : Vis X.env.scope n := by first | exact Or.inl rfl | exact Or.inr (Or.inl rfl) | exact Or.inr (Or.inr rfl)) (hd : (n == ("__debug__" : Str)) = false := by decide) (hcd : (n == ("__classdict__" : Str)) = false := by decide)
    (hg : Gl X "isinstance" := by rfl) (hg2 : Gl X x := by rfl) (hxd : (x == ("__debug__" : Str)) = false := by decide)
    (hst : starEach [.Name n p1, .Name x p2] X.env = (false, eval (.Name n p1) X.env) :: starEach [.Name x p2] X.env := by rfl) :
    SE T (X.suite a ((a, oe) :: pn)) (some (a, e)) W (.Call (.Name "isinstance" p) [.Name n p1, .Name x p2] [] pos) (.isx i (.own c)) := by
  obtain ⟨x', O'⟩ := M.own e D he
  refine ⟨(pe_callB (X := X.suite a ((a, oe) :: pn)) (call_isE O'.i hz hf) hg hm boot_isinstance (pa_cons (pe_var hN hv hd hcd) (pa_cons (pe_glob (X := X.suite a ((a, oe) :: pn)) (v := .ref C) hg2 O.g rfl hxd) pa_nil) hst) (by decide) (by decide) hst rfl).imp fun σ H Q h => ?_⟩
  obtain ⟨μ, r, s, R, L, h⟩ := h
  simp only [evE] at h
  cases hr : r[i]? with
  | none => rw [hr] at h; exact h.elim
  | some o =>
    rw [hr] at h
    cases o with
    | none => exact h.elim
    | some d =>
      cases d with
      | exc d =>
        rcases L.at_ i _ hr with ⟨v, _, h2⟩ | ⟨a', c', h1, h2, h3⟩
        · cases h2
        · cases h1
          cases h2
          exact ⟨.ref a, h3, .ref C, .ref C, T.sub e c, rfl, fun u r => r, M.kit hcls he, h.ok R _ (.bl _)⟩
      | _ => exact h.elim
theorem se_isv (i : Nat) {D a : Addr} {e : Nat} {oe : Obj} {pn : List (Addr × Obj)} {n : Str} {p p1 p2 : Pos} (M : ClsT X.K X.mg T.sub T.cls) (he : T.cls e = some D) (hz : Zc (.ref D) none oe) (hf : ∃ vs, oe.data = .fields vs)
    (hm : X.mg "isinstance" = none) (hm2 : X.mg "ValueError" = none) (hv2 : bootBuiltins "ValueError" = some (.type "ValueError")) (hN : X.N[i]? = some n := by rfl) (hv : Vis X.env.scope n := by first | exact Or.inl rfl | exact Or.inr (Or.inl rfl) | exact Or.inr (Or.inr rfl)) (hd : (n == ("__debug__" : Str)) = false := by decide) (hcd : (n == ("__classdict__" : Str)) = false := by decide)
    (hg : Gl X "isinstance" := by rfl) (hg2 : Gl X "ValueError" := by rfl)
    (hst : starEach [.Name n p1, .Name "ValueError" p2] X.env = (false, eval (.Name n p1) X.env) :: starEach [.Name "ValueError" p2] X.env := by rfl) :
    SE T (X.suite a ((a, oe) :: pn)) (some (a, e)) W (.Call (.Name "isinstance" p) [.Name n p1, .Name "ValueError" p2] [] pos) (.isx i (.ty "ValueError")) := by
  obtain ⟨x', O'⟩ := M.own e D he
  refine ⟨(pe_callB (X := X.suite a ((a, oe) :: pn)) (call_isE O'.i hz hf) hg hm boot_isinstance (pa_cons (pe_var hN hv hd hcd) (pa_cons (pe_bltn (X := X.suite a ((a, oe) :: pn)) (v := .ty "ValueError") hg2 hm2 hv2 rfl (by decide) (by decide)) pa_nil) hst) (by decide) (by decide) hst rfl).imp fun σ H Q h => ?_⟩
  obtain ⟨μ, r, s, R, L, h⟩ := h
  simp only [evE] at h
  cases hr : r[i]? with
  | none => rw [hr] at h; exact h.elim
  | some o =>
    rw [hr] at h
    cases o with
    | none => exact h.elim
    | some d =>
      cases d with
      | exc d =>
        rcases L.at_ i _ hr with ⟨v, _, h2⟩ | ⟨a', c', h1, h2, h3⟩
        · cases h2
        · cases h1
          cases h2
          simp only [if_true] at h
          exact ⟨.ref a, h3, .ty "ValueError", .type "ValueError", true, rfl, fun u r => r, M.ve he, h.ok R _ (.bl _)⟩
      | _ => exact h.elim
/-! ### an int by name -/
theorem se_globI (g : Nat) {x : Str} {i : Int} {p : Pos} (hG : T.G g = some (.int i)) (hm : ∃ t, X.mg x = some (.int i t)) (hg : Gl X x := by rfl) (hd : (x == ("__debug__" : Str)) = false := by decide) : SE T X ex W (.Name x p) (.glob g) := by
  obtain ⟨t, hm⟩ := hm
  exact ⟨(pe_glob (v := .int i) hg hm ⟨t, rfl⟩ hd).imp fun σ H Q h => by
    obtain ⟨μ, r, s, R, L, h⟩ := h
    simp only [evE, hG] at h
    exact h.ok R _ (.int i)⟩
/-! ### gcd -/
theorem se_gcd {x : Str} {p : Pos} {e : Expr} {es : List Expr} {cs : CEs} (hm : X.mg x = some (.builtin "math.gcd")) (ha : SEs T X ex W (e :: es) cs) (hg : Gl X x := by rfl) (hdb : (x == ("__debug__" : Str)) = false := by decide)
    (he : starEach (e :: es) X.env = (false, eval e X.env) :: starEach es X.env := by rfl) (hpl : (backTo pos (starEach es X.env)).any (·.1) = false := by rfl) : SE T X ex W (.Call (.Name x p) (e :: es) [] pos) (.bi .gcd cs) :=
  ⟨(pe_callBfun cr_gcd hg hm ha.pa hdb he hpl).imp fun σ H Q h => by
    obtain ⟨μ, r, s, R, L, h⟩ := h
    refine ⟨μ, r, s, R, L, h.bind.map fun μ1 H1 s1 xs le1 R1 h1 vs hv => ?_⟩
    match hv with
    | .nil => exact h1.elim
    | .cons hx .nil => cases hx <;> exact h1.elim
    | .cons hx (.cons hy .nil) =>
      cases hx with
      | int i =>
        cases hy with
        | int j => exact ⟨i, j, rfl, h1.ok R1 _ (.int _)⟩
        | _ => exact h1.elim
      | _ => cases hy <;> exact h1.elim
    | .cons hx (.cons hy (.cons hz hr)) => cases hx <;> (first | exact h1.elim | (cases hy <;> exact h1.elim))⟩
end
/-! ### the classes by a list, the law whatever the classes are -/
def clsOf (l : List Addr) : Nat → Option Addr := fun i => l[i]?
def spO (call : Nat → List DV → Store → Res DV) (K : PySem.W.Frag) (f np : Nat) : Sp := fun vs H Q _ => ∃ μ s ds d s', Rel K μ H s ∧ VRs K μ H vs ds ∧ ds.length = np ∧ call f ds s = .ok d s' ∧ ∀ μ' H', Le K μ H μ' H' → Rel K μ' H' s' → ∀ v, VR K μ' H' v d → Q v H'
theorem spO_spC {T : Tb} {K : PySem.W.Frag} {f np : Nat} (vs : List V) (H : Hp) (Q : VK) (E : XK) (h : spO T.call K f np vs H Q E) : spC T K f np vs H Q E := by
  obtain ⟨μ, s, ds, d, s', R, hv, hl, e, h⟩ := h
  refine ⟨μ, s, ds, R, hv, hl, ?_⟩
  rw [e]
  exact h
theorem law_spO {K : PySem.W.Frag} {H : Hp} {a : Addr} {ns : List Int} {call : Nat → List DV → Store → Res DV} {f : Nat} (hl : ns.length ≤ 63) (ho : Only H) (h : SqL K H a (ns.map V.int))
    (run : ∃ s', call f [.ref 0] [.frz (ns.map DV.int)] = .ok (.bl true) s') : spO call K f 1 [.ref a] H (fun v _ => v = .bl true) fun _ _ _ => False := by
  obtain ⟨s', run⟩ := run
  refine ⟨[a], [.frz (ns.map DV.int)], [.ref 0], .bl true, s', ⟨rfl, fun n m b xs ys h1 h2 h3 h4 t1 t2 => ?_, fun n b c h1 h2 => ?_⟩, .cons (.ref rfl) .nil, rfl, run, fun μ' H' le R v hv => by
    cases hv
    rfl⟩
  · cases n with
    | zero => cases h3; exact t1.elim
    | succ n => simp at h3
  · cases n with
    | zero =>
      cases h1
      cases h2
      refine ⟨ns.map V.int, ?_, ints_vrs ns, by rw [List.length_map]; exact Nat.le_trans hl (by decide)⟩
      rcases h with (h | ⟨o, h⟩) | h
      · rcases ho a with q | ⟨o, xs, q⟩
        · rw [q] at h; cases h
        · rw [q] at h; cases h
      · exact .inl ⟨o, h⟩
      · exact .inr h
    | succ n => simp at h2
end Ip
end PtIpExc
section PtIpComp
set_option Elab.async false
set_option linter.all false
set_option maxRecDepth 100000
/-! comprehensions -/
namespace Ip
open PySem PySem.Spec PyProof.Rows L2

theorem wipe_set_none {σ : L2.St} {i : Nat} {x : Option V} : ∀ vs : List Nat, (L2.wipe (σ.set i x) vs).set i none = (L2.wipe σ vs).set i none
  | [] => by simp only [L2.wipe, List.set_set]
  | v :: vs => by
    simp only [L2.wipe]
    by_cases h : v = i
    · subst h
      rw [wipe_set_none vs]
    · rw [List.set_comm _ _ h, wipe_set_none vs, List.set_comm _ _ h]
theorem wipe_set {σ : L2.St} {i : Nat} {x : Option V} : ∀ {vs : List Nat}, i ∈ vs → L2.wipe (σ.set i x) vs = L2.wipe σ vs
  | v :: vs, h => by
    simp only [L2.wipe]
    rcases List.mem_cons.mp h with rfl | h
    · exact wipe_set_none vs
    · rw [wipe_set h]
theorem wipe_sub {σ : L2.St} {vs : List Nat} : ∀ {ws : List Nat}, (∀ w ∈ ws, w ∈ vs) → L2.wipe (L2.wipe σ ws) vs = L2.wipe σ vs
  | [], _ => rfl
  | w :: ws, h => by
    simp only [L2.wipe]
    rw [wipe_set (h w List.mem_cons_self)]
    exact wipe_sub fun u hu => h u (List.mem_cons_of_mem _ hu)

def tGw (T : Tb) (K : PySem.W.Frag) (ex : Option (Addr × Nat)) (c : CT) (vs : List Nat) : TG := fun v σ H Q =>
  ∃ μ r s d, Rel K μ H s ∧ LR K ex μ H σ r ∧ VR K μ H v d ∧ Go K μ H (evT T.call T.G T.sub c d r s) (fun _ _ => False) (fun μ' H' _ r' => ∀ σ', LR K ex μ' H' σ' r' → L2.wipe σ' vs = L2.wipe σ vs → Q σ' H')
def tGsw (T : Tb) (K : PySem.W.Frag) (ex : Option (Addr × Nat)) (c : CTs) (vs : List Nat) : TGs := fun us σ H Q =>
  ∃ μ r s ds, Rel K μ H s ∧ LR K ex μ H σ r ∧ VRs K μ H us ds ∧ Go K μ H (evTs T.call T.G T.sub c ds r s) (fun _ _ => False) (fun μ' H' _ r' => ∀ σ', LR K ex μ' H' σ' r' → L2.wipe σ' vs = L2.wipe σ vs → Q σ' H')
/-- a target of a comprehension: only its own names -/
structure SGw (T : Tb) (X : Cx) (ex : Option (Addr × Nat)) (vs : List Nat) (e : Expr) (c : CT) : Prop where
  pg : PG X e (tGw T X.K ex c vs)
structure SGsw (T : Tb) (X : Cx) (ex : Option (Addr × Nat)) (vs : List Nat) (es : List Expr) (c : CTs) : Prop where
  pg : PGs X es (tGsw T X.K ex c vs)
def tIf (T : Tb) (K : PySem.W.Frag) (ex : Option (Addr × Nat)) (c : CEs) : TT := fun σ H Q =>
  ∃ μ r s, Rel K μ H s ∧ LR K ex μ H σ r ∧ Go K μ H (evAll T.call T.G T.sub c r s) (fun _ _ => False) (fun _ H' _ b => Q b H')
structure SIf (T : Tb) (X : Cx) (ex : Option (Addr × Nat)) (es : List Expr) (c : CEs) : Prop where
  pts : PTs X es (tIf T X.K ex c)
section
variable {T : Tb} {X : Cx} {ex : Option (Addr × Nat)} {W : WX} {e : Expr} {es : List Expr} {ct : CT} {cts : CTs} {ce : CE} {pos : Pos} {vs : List Nat}
theorem sgw_name (i : Nat) {x : Str} (hN : X.N.Nodup) (hv : i ∈ vs := by decide) (hi : X.N[i]? = some x := by rfl) (hx : L2.Loc X.env.scope x := by first | exact Or.inl rfl | exact Or.inr rfl) (hf : X.fn x = true ∨ X.env.scope.names.lookup x = some .local := by first | exact .inl rfl | exact .inr rfl) :
    SGw T X ex vs (.Name x pos) (.name i) := ⟨(pg_name hN hi hx hf).imp fun v σ H Q h => by
  obtain ⟨μ, r, s, d, R, L, hd, h⟩ := h
  simp only [evT] at h
  split at h
  · exact h.ok R _ (L.set hd) (wipe_set hv)
  · exact h.elim⟩
theorem sgsw_nil : SGsw T X ex vs [] .nil := ⟨pgs_nil.imp fun us σ H Q h => by
  obtain ⟨μ, r, s, ds, R, L, hv, h⟩ := h
  cases hv with
  | nil => exact ⟨rfl, h.ok R _ L rfl⟩
  | cons _ _ => exact h.elim⟩
theorem sgsw_cons (h1 : SGw T X ex vs e ct) (h2 : SGsw T X ex vs es cts) (hs : (assignEach (e :: es) X.env).map (·.2) = assign e X.env :: (assignEach es X.env).map (·.2) := by rfl) : SGsw T X ex vs (e :: es) (.cons ct cts) := ⟨(pgs_cons h1.pg h2.pg hs).imp fun us σ H Q h => by
  obtain ⟨μ, r, s, ds, R, L, hv, h⟩ := h
  cases hv with
  | nil => exact h.elim
  | cons h3 h4 =>
    exact ⟨_, _, rfl, μ, r, s, _, R, L, h3, h.bind.map fun μ1 H1 s1 r1 le1 R1 q σ1 L1 w1 => ⟨μ1, r1, s1, _, R1, L1, h4.mono le1, q.map fun _ _ _ _ _ _ z σ2 L2 w2 => z σ2 L2 (w2.trans w1)⟩⟩⟩
theorem sgw_tup {k n : Nat} (hc : X.calm = true) (h : SGsw T X ex vs es cts) (hlen : ∀ xs r s r' s', evTs T.call T.G T.sub cts xs r s = .ok r' s' → xs.length = n)
    (hn : (assignEach es X.env).length = n := by rfl) (hst : (assignEach es X.env).findIdx? (·.1) = none := by rfl) : SGw T X ex vs (.Tuple es k pos) (.tup cts) :=
  ⟨⟨fun pins s0 σ H v u Q I rv h' => by
    obtain ⟨μ, r, s, d, R, L, hv, hg⟩ := h'
    have key : ∀ (us : List V) (ds : List DV), VRs X.K μ H us ds → Go X.K μ H (evTs T.call T.G T.sub cts ds r s) (fun _ _ => False) (fun μ' H' _ r' => ∀ σ', LR X.K ex μ' H' σ' r' → L2.wipe σ' vs = L2.wipe σ vs → Q σ' H') → us.length = n ∧ tGsw T X.K ex cts vs us σ H Q := fun us ds hv hg => by
      refine ⟨?_, μ, r, s, ds, R, L, hv, hg⟩
      rw [hv.length]
      cases hm : evTs T.call T.G T.sub cts ds r s with
      | ok r' s' => exact hlen _ _ _ _ _ hm
      | exc c s' => exact absurd hm (evTs_noexc _ _ _ _ _ _)
      | stuck => rw [hm] at hg; exact hg.elim
    cases hv with
    | tup h1 h2 =>
      obtain ⟨k1, k2⟩ := key _ _ h2 hg
      exact (pg_tup hc h.pg hn hst).run pins s0 σ H _ u Q I rv ⟨_, _, rfl, h1.sq, k1, k2⟩
    | ref hm =>
      simp only [evT] at hg
      split at hg
      · rename_i xs hc'
        obtain ⟨us, c1, c2⟩ := R.cellL hm hc'
        obtain ⟨k1, k2⟩ := key _ _ c2 hg
        exact (pg_lst hc h.pg hn hst).run pins s0 σ H _ u Q I rv ⟨_, _, rfl, c1, k1, k2⟩
      · exact hg.elim
    | _ => exact hg.elim⟩⟩
theorem _root_.L2.PTs.imp {X : Cx} {es : List Expr} {t t' : TT} (h : PTs X es t) (f : ∀ σ H Q, t' σ H Q → t σ H Q) : PTs X es t' := ⟨fun pins s σ H Q I q => h.run pins s σ H Q I (f σ H Q q)⟩
theorem sif_nil : SIf T X ex [] .nil := ⟨pts_nil.imp fun σ H Q h => by
  obtain ⟨μ, r, s, R, L, h⟩ := h
  exact h.ok R⟩
theorem sif_one (h1 : ST T X ex (fun _ _ _ _ => False) e ce) : SIf T X ex [e] (.cons ce .nil) := ⟨(pts_one h1.pt).imp fun σ H Q h => by
  obtain ⟨μ, r, s, R, L, h⟩ := h
  refine ⟨μ, r, s, R, L, ?_⟩
  simp only [evAll] at h
  cases hm : evE T.call T.G T.sub ce r s with
  | ok v s1 =>
    rw [hm] at h
    simp only [Res.bind] at h ⊢
    cases ht : truth v s1 with
    | ok b s2 =>
      rw [ht] at h
      cases b <;> exact h
    | exc c s2 => exact absurd ht truth_noexc
    | stuck => rw [ht] at h; exact h
  | exc c s1 => rw [hm] at h; exact fun μ' H' le R' => (h μ' H' le R').elim
  | stuck => rw [hm] at h; exact h⟩
/-- [e for t in it if ..] -/
theorem lc_imp {σ : L2.St} {H : Hp} {Q : VK} {K : PySem.W.Frag} {ci : CI} {cis : CEs} {own : List Nat} (h : tE T K ex W (.lc ct ci cis ce own) σ H Q) :
    tLc (tI T K ex W ci) (tGw T K ex ct own) (tIf T K ex cis) (tE T K ex (fun _ _ _ _ => False) ce) own σ H Q := by
  obtain ⟨μ, r, s, R, L, h⟩ := h
  simp only [evE] at h
  generalize hb : (fun (x : DV) (s : Store) => (evT T.call T.G T.sub ct x (Ip.wipe r own) s).bind fun r s => (evAll T.call T.G T.sub cis r s).bind fun b s => cond b ((evE T.call T.G T.sub ce r s).bind fun v s => Res.ok (some v) s) (.ok none s)) = body at h
  refine ⟨μ, r, s, R, L, ?_⟩
  cases hm : evI T.call T.G T.sub ci r s with
  | exc c s1 => rw [hm] at h; exact h
  | stuck => rw [hm] at h; exact h
  | ok q s1 =>
    rw [hm] at h
    simp only [Res.bind] at h
    intro μ1 H1 le1 R1 J wk D hD
    have le2 : Le K μ1 H1 (μ1 ++ [D]) (L2.upd H1 D (.lst [])) := le_new hD
    have h := Go.later h (le1.trans le2)
    have R2 : Rel K (μ1 ++ [D]) (L2.upd H1 D (.lst [])) (s1 ++ [.lst []]) := R1.new hD .nil (Nat.zero_le _)
    have pD : (μ1 ++ [D])[s1.length]? = some D := by rw [← R1.len]; exact get_app_n
    refine ⟨fun i m H => m = q.2.length - i ∧ i ≤ q.2.length ∧ ∃ μ s, Le K (μ1 ++ [D]) (L2.upd H1 D (.lst [])) μ H ∧ Rel K μ H s ∧ LR K ex μ H σ r ∧ Go K μ H (lcL s1.length q.1 body (q.2.drop i) s) (fun c H' => ∀ C, T.cls c = some C → W (.ref C) none σ H') (fun μ' H' _ d => ∀ v, VR K μ' H' v d → Q v H'),
      ⟨_, rfl, Nat.zero_le _, μ1 ++ [D], _, Le.refl, R2, (L.mono le1).mono le2, h⟩, ?_⟩
    rintro i m H2 ⟨rfl, hi, μ2, s2, le3, R3, L3, h2⟩
    by_cases hlt : i < q.2.length
    · refine .inr ?_
      have hd : q.2[i]? = some q.2[i] := List.getElem?_eq_getElem hlt
      rw [List.drop_eq_getElem_cons hlt] at h2
      simp only [lcL] at h2
      split at h2
      · rename_i hf
        obtain ⟨g1, g2⟩ := wk.go i _ μ2 H2 s2 (le2.trans le3) R3 hf hd
        refine ⟨g1, fun H' => ∃ μ s, Le K (μ1 ++ [D]) (L2.upd H1 D (.lst [])) μ H' ∧ Rel K μ H' s ∧ LR K ex μ H' σ r ∧ Go K μ H' (lcL s1.length q.1 body (q.2.drop (i + 1)) s) (fun c H' => ∀ C, T.cls c = some C → W (.ref C) none σ H') (fun μ' H' _ d => ∀ v, VR K μ' H' v d → Q v H'),
          fun H' hN => ⟨_, by omega, rfl, hlt, hN⟩, fun x H3 hy => ?_⟩
        obtain ⟨l4, R4, rx⟩ := g2 x H3 hy
        have L4 := L3.mono l4
        refine ⟨μ2, Ip.wipe r own, s2, q.2[i], R4, L4.wipe own, rx, ?_⟩
        have hbx : body q.2[i] s2 = (evT T.call T.G T.sub ct q.2[i] (Ip.wipe r own) s2).bind fun r s => (evAll T.call T.G T.sub cis r s).bind fun b s => cond b ((evE T.call T.G T.sub ce r s).bind fun v s => Res.ok (some v) s) (.ok none s) := by rw [← hb]
        rw [hbx] at h2
        cases h5 : evT T.call T.G T.sub ct q.2[i] (Ip.wipe r own) s2 with
        | exc c s3 => exact absurd h5 (evT_noexc _ _ _ _ _ _)
        | stuck => rw [h5] at h2; exact h2.elim
        | ok r5 s5 =>
          rw [h5] at h2
          simp only [Res.bind] at h2
          intro μ5 H5 le5 R5 σ5 L5 w5
          refine ⟨w5.trans (wipe_sub fun _ h => h), μ5, r5, s5, R5, L5, ?_⟩
          have h2 := Go.later h2 (l4.trans le5)
          cases h6 : evAll T.call T.G T.sub cis r5 s5 with
          | exc c s6 => rw [h6] at h2; exact h2.elim
          | stuck => rw [h6] at h2; exact h2.elim
          | ok b s6 =>
            rw [h6] at h2
            intro μ6 H6 le6 R6
            have h2 := Go.later h2 le6
            have L6 := (L4.mono le5).mono le6
            have lx := ((le3.trans l4).trans le5).trans le6
            cases b with
            | false =>
              simp only [cond, Res.quiet, Res.bind] at h2
              simp only [Bool.false_eq_true, if_false]
              exact ⟨μ6, s6, lx, R6, L6, h2⟩
            | true =>
              simp only [if_true]
              simp only [cond] at h2
              refine ⟨μ6, r5, s6, R6, L5.mono le6, ?_⟩
              cases h7 : evE T.call T.G T.sub ce r5 s6 with
              | exc c s7 => rw [h7] at h2; exact h2.elim
              | stuck => rw [h7] at h2; exact h2.elim
              | ok y s7 =>
                rw [h7] at h2
                simp only [Res.quiet, Res.bind] at h2
                intro μ7 H7 le7 R7 v hv
                have h2 := Go.later h2 le7
                split at h2
                · rename_i acc hacc
                  split at h2
                  · rename_i hz
                    have pm : μ7[s1.length]? = some D := (lx.trans le7).pre _ _ pD
                    obtain ⟨us, u1, u2, u3⟩ := R7.at_ _ _ _ pm hacc
                    have R8 := R7.set pm hacc u1 (u2.append (.cons hv .nil)) (by rw [List.length_append]; exact hz)
                    have le8 : Le K μ7 H7 μ7 (L2.upd H7 D (.lst (us ++ [v]))) := le_set u1
                    exact ⟨us, u1, by rw [u2.length]; exact hz, μ7, _, (lx.trans le7).trans le8, R8, (L6.mono le7).mono le8, Go.later h2 le8⟩
                  · exact h2.elim
                · exact h2.elim
      · exact h2.elim
    · refine .inl ?_
      have e : i = q.2.length := by omega
      subst e
      rw [List.drop_length] at h2
      simp only [lcL] at h2
      split at h2
      · rename_i hf
        exact ⟨wk.stop _ μ2 H2 s2 (le2.trans le3) R3 hf (Nat.le_refl _), h2.ok R3 _ (.ref (le3.pre _ _ pD))⟩
      · exact h2.elim
theorem se_lc (own : List (Str × Nat)) {elt tg iter : Expr} {ifs : List Expr} {scope : Scope} {ci : CI} {cis : CEs} (hc : X.calm = true) (hN : X.N.Nodup) (hi : SI T X ex W tg iter ci) (hB : BlkOk X.N X.env.scope scope own)
    (hg : ∀ (s : Shared) (H : Hp) (C : Addr) (cl : List (Str × Addr)) (fp : List Addr), SGw T (X.blk s H scope (compEnvC scope cl C X.env) fp) ex (own.map (·.2)) tg ct)
    (ht : ∀ (s : Shared) (H : Hp) (C : Addr) (cl : List (Str × Addr)) (fp : List Addr), SIf T (X.blk s H scope (compEnvC scope cl C X.env) fp) ex ifs cis)
    (he : ∀ (s : Shared) (H : Hp) (C : Addr) (cl : List (Str × Addr)) (fp : List Addr), SE T (X.blk s H scope (compEnvC scope cl C X.env) fp) ex (fun _ _ _ _ => False) elt ce)
    (hs : ∀ x, foldedSetIterable iter X.env x = pure x := by intro _; rfl) : SE T X ex W (.ListComp elt [⟨tg, iter, ifs, 0⟩] scope pos) (.lc ct ci cis ce (own.map (·.2))) :=
  ⟨(pe_lc (own := own) hc hN hi.pi hB (fun s H C cl fp => (hg s H C cl fp).pg) (fun s H C cl fp => (ht s H C cl fp).pts) (fun s H C cl fp => (he s H C cl fp).pe) hs).imp fun σ H Q h => lc_imp h⟩
/-- y = [e for t in it if ..] -/
theorem ss_setLc (i : Nat) (own : List (Str × Nat)) {y : Str} {py spos : Pos} {elt tg iter : Expr} {ifs : List Expr} {scope : Scope} {ci : CI} {cis : CEs} (hc : X.calm = true) (hN : X.N.Nodup) (hi : SI T X ex W tg iter ci) (hB : BlkOk X.N X.env.scope scope own)
    (hg : ∀ (s : Shared) (H : Hp) (C : Addr) (cl : List (Str × Addr)) (fp : List Addr), SGw T (X.blk s H scope (compEnvC scope cl C X.env) fp) ex (own.map (·.2)) tg ct)
    (ht : ∀ (s : Shared) (H : Hp) (C : Addr) (cl : List (Str × Addr)) (fp : List Addr), SIf T (X.blk s H scope (compEnvC scope cl C X.env) fp) ex ifs cis)
    (he : ∀ (s : Shared) (H : Hp) (C : Addr) (cl : List (Str × Addr)) (fp : List Addr), SE T (X.blk s H scope (compEnvC scope cl C X.env) fp) ex (fun _ _ _ _ => False) elt ce)
    (hsw : swapsWith (.ListComp elt [⟨tg, iter, ifs, 0⟩] scope pos) (some (.Name y py)) spos.line X.env = pure true)
    (hy : X.N[i]? = some y := by rfl) (hl : X.env.scope.names.lookup y = some .local := by rfl)
    (hs : ∀ x, foldedSetIterable iter X.env x = pure x := by intro _; rfl) : SS T X ex W (.Assign [.Name y py] (.ListComp elt [⟨tg, iter, ifs, 0⟩] scope pos) spos) (.asg (.name i) (.lc ct ci cis ce (own.map (·.2)))) :=
  ⟨(ps_setLc (own := own) hc hN hy hl hsw hi.pi hB (fun s H C cl fp => (hg s H C cl fp).pg) (fun s H C cl fp => (ht s H C cl fp).pts) (fun s H C cl fp => (he s H C cl fp).pe) hs).imp fun D σ H h => by
    obtain ⟨μ, r, s, R, L, h⟩ := h
    show tLc _ _ _ _ _ σ H _
    refine lc_imp (T := T) (ex := ex) (W := W) (ct := ct) (cis := cis) (ce := ce) ⟨μ, r, s, R, L, ?_⟩
    simp only [evS, evT] at h
    cases hm : evE T.call T.G T.sub (.lc ct ci cis ce (own.map (·.2))) r s with
    | ok v s1 =>
      rw [hm] at h
      simp only [Res.out] at h
      intro μ1 H1 le1 R1 x hx
      by_cases hlt : i < r.length
      · rw [if_pos hlt] at h
        exact h μ1 H1 _ le1 R1 ((L.mono le1).set hx)
      · rw [if_neg hlt] at h
        exact h.elim
    | exc c s1 =>
      rw [hm] at h
      exact fun μ' H' le R' => h μ' H' σ le R' (L.mono le)
    | stuck => rw [hm] at h; exact h⟩
end
end Ip
end PtIpComp
section PtIpMore
set_option Elab.async false
set_option linter.all false
set_option maxRecDepth 100000
/-! texts, dicts, sorted, any, all -/
namespace Ip
open PySem PySem.Spec PyProof.Rows L2

theorem VRs.bools {K : PySem.W.Frag} {μ : List Addr} {H : Hp} : ∀ {vs : List V} {ds : List DV} {is : List Bool}, VRs K μ H vs ds → bools? ds = some is → vs = is.map V.bl
  | _, _, _, .nil, e => by cases e; rfl
  | _, _, is, .cons h hs, e => by
    cases h with
    | bl i =>
      simp only [bools?] at e
      split at e
      · rename_i js hj
        cases e
        rw [VRs.bools hs hj]
        rfl
      · cases e
    | _ => cases e
theorem VRs.of_ints {K : PySem.W.Frag} {μ : List Addr} {H : Hp} : ∀ is : List Int, VRs K μ H (is.map V.int) (is.map DV.int)
  | [] => .nil
  | i :: is => .cons (.int i) (VRs.of_ints is)
theorem VRs.of_strs {K : PySem.W.Frag} {μ : List Addr} {H : Hp} : ∀ is : List Str, VRs K μ H (is.map V.str) (is.map DV.str)
  | [] => .nil
  | i :: is => .cons (.str i) (VRs.of_strs is)
section
variable {T : Tb} {X : Cx} {ex : Option (Addr × Nat)} {W : WX} {a b c e : Expr} {ca cb cc : CE} {pos : Pos} {es rest : List Expr} {ces : CEs}
theorem bi_any (hc : X.calm = true) : CallR X (.builtin "any") (rBi X.K .any) := by
  intro pins s σ H xs us Q I r h
  obtain ⟨μ, s0, ds, Wn, R, hv, h⟩ := h
  match hv with
  | .nil => exact h.elim
  | .cons hx .nil =>
    cases hx with
    | ref hm =>
      simp only [biV] at h
      cases hcl : cellL s0 _ with
      | none => rw [hcl] at h; exact h.elim
      | some ys =>
        rw [hcl] at h
        simp only [optR] at h
        cases hb : bools? ys with
        | none => rw [hb] at h; exact h.elim
        | some bs =>
          rw [hb] at h
          obtain ⟨vs, c1, c2⟩ := R.cellL hm hcl
          have e1 := c2.bools hb
          subst e1
          exact cr_any hc pins s σ H _ us Q I r ⟨_, bs, rfl, c1, h.ok R _ (.bl _)⟩
    | _ => exact h.elim
  | .cons hx (.cons hy hr) => cases hx <;> exact h.elim
theorem bi_all (hc : X.calm = true) : CallR X (.builtin "all") (rBi X.K .all) := by
  intro pins s σ H xs us Q I r h
  obtain ⟨μ, s0, ds, Wn, R, hv, h⟩ := h
  match hv with
  | .nil => exact h.elim
  | .cons hx .nil =>
    cases hx with
    | ref hm =>
      simp only [biV] at h
      cases hcl : cellL s0 _ with
      | none => rw [hcl] at h; exact h.elim
      | some ys =>
        rw [hcl] at h
        simp only [optR] at h
        cases hb : bools? ys with
        | none => rw [hb] at h; exact h.elim
        | some bs =>
          rw [hb] at h
          obtain ⟨vs, c1, c2⟩ := R.cellL hm hcl
          have e1 := c2.bools hb
          subst e1
          exact cr_all hc pins s σ H _ us Q I r ⟨_, bs, rfl, c1, h.ok R _ (.bl _)⟩
    | _ => exact h.elim
  | .cons hx (.cons hy hr) => cases hx <;> exact h.elim

/-! ### sorted -/
theorem ins_perm (x : Int) : ∀ l : List Int, (ins x l).Perm (x :: l)
  | [] => List.Perm.refl _
  | y :: ys => by
    unfold ins
    split
    · exact List.Perm.refl _
    · exact ((ins_perm x ys).cons y).trans (List.Perm.swap x y ys)
theorem isort_perm : ∀ l : List Int, (isort l).Perm l
  | [] => List.Perm.refl _
  | x :: xs => (ins_perm x (isort xs)).trans ((isort_perm xs).cons x)
theorem ins_sorted (x : Int) : ∀ l : List Int, l.Pairwise (· ≤ ·) → (ins x l).Pairwise (· ≤ ·)
  | [], _ => List.pairwise_singleton _ _
  | y :: ys, h => by
    unfold ins
    rw [List.pairwise_cons] at h
    split
    · rename_i hx
      refine List.pairwise_cons.mpr ⟨fun z hz => ?_, List.pairwise_cons.mpr h⟩
      rcases List.mem_cons.mp hz with rfl | hz
      · exact hx
      · have := h.1 z hz
        omega
    · rename_i hx
      refine List.pairwise_cons.mpr ⟨fun z hz => ?_, ins_sorted x ys h.2⟩
      rcases List.mem_cons.mp ((ins_perm x ys).mem_iff.mp hz) with rfl | hz
      · omega
      · exact h.1 z hz
theorem isort_sorted : ∀ l : List Int, (isort l).Pairwise (· ≤ ·)
  | [] => List.Pairwise.nil
  | x :: xs => ins_sorted x _ (isort_sorted xs)
theorem sorted_unique {l m : List Int} (hp : l.Perm m) (hl : l.Pairwise (· ≤ ·)) (hm : m.Pairwise (· ≤ ·)) : l = m :=
  List.Perm.eq_of_pairwise (fun a b _ _ h1 h2 => Int.le_antisymm h1 h2) hl hm hp
theorem bi_sorted : CallR X (.builtin "sorted") (rBi X.K .sorted) := by
  intro pins s σ H xs us Q I r h
  obtain ⟨μ, s0, ds, Wn, R, hv, h⟩ := h
  match hv with
  | .nil => exact h.elim
  | .cons hx .nil =>
    cases hx with
    | ref hm =>
      simp only [biV] at h
      cases hcl : cellL s0 _ with
      | none => rw [hcl] at h; exact h.elim
      | some ys =>
        rw [hcl] at h
        simp only [optR] at h
        cases hb : ints? ys with
        | none => rw [hb] at h; exact h.elim
        | some bs =>
          rw [hb] at h
          simp only at h
          split at h
          · rename_i h64
            obtain ⟨vs, c1, c2⟩ := R.cellL hm hcl
            have e1 := c2.ints hb
            subst e1
            refine cr_sorted pins s σ H _ us Q I r ⟨_, bs, rfl, c1, h64, fun ns' p h1 h2 hp => ?_⟩
            have e2 : ns' = isort bs := sorted_unique (h1.trans (isort_perm bs).symm) h2 (isort_sorted bs)
            subst e2
            refine h (μ ++ [p]) _ (le_new hp) (R.new hp (VRs.of_ints _) ?_) _ (ref_new R)
            rw [List.length_map, (isort_perm bs).length_eq]
            exact small64 h64
          · exact h.elim
    | _ => exact h.elim
  | .cons hx (.cons hy hr) => cases hx <;> exact h.elim

/-! ### methods of texts -/
def rSM (K : PySem.W.Frag) (m : SM) : V → List V → Hp → VK → Prop := fun x xs H Q => ∃ μ s z ds Wn, Rel K μ H s ∧ x = .str z ∧ VRs K μ H xs ds ∧ Go K μ H (smV m z ds s) Wn (fun μ' H' _ d => ∀ v, VR K μ' H' v d → Q v H')
theorem sm_join : MtR X "str.join" (rSM X.K .join) := by
  intro pins s σ H x xs v us Q I rx rs h
  obtain ⟨μ, s0, z, ds, Wn, R, rfl, hv, h⟩ := h
  match hv with
  | .nil => exact h.elim
  | .cons hx .nil =>
    cases hx with
    | ref hm =>
      simp only [smV] at h
      cases hcl : cellL s0 _ with
      | none => rw [hcl] at h; exact h.elim
      | some ys =>
        rw [hcl] at h
        simp only [optR] at h
        cases hb : strs? ys with
        | none => rw [hb] at h; exact h.elim
        | some bs =>
          rw [hb] at h
          simp only at h
          split at h
          · rename_i hz
            obtain ⟨vs, c1, c2⟩ := R.cellL hm hcl
            have e1 := c2.strs hb
            subst e1
            exact mt_join pins s σ H _ _ v us Q I rx rs ⟨z, _, bs, rfl, rfl, .inl c1, hz, h.ok R _ (.str _)⟩
          · exact h.elim
    | _ => exact h.elim
  | .cons hx (.cons hy hr) => cases hx <;> exact h.elim
theorem sm_split : MtR X "str.split" (rSM X.K .split) := by
  intro pins s σ H x xs v us Q I rx rs h
  obtain ⟨μ, s0, z, ds, Wn, R, rfl, hv, h⟩ := h
  match hv with
  | .nil => exact h.elim
  | .cons hx .nil =>
    cases hx with
    | str y =>
      simp only [smV] at h
      split at h
      · rename_i hz
        refine mt_split pins s σ H _ _ v us Q I rx rs ⟨z, y, rfl, rfl, hz.1, hz.2.1, fun p hp => ?_⟩
        refine h (μ ++ [p]) _ (le_new hp) (R.new hp (VRs.of_strs _) ?_) _ (ref_new R)
        rw [List.length_map]
        exact hz.2.2
      · exact h.elim
    | _ => exact h.elim
  | .cons hx (.cons hy hr) => cases hx <;> exact h.elim
theorem sm_partition : MtR X "str.partition" (rSM X.K .partition) := by
  intro pins s σ H x xs v us Q I rx rs h
  obtain ⟨μ, s0, z, ds, Wn, R, rfl, hv, h⟩ := h
  match hv with
  | .nil => exact h.elim
  | .cons hx .nil =>
    cases hx with
    | str y =>
      simp only [smV] at h
      split at h
      · rename_i hz
        exact mt_partZ pins s σ H _ _ v us Q I rx rs ⟨z, y, rfl, rfl, hz.1, hz.2, fun p o hp hd => h μ _ (le_upd hp) (R.upd hp) _ (.tup (TupP.of upd_same hd) (.cons (.str _) (.cons (.str _) (.cons (.str _) .nil))))⟩
      · exact h.elim
    | _ => exact h.elim
  | .cons hx (.cons hy hr) => cases hx <;> exact h.elim
theorem sm_startswith : MtR X "str.startswith" (rSM X.K .startswith) := by
  intro pins s σ H x xs v us Q I rx rs h
  obtain ⟨μ, s0, z, ds, Wn, R, rfl, hv, h⟩ := h
  match hv with
  | .nil => exact h.elim
  | .cons hx .nil =>
    cases hx with
    | str y => exact mt_startswith pins s σ H _ _ v us Q I rx rs ⟨z, y, rfl, rfl, h.ok R _ (.bl _)⟩
    | _ => exact h.elim
  | .cons hx (.cons hy hr) => cases hx <;> exact h.elim
theorem sm_isascii : MtR X "str.isascii" (rSM X.K .isascii) := by
  intro pins s σ H x xs v us Q I rx rs h
  obtain ⟨μ, s0, z, ds, Wn, R, rfl, hv, h⟩ := h
  match hv with
  | .nil => exact mt_isascii pins s σ H _ _ v us Q I rx rs ⟨z, rfl, rfl, trivial, h.ok R _ (.bl _)⟩
  | .cons hx hr => exact h.elim
theorem sm_isdigit : MtR X "str.isdigit" (rSM X.K .isdigit) := by
  intro pins s σ H x xs v us Q I rx rs h
  obtain ⟨μ, s0, z, ds, Wn, R, rfl, hv, h⟩ := h
  match hv with
  | .nil => exact mt_isdigit pins s σ H _ _ v us Q I rx rs ⟨z, rfl, rfl, trivial, h.ok R _ (.bl _)⟩
  | .cons hx hr => exact h.elim
theorem se_sm1 (m : SM) {id : String} {name : Str} {apos : Pos} (slot : Slot "str" name id) (ty : typeOf (.builtin id) = pure (.type "method_descriptor")) (rule : MtR X id (rSM X.K m)) (ha : SE T X ex W a ca) (hb : SE T X ex W b cb)
    (hs : starEach [b] X.env = [(false, eval b X.env)] := by rfl) (hbase : attributeBase a name X.env (eval a X.env) = eval a X.env := by rfl) (hline : (apos.endLine == pos.line) = true := by rfl) :
    SE T X ex W (.Call (.Attribute a name apos) [b] [] pos) (.smeth m ca (.cons cb .nil)) := ⟨(pe_m1 slot ty rule ha.pe hb.pe hs hbase hline).imp fun σ H Q h => by
  obtain ⟨μ, r, s, R, L, h⟩ := h
  refine ⟨μ, r, s, R, L, h.bind.map fun μ1 H1 s1 x le1 R1 h1 v1 hv1 => ?_⟩
  cases hv1 with
  | str z =>
    refine ⟨⟨z, rfl⟩, μ1, r, s1, R1, L.mono le1, ?_⟩
    simp only [evEs] at h1
    rw [Res.bind_assoc] at h1
    refine h1.bind.map fun μ2 H2 s2 y le2 R2 h2 w hw => ?_
    exact ⟨μ2, s2, z, [y], _, R2, rfl, .cons hw .nil, h2⟩
  | _ => exact h1.elim⟩
theorem se_sm0 (m : SM) {id : String} {name : Str} {apos : Pos} (slot : Slot "str" name id) (ty : typeOf (.builtin id) = pure (.type "method_descriptor")) (rule : MtR X id (rSM X.K m)) (ha : SE T X ex W a ca)
    (hbase : attributeBase a name X.env (eval a X.env) = eval a X.env := by rfl) (hline : (apos.endLine == pos.line) = true := by rfl) :
    SE T X ex W (.Call (.Attribute a name apos) [] [] pos) (.smeth m ca .nil) := ⟨(pe_m0 slot ty rule ha.pe hbase hline).imp fun σ H Q h => by
  obtain ⟨μ, r, s, R, L, h⟩ := h
  refine ⟨μ, r, s, R, L, h.bind.map fun μ1 H1 s1 x le1 R1 h1 v1 hv1 => ?_⟩
  cases hv1 with
  | str z => exact ⟨⟨z, rfl⟩, μ1, s1, z, [], _, R1, rfl, .nil, h1⟩
  | _ => exact h1.elim⟩

/-! ### len(set(text)) -/
def tLenSetC (ta : TE) : TE := fun σ H Q => ta σ H fun x H1 => ∃ z : Str, x = .str z ∧ z.cps.size + 1 < scanBound ∧ Q (.int (IpS.metC (IpS.sgn z) z.cps.size).length) H1
theorem pe_lenSetC {ta : TE} {p p2 q pos : Pos} (hg : Gl X "len") (hm : X.mg "len" = none) (hg2 : Gl X "set") (hm2 : X.mg "set" = none) (ha : PE X a ta) (hc : X.calm = true := by rfl)
    (na : starEach [a] X.env = (false, eval a X.env) :: starEach [] X.env := by rfl) : PE X (.Call (.Name "len" p) [.Call (.Name "set" p2) [a] [] q] [] pos) (tLenSetC ta) := by
  refine ⟨fun pins s σ H Q I h => Call_ (ld_blt I hg hm boot_len (PyProof.Rows.callWith_builtin1 (PyProof.Rows.args_cons (Call_ (ld_blt I hg2 hm2 boot_set (PyProof.Rows.callWith_type1 (PyProof.Rows.args_cons (thn (ha.run pins s σ H _ I h) fun v t q => PyProof.Rows.args_nil ?_) na) na rfl))) rfl) rfl rfl))⟩
  obtain ⟨_, H1, I1, rv, z, rfl, few, q1⟩ := q
  obtain ⟨tk0, rfl⟩ := rv
  apply IpS.call_set_text (I1.ok.hd hc) few
  rintro h' tk ⟨o, es, ep, tb, ho, hex, hd, _, _, _, hf, hn⟩ keep
  have I2 := I1.kept (t' := tk) fun b u e => keep b u (Heap.lt_size e) e
  have le := IpS.metC_le (IpS.sgn z) z.cps.size
  exact PyProof.Rows.args_nil (call_len_set ho hex hd hf (by rw [hn]; unfold scanBound at few; omega) ⟨.int _, H1, I2.tok _, ⟨_, by rw [hn]⟩, q1⟩)
theorem se_lenset {p p2 q pos : Pos} (hm : X.mg "len" = none) (hm2 : X.mg "set" = none) (ha : SE T X ex W a ca) (hg : Gl X "len" := by rfl) (hg2 : Gl X "set" := by rfl) (hc : X.calm = true := by rfl)
    (na : starEach [a] X.env = (false, eval a X.env) :: starEach [] X.env := by rfl) : SE T X ex W (.Call (.Name "len" p) [.Call (.Name "set" p2) [a] [] q] [] pos) (.bi .lenset (.cons ca .nil)) := ⟨(pe_lenSetC hg hm hg2 hm2 ha.pe hc na).imp fun σ H Q h => by
  obtain ⟨μ, r, s, R, L, h⟩ := h
  simp only [evE, evEs] at h
  rw [Res.bind_assoc] at h
  refine ⟨μ, r, s, R, L, h.bind.map fun μ1 H1 s1 x le1 R1 h1 v1 hv1 => ?_⟩
  simp only [Res.bind] at h1
  cases hv1 with
  | str z =>
    simp only [biV] at h1
    split at h1
    · rename_i hl
      exact ⟨z, rfl, hl, h1.ok R1 _ (.int _)⟩
    · exact h1.elim
  | _ => exact h1.elim⟩
end
end Ip
end PtIpMore
section PtIpDict
set_option Elab.async false
set_option linter.all false
set_option maxRecDepth 100000
/-! dicts: dict(t) of a tuple of pairs, d.get(k, x) -/
namespace Ip
open PySem PySem.Spec PyProof.Rows L2
section
variable {K : PySem.W.Frag} {μ μ' : List Addr} {H H' : Hp}
/-- the pairs in a tuple -/
theorem pairs_kr : ∀ {vs : List V} {ds : List DV} {ks : List (Key × DV)}, VRs K μ H vs ds → pairs? ds = some ks →
    ∃ (ps : List Addr) (ws : List (Key × V)), vs = ps.map V.ref ∧ Paired (fun p z => SqT K H p [kV z.1, z.2]) ps ws ∧ KR K μ H ws ks
  | _, _, _, .nil, e => by
    cases e
    exact ⟨[], [], rfl, .nil, .nil⟩
  | _, _, _, .cons (d := d) (ds := ds) r t, e => by
    cases r with
    | @tup a us zs q1 q2 =>
      cases q2 with
      | nil => cases e
      | @cons k0 _ kd _ ra q3 =>
        cases q3 with
        | nil => cases e
        | @cons v0 _ vd _ rb q4 =>
          cases q4 with
          | cons _ _ => cases e
          | nil =>
            rw [show pairs? (.tup [kd, vd] :: ds) = (match key? kd, pairs? ds with | some k, some kvs => some ((k, vd) :: kvs) | _, _ => none) from rfl] at e
            cases hk : key? kd with
            | none => rw [hk] at e; cases e
            | some k =>
              cases hp : pairs? ds with
              | none => rw [hk, hp] at e; cases e
              | some ks0 =>
                rw [hk, hp] at e
                cases e
                obtain ⟨ps, ws, e1, e2, e3⟩ := pairs_kr t hp
                have := key_kV ra hk
                subst this
                subst e1
                exact ⟨_ :: ps, (k, _) :: ws, rfl, .cons q1.sq e2, .cons rb e3⟩
    | _ => cases e
end
section
variable {X : Cx}
theorem parts_of {pins : List (Addr × Obj)} {σ : L2.St} {H : Hp} {s : Shared} (I : Inv X pins σ H s) : ∀ {ps : List Addr} {ws : List (Key × V)}, Paired (fun p z => SqT X.K H p [kV z.1, z.2]) ps ws →
    ∃ (qs : List (Value × Value)) (rs : List (Key × Value)), KV ws rs ∧ rs.length = ps.length ∧ qs.length = ps.length ∧
      ∀ (j : Nat) (a b : Value), qs[j]? = some (a, b) → ∃ p k, ps[j]? = some p ∧ s.heap.IsTuple p #[a, b] ∧ rs[j]? = some (k, b) ∧ keyIs k a = true
  | _, _, .nil => ⟨[], [], .nil, rfl, rfl, fun j a b e => by simp at e⟩
  | _, _, .cons (a := p) (b := z) h t => by
    obtain ⟨qs, rs, r, l1, l2, hq⟩ := parts_of I t
    obtain ⟨its, rv, ht, _⟩ := I.tuple h
    obtain ⟨u, y, rfl, ru, ry⟩ := vals2 rv
    refine ⟨(u, y) :: qs, (z.1, y) :: rs, .cons ⟨rfl, ry⟩ r, by rw [List.length_cons, List.length_cons, l1], by rw [List.length_cons, List.length_cons, l2], fun j a b e => ?_⟩
    cases j with
    | zero =>
      cases e
      exact ⟨p, z.1, rfl, ht, rfl, kV_is (P := X.prog) (w := X.w) ru⟩
    | succ j => exact hq j a b e
/-- dict(t), t a tuple of pairs (key, value) -/
theorem cr_dictZ (hc : X.calm = true) : CallR X (.type "dict") (fun xs H Q => ∃ a ps ws, xs = [.ref a] ∧ TupP X.K H a (ps.map V.ref) ∧ Paired (fun p z => SqT X.K H p [kV z.1, z.2]) ps ws ∧ ws.length ≤ sizeLine ∧
    ∀ p, H p = none → Q (.ref p) (upd H p (.dK (mergeK [] ws)))) := by
  rintro pins s σ H xs us Q I r ⟨a, ps, ws, rfl, ht, hp, hz, q⟩
  rw [Vals.ref1 r]
  obtain ⟨its, rv, pl, _⟩ := tup_plain I ht
  rw [refs_at rv] at pl
  obtain ⟨qs, rs, rk, l1, l2, hq⟩ := parts_of I hp
  have P := PairArg.tuple (prog := X.prog) (w := X.w) a (ps.map Value.ref).toArray (fun j => ps.getD j 0) qs
  refine PySem.call_dict_pairs (knd := mixKind X.prog X.w) (kvs := rs) P (I.ok.hd hc) ⟨pl, by simp [l2], fun j k v e => ?_⟩ ⟨by rw [l1, l2], fun j k v e => ?_⟩ (by rw [l2, ← l1, ← rk.length]; exact hz) fun h' tk hd kp => ?_
  · obtain ⟨p, _, e1, e2, _⟩ := hq j k v e
    refine ⟨by simp [e1], .inl ?_⟩
    show s.heap.IsTuple (ps.getD j 0) _
    rw [List.getD_eq_getElem?_getD, e1]
    exact e2
  · obtain ⟨p, k', _, _, e3, e4⟩ := hq j k v e
    exact ⟨k', e3, e4⟩
  · have n : (mergeK [] ws).length ≤ sizeLine := by
      have := length_mergeK ws []
      rw [List.length_nil] at this
      omega
    exact ⟨.ref s.heap.objs.size, _, I.laid (o := .dK (mergeK [] ws)) (t' := tk) (fun b o e => kp b o (by simp) e) (Nat.le_refl _) ⟨n, beq_eq_false_iff_ne.mpr (Nat.ne_of_gt I.big), _, KV.merge rk .nil, hd⟩, rfl, q _ (I.hok.fresh (Nat.le_refl _))⟩
theorem bi_dict (hc : X.calm = true) : CallR X (.type "dict") (rBi X.K .dict) := by
  intro pins s σ H xs us Q I r h
  obtain ⟨μ, s0, ds, Wn, R, hv, h⟩ := h
  match hv with
  | .nil => exact h.elim
  | .cons hx .nil =>
    cases hx with
    | tup h1 h2 =>
      simp only [biV] at h
      cases hk : pairs? _ with
      | none => rw [hk] at h; exact h.elim
      | some ks =>
        rw [hk] at h
        obtain ⟨ps, ws, e1, e2, e3⟩ := pairs_kr h2 hk
        subst e1
        have hz : ws.length ≤ sizeLine := by
          obtain ⟨its, rv, _, hz⟩ := I.tuple h1.sq
          rw [List.length_map, e2.length] at hz
          exact hz
        refine cr_dictZ hc pins s σ H _ us Q I r ⟨_, ps, ws, rfl, h1, e2, hz, fun p hp => ?_⟩
        have e4 : KR X.K μ H (mergeK [] ws) (mergeD [] ks) := e3.fill .nil
        have n : (mergeD [] ks).length ≤ sizeLine := by
          rw [← e4.len]
          have := length_mergeK ws []
          rw [List.length_nil] at this
          omega
        exact h (μ ++ [p]) _ (le_new hp) (R.newD hp e4.both.1 e4.both.2 n) _ (ref_new R)
    | _ => exact h.elim
  | .cons hx (.cons hy hr) => cases hx <;> exact h.elim
variable {T : Tb} {ex : Option (Addr × Nat)} {W : WX} {a b c : Expr} {ca cb cc : CE} {pos apos : Pos}
theorem dct_rd {K : PySem.W.Frag} {μ : List Addr} {H : Hp} {s : Store} {l : Nat} {a : Addr} {ks : List (Key × DV)} (R : Rel K μ H s) (hm : μ[l]? = some a) (h : dctAt s l = some ks) : ∃ ws, Rd H a (.dK ws) ∧ KR K μ H ws ks := by
  unfold dctAt at h
  split at h
  · rename_i k0 hc
    cases h
    obtain ⟨ws, d, k1, k2, _⟩ := R.at_ _ _ _ hm hc
    exact ⟨ws, .inl d, .of k1 k2⟩
  · rename_i k0 hc
    cases h
    obtain ⟨o, ws, d, k1, k2, _⟩ := R.at_ _ _ _ hm hc
    exact ⟨ws, .inr ⟨o, d⟩, .of k1 k2⟩
  · cases h
/-- d.get(k, x) -/
theorem se_get2 (hu : X.A.units + 64 < cLine) (ha : SE T X ex W a ca) (hb : SE T X ex W b cb) (hc : SE T X ex W c cc) (m : M2 X a "get" apos b c pos) : SE T X ex W (.Call (.Attribute a "get" apos) [b, c] [] pos) (.get2 ca cb cc) :=
  ⟨(pe_dget2 (Nat.lt_of_le_of_lt (Nat.add_le_add_left (by decide) _) hu) ha.pe hb.pe hc.pe m).imp fun σ H Q h => by
    obtain ⟨μ, r, s, R, L, h⟩ := h
    refine ⟨μ, r, s, R, L, h.bind.map fun μ1 H1 s1 x le1 R1 h1 v hv => ?_⟩
    cases hv with
    | ref hm =>
      simp only at h1
      cases hc0 : dctAt s1 _ with
      | none => rw [hc0] at h1; exact h1.elim
      | some ks0 =>
        rw [hc0] at h1
        obtain ⟨ws0, d0, _⟩ := dct_rd R1 hm hc0
        refine ⟨_, rfl, .inl ⟨_, d0⟩, μ1, r, s1, R1, L.mono le1, Go.map (Go.bind h1) fun μ2 H2 s2 y le2 R2 h2 w hw => ?_⟩
        refine ⟨μ2, r, s2, R2, (L.mono le1).mono le2, h2.bind.map fun μ3 H3 s3 z le3 R3 h3 u hu => ?_⟩
        cases hc3 : dctAt s3 _ with
        | none => rw [hc3] at h3; exact h3.elim
        | some ks =>
          rw [hc3] at h3
          obtain ⟨ws, d3, kr⟩ := dct_rd R3 (le3.pre _ _ (le2.pre _ _ hm)) hc3
          simp only [optR] at h3
          cases hk : key? y with
          | none => rw [hk] at h3; exact h3.elim
          | some k =>
            rw [hk] at h3
            have := key_kV hw hk
            subst this
            exact ⟨_, .inl ⟨ws, k, d3, rfl, rfl⟩, h3.ok R3 _ (kr.find k hu)⟩
    | _ => exact h1.elim⟩
/-- {} -/
theorem se_dnew : SE T X ex W (.Dict [] [] pos) .dnew := ⟨pe_dnewK.imp fun σ H Q h => by
  obtain ⟨μ, r, s, R, L, h⟩ := h
  exact fun p hp => h (μ ++ [p]) _ (le_new hp) (R.newD hp rfl .nil (Nat.zero_le _)) _ (ref_new R)⟩
theorem KR.sees {ws : List (Key × V)} {ks : List (Key × DV)} {K : PySem.W.Frag} {μ : List Addr} {H : Hp} (h : KR K μ H ws ks) (k : Key) : (∀ v, valV ws k = some v → ∃ d, getD ks k = some d ∧ VR K μ H v d) ∧ (valV ws k = none → getD ks k = none) := by
  induction h with
  | nil => exact ⟨fun v e => (by cases e), fun _ => rfl⟩
  | @cons k0 v0 d0 ws0 ks0 q _ ih =>
    have e1 : valV ((k0, v0) :: ws0) k = if k0 = k then some v0 else valV ws0 k := by
      unfold valV
      rw [List.find?_cons]
      by_cases e : k0 = k <;> simp [e]
    have e2 : getD ((k0, d0) :: ks0) k = if k0 = k then some d0 else getD ks0 k := by
      unfold getD
      rw [List.find?_cons]
      by_cases e : k0 = k <;> simp [e]
    rw [e1, e2]
    by_cases e : k0 = k
    · rw [if_pos e, if_pos e]
      exact ⟨fun v h => ⟨d0, rfl, Option.some.inj h ▸ q⟩, fun h => by cases h⟩
    · rw [if_neg e, if_neg e]
      exact ih
/-- d.setdefault(k, x) -/
theorem se_setd (ha : SE T X ex W a ca) (hb : SE T X ex W b cb) (hc : SE T X ex W c cc) (m : M2 X a "setdefault" apos b c pos) : SE T X ex W (.Call (.Attribute a "setdefault" apos) [b, c] [] pos) (.setd ca cb cc) :=
  ⟨(pe_dsetd ha.pe hb.pe hc.pe m).imp fun σ H Q h => by
    obtain ⟨μ, r, s, R, L, h⟩ := h
    refine ⟨μ, r, s, R, L, h.bind.map fun μ1 H1 s1 x le1 R1 h1 v hv => ?_⟩
    cases hv with
    | ref hm =>
      simp only at h1
      cases hc0 : dctAt s1 _ with
      | none => rw [hc0] at h1; exact h1.elim
      | some ks0 =>
        rw [hc0] at h1
        obtain ⟨ws0, d0, _⟩ := dct_rd R1 hm hc0
        refine ⟨_, rfl, .inl ⟨_, d0⟩, μ1, r, s1, R1, L.mono le1, Go.map (Go.bind h1) fun μ2 H2 s2 y le2 R2 h2 w hw => ?_⟩
        refine ⟨μ2, r, s2, R2, (L.mono le1).mono le2, h2.bind.map fun μ3 H3 s3 z le3 R3 h3 u hu => ?_⟩
        split at h3
        · rename_i ks hc3
          have hm3 := le3.pre _ _ (le2.pre _ _ hm)
          obtain ⟨ws, d3, k1, k2, k3⟩ := R3.at_ _ _ _ hm3 hc3
          cases hk : key? y with
          | none => rw [hk] at h3; exact h3.elim
          | some k =>
            rw [hk] at h3
            simp only [optR] at h3
            have := key_kV hw hk
            subst this
            have kr := KR.of k1 k2
            obtain ⟨f1, f2⟩ := kr.sees k
            have hz : ws.length = ks.length := kr.len
            split at h3
            · rename_i hlt
              refine ⟨ws, k, d3, rfl, by rw [hz]; exact hlt, fun v hv => ?_, fun hn => ?_⟩
              · obtain ⟨d, hd, rv⟩ := f1 v hv
                rw [hd] at h3
                exact h3.ok R3 _ rv
              · rw [f2 hn] at h3
                have q := kr.put (k := k) hu
                have n := length_putD ks k z
                have le := le_setU (K := X.K) (μ := μ3) (w := .dK (putK ws k u)) d3 trivial fun _ _ z => nomatch z
                exact h3 μ3 _ le (R3.setD hm3 hc3 d3 q.both.1 q.both.2 (by omega)) _ (hu.mono le)
            · exact h3.elim
        · exact h3.elim
    | _ => exact h1.elim⟩
end
end Ip
end PtIpDict
section PtIpPick
set_option Elab.async false
set_option linter.all false
set_option maxRecDepth 100000
/-! tables of defs, constants that are tuples, max and min of a tuple -/
namespace Ip
open PySem PySem.Spec PyProof.Rows L2
section
variable {T : Tb} {X : Cx} {ex : Option (Addr × Nat)} {W : WX} {a b c e : Expr} {ca cb cc ce : CE} {pos : Pos} {es rest : List Expr} {ces : CEs}
/-! ### a constant that is a tuple -/
/-- a tuple of constants of the top -/
def KTup (K : PySem.W.Frag) (a : Addr) (vs : List V) : Prop := ∃ (o : Obj) (its : Array Value) (n : Nat), K.lookup a = some o ∧ o.cls = .type "tuple" ∧ o.dict = none ∧ o.data = .seq its n ∧ its.size ≤ sizeLine ∧ Vals vs its.toList
theorem se_globT (g : Nat) {x : Str} {xs : List Str} {p : Pos} (hG : T.G g = some (.tup (xs.map DV.str))) (hm : ∃ a, X.mg x = some (.ref a) ∧ KTup X.K a (xs.map V.str)) (hg : Gl X x := by rfl) (hd : (x == ("__debug__" : Str)) = false := by decide) : SE T X ex W (.Name x p) (.glob g) := by
  obtain ⟨a, hm, hk⟩ := hm
  exact ⟨(pe_glob (v := .ref a) hg hm rfl hd).imp fun σ H Q h => by
    obtain ⟨μ, r, s, R, L, h⟩ := h
    simp only [evE, hG] at h
    exact h.ok R _ (.tup (.const hk) (VRs.of_strs xs))⟩
/-! a constant of the top: tuples in tuples -/
mutual
inductive KC (K : PySem.W.Frag) : V → DV → Prop
  | non : KC K .non .non
  | bl (b : Bool) : KC K (.bl b) (.bl b)
  | int (i : Int) : KC K (.int i) (.int i)
  | str (x : Str) : KC K (.str x) (.str x)
  | tup {a : Addr} {vs : List V} {ds : List DV} : KTup K a vs → KCs K vs ds → KC K (.ref a) (.tup ds)
inductive KCs (K : PySem.W.Frag) : List V → List DV → Prop
  | nil : KCs K [] []
  | cons {v : V} {vs : List V} {d : DV} {ds : List DV} : KC K v d → KCs K vs ds → KCs K (v :: vs) (d :: ds)
end
mutual
theorem KC.vr {K : PySem.W.Frag} {μ : List Addr} {H : Hp} : ∀ {v : V} {d : DV}, KC K v d → VR K μ H v d
  | _, _, .non => .non
  | _, _, .bl b => .bl b
  | _, _, .int i => .int i
  | _, _, .str x => .str x
  | _, _, .tup h hs => .tup (.const h) (KCs.vr hs)
theorem KCs.vr {K : PySem.W.Frag} {μ : List Addr} {H : Hp} : ∀ {vs : List V} {ds : List DV}, KCs K vs ds → VRs K μ H vs ds
  | _, _, .nil => .nil
  | _, _, .cons h hs => .cons (KC.vr h) (KCs.vr hs)
end
theorem se_globC (g : Nat) {x : Str} {d : DV} {p : Pos} (hG : T.G g = some d) (hm : ∃ a, X.mg x = some (.ref a) ∧ KC X.K (.ref a) d) (hg : Gl X x := by rfl) (hd : (x == ("__debug__" : Str)) = false := by decide) : SE T X ex W (.Name x p) (.glob g) := by
  obtain ⟨a, hm, hk⟩ := hm
  exact ⟨(pe_glob (v := .ref a) hg hm rfl hd).imp fun σ H Q h => by
    obtain ⟨μ, r, s, R, L, h⟩ := h
    simp only [evE, hG] at h
    exact h.ok R _ hk.vr⟩
/-! ### max, min of a tuple of ints -/
theorem reads_ints {h : Heap} : ∀ {ns : List Int} {us : List Value}, Vals (ns.map V.int) us → ∃ as, ReadsAll h us (ns.map PyData.int) as
  | [], _, .nil => ⟨_, .nil⟩
  | n :: ns, _, .cons r t => by
    obtain ⟨k, rfl⟩ := r
    obtain ⟨as, q⟩ := reads_ints t
    exact ⟨_, .cons (.int n k) q⟩
theorem alike_ints (ns : List Int) : PySem.W.AlikeAll (ns.map PyData.int) := by
  refine ⟨fun x hx y hy => ?_, fun x hx => ?_⟩
  · obtain ⟨i, _, rfl⟩ := List.mem_map.mp hx
    obtain ⟨j, _, rfl⟩ := List.mem_map.mp hy
    rfl
  · obtain ⟨i, _, rfl⟩ := List.mem_map.mp hx
    intro e
    cases e
theorem depth_ints : ∀ ns : List Int, PyData.depthAll (ns.map PyData.int) = 0
  | [] => rfl
  | n :: ns => by
    simp only [List.map_cons, PyData.depthAll, PyData.depth, depth_ints ns]
    rfl
theorem bi_max1 (hc : X.calm = true) (hu : X.A.units + 64 < cLine) : CallR X (.builtin "max") (rBi X.K .max1) := by
  intro pins s σ H xs us Q I r h
  obtain ⟨μ, s0, ds, Wn, R, hv, h⟩ := h
  match hv with
  | .nil => exact h.elim
  | .cons hx .nil =>
    cases hx with
    | tup h1 h2 =>
      simp only [biV] at h
      cases hb : ints? _ with
      | none => rw [hb] at h; exact h.elim
      | some is =>
        rw [hb] at h
        simp only [optR] at h
        cases is with
        | nil => exact h.elim
        | cons i is =>
          have e1 := h2.ints hb
          subst e1
          obtain ⟨its, rv, hl, _⟩ := I.tuple h1.sq
          rw [Vals.ref1 r]
          obtain ⟨as, hr⟩ := reads_ints rv
          refine PySem.W.max_tuple_data (I.ok.hd hc) (vs := its.toArray) hl (by simpa using hr) (alike_ints (i :: is)) (by rw [show PyData.depthAll (PyData.int i :: is.map PyData.int) = 0 from depth_ints (i :: is)]; omega) fun j v h' tk bs _ hv hk => ?_
          rw [PySem.W.maxD_ints] at hv
          cases hv
          exact ⟨.int _, H, I.kept hk, ⟨_, rfl⟩, h.ok R _ (.int _)⟩
    | ref hm =>
      simp only [biV] at h
      cases hcl : cellL s0 _ with
      | none => rw [hcl] at h; exact h.elim
      | some ds =>
        rw [hcl] at h
        simp only [optR] at h
        cases hb : ints? ds with
        | none => rw [hb] at h; exact h.elim
        | some is =>
          rw [hb] at h
          simp only [optR] at h
          cases is with
          | nil => exact h.elim
          | cons i is =>
            obtain ⟨vs, c1, c2⟩ := R.cellL hm hcl
            have e1 := c2.ints hb
            subst e1
            obtain ⟨its, rv, hl, _⟩ := I.list c1
            rw [Vals.ref1 r]
            obtain ⟨as, hr⟩ := reads_ints rv
            refine PySem.W.max_list_data (I.ok.hd hc) (vs := its.toArray) hl.isList (by simpa using hr) (alike_ints (i :: is)) (by rw [show PyData.depthAll (PyData.int i :: is.map PyData.int) = 0 from depth_ints (i :: is)]; omega) fun j v h' tk bs _ hv hk => ?_
            rw [PySem.W.maxD_ints] at hv
            cases hv
            exact ⟨.int _, H, I.kept hk, ⟨_, rfl⟩, h.ok R _ (.int _)⟩
    | _ => exact h.elim
  | .cons hx (.cons hy hr) => cases hx <;> exact h.elim
theorem bi_min1 (hc : X.calm = true) (hu : X.A.units + 64 < cLine) : CallR X (.builtin "min") (rBi X.K .min1) := by
  intro pins s σ H xs us Q I r h
  obtain ⟨μ, s0, ds, Wn, R, hv, h⟩ := h
  match hv with
  | .nil => exact h.elim
  | .cons hx .nil =>
    cases hx with
    | tup h1 h2 =>
      simp only [biV] at h
      cases hb : ints? _ with
      | none => rw [hb] at h; exact h.elim
      | some is =>
        rw [hb] at h
        simp only [optR] at h
        cases is with
        | nil => exact h.elim
        | cons i is =>
          have e1 := h2.ints hb
          subst e1
          obtain ⟨its, rv, hl, _⟩ := I.tuple h1.sq
          rw [Vals.ref1 r]
          obtain ⟨as, hr⟩ := reads_ints rv
          refine PySem.W.min_tuple_data (I.ok.hd hc) (vs := its.toArray) hl (by simpa using hr) (alike_ints (i :: is)) (by rw [show PyData.depthAll (PyData.int i :: is.map PyData.int) = 0 from depth_ints (i :: is)]; omega) fun j v h' tk bs _ hv hk => ?_
          rw [PySem.W.minD_ints] at hv
          cases hv
          exact ⟨.int _, H, I.kept hk, ⟨_, rfl⟩, h.ok R _ (.int _)⟩
    | ref hm =>
      simp only [biV] at h
      cases hcl : cellL s0 _ with
      | none => rw [hcl] at h; exact h.elim
      | some ds =>
        rw [hcl] at h
        simp only [optR] at h
        cases hb : ints? ds with
        | none => rw [hb] at h; exact h.elim
        | some is =>
          rw [hb] at h
          simp only [optR] at h
          cases is with
          | nil => exact h.elim
          | cons i is =>
            obtain ⟨vs, c1, c2⟩ := R.cellL hm hcl
            have e1 := c2.ints hb
            subst e1
            obtain ⟨its, rv, hl, _⟩ := I.list c1
            rw [Vals.ref1 r]
            obtain ⟨as, hr⟩ := reads_ints rv
            refine PySem.W.min_list_data (I.ok.hd hc) (vs := its.toArray) hl.isList (by simpa using hr) (alike_ints (i :: is)) (by rw [show PyData.depthAll (PyData.int i :: is.map PyData.int) = 0 from depth_ints (i :: is)]; omega) fun j v h' tk bs _ hv hk => ?_
            rw [PySem.W.minD_ints] at hv
            cases hv
            exact ⟨.int _, H, I.kept hk, ⟨_, rfl⟩, h.ok R _ (.int _)⟩
    | _ => exact h.elim
  | .cons hx (.cons hy hr) => cases hx <;> exact h.elim
theorem bi_sum (hc : X.calm = true) : CallR X (.builtin "sum") (rBi X.K .sum) := by
  intro pins s σ H xs us Q I r h
  obtain ⟨μ, s0, ds, Wn, R, hv, h⟩ := h
  match hv with
  | .nil => exact h.elim
  | .cons hx .nil =>
    cases hx with
    | ref hm =>
      simp only [biV] at h
      cases hcl : cellL s0 _ with
      | none => rw [hcl] at h; exact h.elim
      | some ds =>
        rw [hcl] at h
        simp only [optR] at h
        cases hb : ints? ds with
        | none => rw [hb] at h; exact h.elim
        | some is =>
          rw [hb] at h
          obtain ⟨vs, c1, c2⟩ := R.cellL hm hcl
          have e1 := c2.ints hb
          subst e1
          exact cr_sum hc pins s σ H _ us Q I r ⟨_, is, rfl, c1, h.ok R _ (.int _)⟩
    | _ => exact h.elim
  | .cons hx (.cons hy hr) => cases hx <;> exact h.elim
/-! ### a table of defs: y = table[key]; return y(..) -/
def PickAt (T : Tb) (X : Cx) (k : Nat) (aT : Addr) (np : Nat) (z : Str) (f : Nat) : Prop := ∃ (ad : Addr) (fd : FuncData) (ps : List Str), KDct X.K X.w aT z (.ref ad) ∧
  FnOk X.prog X.w X.K X.mg X.base (L2.CX X.prog X.w) k ad fd ps (spC T X.K f np) ∧ ps.length = np ∧ PySem.W.keepIn X.K (.ref ad) = true ∧ Binds X.K fd ps []
theorem pick_nil {k : Nat} {aT : Addr} {np : Nat} : ∀ z f, ([] : List (Str × Nat)).lookup z = some f → PickAt T X k aT np z f := fun z f h => by cases h
theorem pick_cons {k : Nat} {aT : Addr} {np : Nat} {z0 : Str} {f0 : Nat} {kvs : List (Str × Nat)} (h : PickAt T X k aT np z0 f0) (hr : ∀ z f, kvs.lookup z = some f → PickAt T X k aT np z f) : ∀ z f, ((z0, f0) :: kvs).lookup z = some f → PickAt T X k aT np z f := fun z f q => by
  rw [List.lookup_cons] at q
  split at q
  · rename_i e
    cases q
    have e' : z = z0 := eq_of_beq e
    subst e'
    exact h
  · exact hr z f q
/-- a local that holds a def, called -/
theorem pe_callV {i : Nat} {k : Nat} {f : Addr} {fd : FuncData} {ps : List Str} {sp : Sp} {E : L2.St → XK} {x : Str} {p : Pos} {t : TA} (F : FnOk X.prog X.w X.K X.mg X.base (L2.CX X.prog X.w) k f fd ps sp) (hr : Room k X.A) (hk : PySem.W.keepIn X.K (.ref f) = true) (hb : Binds X.K fd ps []) (hx : ∀ σ, PassesAt (L2.CX X.prog X.w) X σ (E σ))
    (hN : X.N[i]? = some x) (hv : Vis X.env.scope x) (ha : PA X (e :: es) t)
    (hd : (x == ("__debug__" : Str)) = false := by decide) (hcd : (x == ("__classdict__" : Str)) = false := by decide)
    (he : starEach (e :: es) X.env = (false, eval e X.env) :: starEach es X.env := by rfl) (hpl : (backTo pos (starEach es X.env)).any (·.1) = false := by rfl) :
    PE X (.Call (.Name x p) (e :: es) [] pos) (fun σ H Q => σ[i]? = some (some (.ref f)) ∧ tCallS sp E t σ H Q) := by
  refine ⟨fun pins s σ H Q I h => ?_⟩
  obtain ⟨hs, ht⟩ := h
  refine wpAny_Call_Name_kw (thn ((pe_var (pos := p) hN hv hd hcd).run pins s σ H (fun v H1 => v = .ref f ∧ H1 = H) I ⟨.ref f, hs, rfl, rfl⟩) fun u s1 ⟨v, H1, I1, r1, q1⟩ => ?_)
  obtain ⟨rfl, rfl⟩ := q1
  cases r1
  refine PySem.W.callWith_K (h₀ := X.base) I.ok.mod.kin hk (thn (ha.run pos pins s1 σ _ _ I1 ht) fun us s2 ⟨vs, H2, I2, r, q⟩ => ⟨I2.kIn, ?_⟩) he hpl
  exact run_fnS F hr hb (hx σ) I2 r q
theorem LR.void {K : PySem.W.Frag} {μ : List Addr} {H : Hp} {σ : L2.St} {r : Loc} {i : Nat} {o : Option V} (h : LR K ex μ H σ r) : LR K ex μ H (σ.set i o) (r.set i none) := by
  refine ⟨by rw [List.length_set, List.length_set]; exact h.len, fun j e he => ?_⟩
  by_cases hij : i = j
  · subst hij
    have hlt : i < (r.set i none).length := (List.getElem?_eq_some_iff.mp he).1
    rw [List.length_set] at hlt
    rw [List.getElem?_set_self hlt] at he
    cases he
  · rw [List.getElem?_set_ne hij] at he
    rw [List.getElem?_set_ne hij]
    exact h.at_ j e he
theorem sss_pick (i : Nat) {k : Nat} {aT : Addr} {np : Nat} {tbl y : Str} {kvs : List (Str × Nat)} {ekey : Expr} {pt p2 p3 p4 p5 p6 py : Pos} (hN : X.N.Nodup) (hm : X.mg tbl = some (.ref aT)) (hk : ∀ z f, kvs.lookup z = some f → PickAt T X k aT np z f) (hr : Room k X.A) (tk : Takes X W)
    (he : SE T X ex W ekey ce) (ha : SEs T X ex W (e :: es) ces) (hlen : ∀ r s xs s', evEs T.call T.G T.sub ces r s = .ok xs s' → xs.length = np) (hi : X.N[i]? = some y := by rfl) (hx : L2.Loc X.env.scope y := by first | exact Or.inl rfl | exact Or.inr rfl)
    (hf : X.fn y = true ∨ X.env.scope.names.lookup y = some .local := by first | exact .inl rfl | exact .inr rfl) (hv : Vis X.env.scope y := by first | exact Or.inl rfl | exact Or.inr (Or.inl rfl) | exact Or.inr (Or.inr rfl)) (hg : Gl X tbl := by rfl) (hdb : (tbl == ("__debug__" : Str)) = false := by decide) (hp : PlainIx ekey := by exact fun _ _ => rfl)
    (hd : (y == ("__debug__" : Str)) = false := by decide) (hcd : (y == ("__classdict__" : Str)) = false := by decide) (hes : starEach (e :: es) X.env = (false, eval e X.env) :: starEach es X.env := by rfl) (hpl : (backTo p5 (starEach es X.env)).any (·.1) = false := by rfl)
    (hs : swapsWithSole [.Name y py] (.Subscript (.Name tbl pt) ekey p2) p3.line X.env = pure false := by rfl) (hw : swappedStores [.Name y py] (.Subscript (.Name tbl pt) ekey p2) X.env = pure none := by rfl)
    (h1 : (assignEach [.Name y py] X.env).map (·.2) = [assign (.Name y py) X.env] := by rfl) :
    SSs T X ex W [.Assign [.Name y py] (.Subscript (.Name tbl pt) ekey p2) p3, .Return (some (.Call (.Name y p4) (e :: es) [] p5)) p6] (.cons (.pick i ce kvs ces) .nil) := by
  have pk : PE X (.Call (.Name y p4) (e :: es) [] p5) (fun σ H Q => ∃ ad fd ps f, FnOk X.prog X.w X.K X.mg X.base (L2.CX X.prog X.w) k ad fd ps (spC T X.K f np) ∧ PySem.W.keepIn X.K (.ref ad) = true ∧ Binds X.K fd ps [] ∧ σ[i]? = some (some (.ref ad)) ∧ tCallS (spC T X.K f np) (WE W) (tEs T X.K ex W ces) σ H Q) :=
    ⟨fun pins s σ H Q I h => by
      obtain ⟨ad, fd, ps, f, FO, kp, bd, q⟩ := h
      exact (pe_callV FO hr kp bd (fun σ => passAt tk σ) hi hv ha.pa hd hcd hes hpl).run pins s σ H Q I q⟩
  refine ⟨(pss_cons (ps_asg (pe_ix ix_kdict (pe_glob (v := .ref aT) hg hm rfl hdb) he.pe hp) (pg_name hN hi hx hf) hs hw h1) (pss_one (ps_ret pk))).imp fun D σ H h => ?_⟩
  obtain ⟨μ, r, s, R, L, h⟩ := h
  simp only [evSs, evS] at h
  refine ⟨μ, r, s, R, L, ?_⟩
  cases hm1 : evE T.call T.G T.sub ce r s with
  | exc c s1 =>
    rw [hm1] at h
    exact fun μ' H' le R' => h μ' H' σ le R' (L.mono le)
  | stuck => rw [hm1] at h; exact h
  | ok x s1 =>
    rw [hm1] at h
    simp only [Res.out] at h
    intro μ1 H1 le1 R1 v hv1
    have L1 := L.mono le1
    cases hv1 with
    | str z =>
      simp only at h
      cases hz : kvs.lookup z with
      | none => rw [hz] at h; exact h.elim
      | some f =>
        rw [hz] at h
        simp only at h
        by_cases hlt : i < r.length
        · rw [if_pos hlt] at h
          obtain ⟨ad, fd, ps, kd, FO, _, kp, bd⟩ := hk z f hz
          refine ⟨aT, z, .ref ad, rfl, rfl, kd, ?_⟩
          refine ⟨ad, fd, ps, f, FO, kp, bd, List.getElem?_set_self (by rw [← L1.len]; exact hlt), ?_⟩
          refine ⟨μ1, r.set i none, s1, R1, L1.void, ?_⟩
          cases hm2 : evEs T.call T.G T.sub ces (r.set i none) s1 with
          | exc c s2 =>
            rw [hm2] at h
            exact fun μ' H' le R' => h μ' H' _ (le1.trans le) R' (L1.void.mono le)
          | stuck => rw [hm2] at h; exact h
          | ok xs s2 =>
            rw [hm2] at h
            simp only [Res.bind] at h
            intro μ2 H2 le2 R2 vs hvs
            refine ⟨μ2, s2, xs, R2, hvs, hlen _ _ _ _ hm2, ?_⟩
            cases hm3 : T.call f xs s2 with
            | exc c s3 =>
              rw [hm3] at h
              exact fun μ' H' le R' => h μ' H' _ ((le1.trans le2).trans le) R' ((L1.void.mono le2).mono le)
            | stuck => rw [hm3] at h; exact h
            | ok d s3 =>
              rw [hm3] at h
              exact fun μ' H' le R' u hu => h μ' H' u ((le1.trans le2).trans le) R' hu
        · rw [if_neg hlt] at h
          exact h.elim
    | _ => exact h.elim
end
end Ip
end PtIpPick
section PtIpText
set_option Elab.async false
set_option linter.all false
set_option maxRecDepth 100000
/-! f-strings -/
namespace Ip
open PySem PySem.Spec PyProof.Rows L2
section
variable {T : Tb} {X : Cx} {ex : Option (Addr × Nat)} {W : WX} {a b c e : Expr} {ca cb cc ce : CE} {pos : Pos} {es rest : List Expr} {ces : CEs}
/-- {x} -/
theorem se_fmtv (ha : SE T X ex W a ca) : SE T X ex W (.FormattedValue a (-1) none pos) (.bi .fmt (.cons ca .nil)) := ⟨(pe_fmt ha.pe).imp fun σ H Q h => by
  obtain ⟨μ, r, s, R, L, h⟩ := h
  simp only [evE, evEs] at h
  rw [Res.bind_assoc] at h
  refine ⟨μ, r, s, R, L, h.bind.map fun μ1 H1 s1 x le1 R1 h1 v1 hv1 => ?_⟩
  simp only [Res.bind] at h1
  cases hv1 with
  | str z =>
    simp only [biV] at h1
    split at h1
    · rename_i hl
      exact .inl ⟨z, rfl, Nat.le_trans hl (by decide), h1.ok R1 _ (.str _)⟩
    · exact h1.elim
  | int i =>
    simp only [biV] at h1
    split at h1
    · rename_i hl
      exact .inr ⟨i, rfl, hl.1, h1.ok R1 _ (.str _)⟩
    · exact h1.elim
  | _ => exact h1.elim⟩
/-- a part: always a short text -/
def StrE (T : Tb) (c : CE) : Prop := ∀ r s x s', evE T.call T.G T.sub c r s = .ok x s' → ∃ z, x = .str z ∧ z.length ≤ 1000
theorem strE_k {z : Str} (h : z.length ≤ 1000) : StrE T (.k (.str z)) := fun r s x s' q => by
  cases q
  exact ⟨z, rfl, h⟩
theorem strE_fmt : StrE T (.bi .fmt (.cons ca .nil)) := fun r s x s' q => by
  simp only [evE, evEs] at q
  cases hm : evE T.call T.G T.sub ca r s with
  | ok d s1 =>
    rw [hm] at q
    simp only [Res.bind] at q
    cases d with
    | str z =>
      simp only [biV] at q
      split at q
      · rename_i hl
        cases q
        exact ⟨z, rfl, hl⟩
      · cases q
    | int i =>
      simp only [biV] at q
      split at q
      · rename_i hl
        cases q
        exact ⟨_, rfl, hl.2⟩
      · cases q
    | _ => cases q
  | exc c s1 => rw [hm] at q; cases q
  | stuck => rw [hm] at q; cases q
structure SJ (T : Tb) (X : Cx) (ex : Option (Addr × Nat)) (W : WX) (es : List Expr) (cs : CEs) (n : Nat) : Prop where
  ok : ∃ ts, PJ X es ts ∧ ∀ (acc : Str) σ H (Q : Str → Hp → Prop) μ r s, Rel X.K μ H s → LR X.K ex μ H σ r → acc.length + 1000 * n ≤ sizeLine →
    Go X.K μ H (evEs T.call T.G T.sub cs r s) (fun c H' => ∀ C, T.cls c = some C → W (.ref C) none σ H') (fun μ' H' _ ds => ∀ zs, strs? ds = some zs → Q (zs.foldl (· ++ ·) acc) H') → tJs ts acc σ H Q
theorem sj_nil : SJ T X ex W [] .nil 0 := ⟨⟨[], .nil, fun acc σ H Q μ r s R L hz h => h.ok R [] rfl⟩⟩
theorem sj_cons {n : Nat} (ha : SE T X ex W e ce) (hs : StrE T ce) (hr : SJ T X ex W es ces n) : SJ T X ex W (e :: es) (.cons ce ces) (n + 1) := by
  obtain ⟨ts, hp, hk⟩ := hr.ok
  refine ⟨_, .cons ha.pe hp, fun acc σ H Q μ r s R L hz h => ?_⟩
  refine ⟨μ, r, s, R, L, ?_⟩
  simp only [evEs] at h
  cases hm : evE T.call T.G T.sub ce r s with
  | exc c s1 => rw [hm] at h; exact h
  | stuck => rw [hm] at h; exact h
  | ok x s1 =>
    rw [hm] at h
    obtain ⟨z, rfl, hl⟩ := hs _ _ _ _ hm
    intro μ1 H1 le1 R1 v hv
    cases hv
    have hz2 : (acc ++ z).length + 1000 * n ≤ sizeLine := by
      rw [Str.length_append]
      omega
    refine ⟨z, rfl, by omega, hk (acc ++ z) σ H1 Q μ1 r s1 R1 (L.mono le1) hz2 ?_⟩
    simp only [Res.bind] at h
    have h := Go.later (K := X.K) h le1
    cases hm2 : evEs T.call T.G T.sub ces r s1 with
    | exc c s2 => rw [hm2] at h; exact h
    | stuck => rw [hm2] at h; exact h
    | ok ds s2 =>
      rw [hm2] at h
      exact fun μ2 H2 le2 R2 zs hzs => h μ2 H2 le2 R2 (z :: zs) (by simp only [strs?, hzs])
theorem se_joined {v1 v2 : Expr} {n : Nat} (h : SJ T X ex W (v1 :: v2 :: rest) ces n) (hn : n ≤ 16 := by decide) : SE T X ex W (.JoinedStr (v1 :: v2 :: rest) pos) (.bi .cat ces) := by
  obtain ⟨ts, hp, hk⟩ := h.ok
  refine ⟨(pe_joined hp).imp fun σ H Q h => ?_⟩
  obtain ⟨μ, r, s, R, L, h⟩ := h
  refine hk Str.empty σ H _ μ r s R L (by
    have : (1000 : Nat) * n ≤ 16000 := by omega
    have : (16000 : Nat) ≤ sizeLine := by decide
    show 0 + 1000 * n ≤ sizeLine
    omega) ?_
  simp only [evE] at h
  cases hm : evEs T.call T.G T.sub ces r s with
  | exc c s1 => rw [hm] at h; exact h
  | stuck => rw [hm] at h; exact h
  | ok ds s1 =>
    rw [hm] at h
    intro μ1 H1 le1 R1 zs hzs
    have h := Go.later (K := X.K) h le1
    simp only [Res.bind, biV, hzs, optR] at h
    split at h
    · exact h.ok R1 _ (.str _)
    · exact h.elim
end
end Ip
end PtIpText
section PtIpLib
set_option Elab.async false
set_option linter.all false
set_option maxRecDepth 100000
/-! comprehensions and stores, by words -/
namespace Ip
open PySem
section
variable {call : Nat → List DV → Store → Res DV} {G : Nat → Option DV} {sub : Nat → Nat → Bool}
theorem get_snoc {s : Store} {c : Cell} : (s ++ [c])[s.length]? = some c := by
  rw [List.getElem?_append_right (Nat.le_refl _), Nat.sub_self]
  rfl
theorem set_snoc {s : Store} {c c' : Cell} : (s ++ [c]).set s.length c' = s ++ [c'] := by
  rw [List.set_append_right _ _ (Nat.le_refl _), Nat.sub_self]
  rfl
theorem get_more {s t : Store} {n : Nat} {c : Cell} (h : s[n]? = some c) : (s ++ t)[n]? = some c := by
  rw [List.getElem?_append_left (lt_of_get h)]
  exact h
theorem cell_app {s t : Store} {n : Nat} {xs : List DV} (h : cellL s n = some xs) : cellL (s ++ t) n = some xs := by
  unfold cellL at h ⊢
  cases e : s[n]? with
  | none => rw [e] at h; cases h
  | some c => rw [get_more e]; rw [e] at h; exact h
theorem cell_snoc {s : Store} {xs : List DV} : cellL (s ++ [.lst xs]) s.length = some xs := cellL_of get_snoc
theorem free_ok {s : Store} : Src.free.ok s := trivial
/-- a comprehension whose turns leave the store as it is -/
theorem lc_pure {f : Src} {s0 : Store} {body : DV → Store → Res (Option DV)} {g : DV → Option DV} (hf : ∀ acc, f.ok (s0 ++ [.lst acc])) : ∀ (xs acc : List DV), (∀ x ∈ xs, ∀ acc, body x (s0 ++ [.lst acc]) = .ok (g x) (s0 ++ [.lst acc])) → acc.length + xs.length ≤ sizeLine →
    lcL s0.length f body xs (s0 ++ [.lst acc]) = .ok (.ref s0.length) (s0 ++ [.lst (acc ++ xs.filterMap g)])
  | [], acc, _, _ => by
    simp only [lcL]
    rw [if_pos (hf acc), List.filterMap_nil, List.append_nil]
  | x :: xs, acc, hb, hz => by
    have hx := hb x List.mem_cons_self acc
    have hr := fun acc' h => lc_pure hf xs acc' (fun y hy => hb y (List.mem_cons_of_mem _ hy)) h
    rw [List.length_cons] at hz
    simp only [lcL]
    rw [if_pos (hf acc), hx]
    simp only [Res.quiet, Res.bind]
    cases hg : g x with
    | none =>
      rw [hr acc (by omega), List.filterMap_cons, hg]
    | some v =>
      simp only
      rw [get_snoc]
      simp only
      rw [if_pos (by omega), set_snoc, hr (acc ++ [v]) (by rw [List.length_append, List.length_singleton]; omega), List.filterMap_cons, hg, List.append_assoc]
      rfl
/-- [e for t in it] with one value a turn -/
theorem lc_run {t : CT} {it : CI} {ifs : CEs} {e : CE} {own : List Nat} {r : Loc} {s : Store} {f : Src} {xs : List DV} (g : DV → Option DV) (hi : evI call G sub it r s = .ok (f, xs) s) (hf : ∀ acc, f.ok (s ++ [.lst acc]))
    (hb : ∀ x ∈ xs, ∀ acc, ((evT call G sub t x (wipe r own) (s ++ [.lst acc])).bind fun r s => (evAll call G sub ifs r s).bind fun b s => cond b ((evE call G sub e r s).bind fun v s => Res.ok (some v) s) (.ok none s)) = .ok (g x) (s ++ [.lst acc])) (hz : xs.length ≤ sizeLine) :
    evE call G sub (.lc t it ifs e own) r s = .ok (.ref s.length) (s ++ [.lst (xs.filterMap g)]) := by
  rw [qE_lc, hi]
  simp only [Res.bind]
  have := lc_pure (s0 := s) (body := fun x s => (evT call G sub t x (wipe r own) s).bind fun r s => (evAll call G sub ifs r s).bind fun b s => cond b ((evE call G sub e r s).bind fun v s => Res.ok (some v) s) (.ok none s)) (g := g) hf xs [] hb (by rw [List.length_nil]; omega)
  rw [List.nil_append] at this
  exact this
end
/-! ### what is kept of a store -/
/-- all but the reader at d stands as it stood -/
def Kp (d : Nat) (s s' : Store) : Prop := s.length ≤ s'.length ∧ ∀ n, n < s.length → n ≠ d → s'[n]? = s[n]?
theorem Kp.refl {d : Nat} {s : Store} : Kp d s s := ⟨Nat.le_refl _, fun _ _ _ => rfl⟩
theorem Kp.trans {d : Nat} {s s' s2 : Store} (h : Kp d s s') (h2 : Kp d s' s2) : Kp d s s2 := ⟨Nat.le_trans h.1 h2.1, fun n hn hd => (h2.2 n (Nat.lt_of_lt_of_le hn h.1) hd).trans (h.2 n hn hd)⟩
theorem Kp.app {d : Nat} {s t : Store} : Kp d s (s ++ t) := ⟨by rw [List.length_append]; omega, fun n hn _ => List.getElem?_append_left hn⟩
theorem Kp.get {d n : Nat} {s s' : Store} {c : Cell} (h : Kp d s s') (hn : s[n]? = some c) (hd : n ≠ d) : s'[n]? = some c := (h.2 n (lt_of_get hn) hd).trans hn
theorem Kp.cell {d n : Nat} {s s' : Store} {xs : List DV} (h : Kp d s s') (hn : cellL s n = some xs) (hd : n ≠ d) : cellL s' n = some xs := by
  unfold cellL at hn ⊢
  cases e : s[n]? with
  | none => rw [e] at hn; cases hn
  | some c => rw [h.get e hd]; rw [e] at hn; exact hn
theorem Kp.take {d : Nat} {s s' : Store} (h : ∀ n, n ≠ d → s'[n]? = s[n]?) (hl : s'.length = s.length) : Kp d s s' := ⟨by omega, fun n _ hd => h n hd⟩
/-! ### a list walked by equal turns -/
theorem bin_cat {a b : Str} {s : Store} (h : a.length + b.length ≤ sizeLine) : binV .add (.str a) (.str b) s = .ok (.str (a ++ b)) s := by
  simp only [binV]
  rw [if_pos h]
theorem one_len {c : Nat} : (⟨#[c]⟩ : Str).length = 1 := rfl
end Ip
namespace Ip
open PySem
section
variable {f : Src} {body : DV → Loc → Store → Out} {x : DV} {xs : List DV} {r r' : Loc} {s s' : Store}
theorem forL_nil (h : f.ok s) : forL f body [] r s = .nx r s := by
  simp only [forL]
  rw [if_pos h]
theorem forL_nx (h : f.ok s) (hb : body x r s = .nx r' s') : forL f body (x :: xs) r s = forL f body xs r' s' := by
  simp only [forL]
  rw [if_pos h, hb]
theorem forL_ct (h : f.ok s) (hb : body x r s = .ct r' s') : forL f body (x :: xs) r s = forL f body xs r' s' := by
  simp only [forL]
  rw [if_pos h, hb]
theorem forL_exc {c : Nat} (h : f.ok s) (hb : body x r s = .exc c r' s') : forL f body (x :: xs) r s = .exc c r' s' := by
  simp only [forL]
  rw [if_pos h, hb]
theorem forL_rt {v : DV} (h : f.ok s) (hb : body x r s = .rt v s') : forL f body (x :: xs) r s = .rt v s' := by
  simp only [forL]
  rw [if_pos h, hb]
end
theorem lenset_ok {z : Str} {s : Store} (h : z.cps.size ≤ 1000) : biV .lenset [.str z] s = .ok (.int (IpS.metC (IpS.sgn z) z.cps.size).length) s := by
  simp only [biV]
  rw [if_pos (by unfold scanBound; omega)]
theorem len_str {z : Str} {s : Store} (h : z.length ≤ sizeLine) : biV .len [.str z] s = .ok (.int z.length) s := by
  simp only [biV]
  rw [if_pos h]
/-- a sign that was met before -/
def dupB (L : List Nat) : Bool := (List.range L.length).any fun k => decide (L.getD k 0 ∈ L.take k)
theorem met_any (val : Nat → Str) (c : Str) : ∀ i, (IpS.metC val i).any (· == c) = true ↔ ∃ a, a < i ∧ val a = c
  | 0 => by simp [IpS.metC]
  | i + 1 => by
    show (IpS.addC _ _).any _ = true ↔ _
    rw [IpS.addC_any, Bool.or_eq_true, met_any val c i, decide_eq_true_eq]
    constructor
    · rintro (⟨a, ha, e⟩ | e)
      · exact ⟨a, by omega, e⟩
      · exact ⟨i, by omega, e.symm⟩
    · rintro ⟨a, ha, e⟩
      by_cases h : a = i
      · subst h; exact .inr e.symm
      · exact .inl ⟨a, by omega, e⟩
theorem met_len (val : Nat → Str) : ∀ i, (IpS.metC val i).length = i ↔ ∀ b, b < i → ∀ a, a < b → val a ≠ val b
  | 0 => by simp [IpS.metC]
  | i + 1 => by
    show (IpS.addC _ _).length = _ ↔ _
    rw [IpS.addC_length]
    have hle := IpS.metC_le val i
    by_cases h : (IpS.metC val i).any (· == val i) = true
    · rw [if_pos h]
      obtain ⟨a, ha, e⟩ := (met_any val (val i) i).mp h
      constructor
      · intro q; omega
      · intro q; exact absurd e (q i (by omega) a ha)
    · rw [if_neg h]
      have ih := met_len val i
      constructor
      · intro q b hb a ha
        by_cases hbi : b = i
        · subst hbi
          exact fun e => h ((met_any val _ _).mpr ⟨a, ha, e⟩)
        · exact ih.mp (by omega) b (by omega) a ha
      · intro q
        have := ih.mpr fun b hb a ha => q b (by omega) a ha
        omega
theorem sgn_inj {z : Str} {a b : Nat} : IpS.sgn z a = IpS.sgn z b ↔ z.cps.getD a 0 = z.cps.getD b 0 := by
  unfold IpS.sgn
  constructor
  · intro h
    have h1 := congrArg Str.cps h
    simp only at h1
    have h2 := congrArg Array.toList h1
    simp only [List.cons.injEq, and_true] at h2
    exact h2
  · intro h; rw [h]
theorem getD_list {z : Str} {a : Nat} : z.cps.getD a 0 = z.cps.toList.getD a 0 := by
  rw [List.getD_eq_getElem?_getD, Array.getElem?_toList, Array.getD_eq_getD_getElem?]
theorem mem_take_iff {L : List Nat} {b c : Nat} (hb : b ≤ L.length) : c ∈ L.take b ↔ ∃ a, a < b ∧ L.getD a 0 = c := by
  rw [List.mem_iff_getElem?]
  constructor
  · rintro ⟨a, ha⟩
    rw [List.getElem?_take] at ha
    split at ha
    · rename_i h
      exact ⟨a, h, by rw [List.getD_eq_getElem?_getD, ha]; rfl⟩
    · cases ha
  · rintro ⟨a, ha, e⟩
    refine ⟨a, ?_⟩
    rw [List.getElem?_take, if_pos ha, List.getElem?_eq_getElem (by omega)]
    rw [List.getD_eq_getElem?_getD, List.getElem?_eq_getElem (by omega)] at e
    exact congrArg some e
theorem met_dup {z : Str} : (((IpS.metC (IpS.sgn z) z.cps.size).length : Int) == (z.length : Int)) = !dupB z.cps.toList := by
  have key : (IpS.metC (IpS.sgn z) z.cps.size).length = z.cps.size ↔ dupB z.cps.toList = false := by
    rw [met_len]
    unfold dupB
    rw [List.any_eq_false]
    constructor
    · intro h b hb hm
      rw [List.mem_range] at hb
      obtain ⟨a, ha, e⟩ := (mem_take_iff (Nat.le_of_lt hb)).mp (of_decide_eq_true hm)
      rw [Array.length_toList] at hb
      exact h b hb a ha (sgn_inj.mpr (by rw [getD_list, getD_list]; exact e))
    · intro h b hb a ha e
      refine h b (List.mem_range.mpr (by rw [Array.length_toList]; exact hb)) (decide_eq_true ?_)
      exact (mem_take_iff (by rw [Array.length_toList]; omega)).mpr ⟨a, ha, by rw [← getD_list, ← getD_list]; exact sgn_inj.mp e⟩
  cases hd : dupB z.cps.toList with
  | false =>
    have := key.mpr hd
    show _ = true
    rw [beq_iff_eq, this]
    rfl
  | true =>
    show _ = false
    rw [beq_eq_false_iff_ne]
    intro e
    have : (IpS.metC (IpS.sgn z) z.cps.size).length = z.cps.size := by exact_mod_cast e
    rw [key.mp this] at hd
    cases hd
end Ip
namespace Ip
open PySem
theorem cut_take {L : List Nat} {k : Nat} (h : k ≤ L.length) : cut L none (some (k : Int)) = L.take k := by
  unfold cut
  rw [HT.sIx_none, HT.sIx_nat, List.drop_zero, Nat.sub_zero, Nat.min_eq_left h]
theorem slice_str {z : Str} {lo hi : Option Int} {s : Store} (h : z.length ≤ sizeLine) : sliceV (.str z) lo hi s = .ok (.str ⟨(cut z.cps.toList lo hi).toArray⟩) s := by
  simp only [sliceV]
  rw [if_pos h]
theorem item_str {z : Str} {i : Int} {c : Nat} {s : Store} (h : z.length ≤ sizeLine) (hc : L2.atI z.cps.toList i = some c) : itemV (.str z) (.int i) s = .ok (.str ⟨#[c]⟩) s := by
  simp only [itemV]
  rw [if_pos h, hc]
theorem in_sign {c : Nat} {z : Str} {s : Store} : cmpV .in (.str ⟨#[c]⟩) (.str z) s = .ok (decide (c ∈ z.cps.toList)) s := by
  simp only [cmpV]
  rw [if_pos (show Str.length ⟨#[c]⟩ = 1 from rfl)]
  rfl
theorem notIn_sign {c : Nat} {z : Str} {s : Store} : cmpV .notIn (.str ⟨#[c]⟩) (.str z) s = .ok (!decide (c ∈ z.cps.toList)) s := by
  simp only [cmpV]
  rw [if_pos (show Str.length ⟨#[c]⟩ = 1 from rfl)]
  rfl
theorem pos_filter {α β : Type} {g : α → Option β} {p : α → Bool} : ∀ {l : List α}, (∀ x ∈ l, (g x).isSome = p x) → decide ((0 : Int) < ((l.filterMap g).length : Int)) = l.any p
  | [], _ => rfl
  | x :: l, h => by
    have ih := pos_filter (l := l) fun y hy => h y (List.mem_cons_of_mem _ hy)
    have hx := h x List.mem_cons_self
    rw [List.filterMap_cons, List.any_cons, ← hx]
    cases hg : g x with
    | none => 
      simp only [Option.isSome]
      rw [ih]
      rfl
    | some v => 
      simp only [List.length_cons, Option.isSome, Bool.true_or]
      exact decide_eq_true (by omega)
end Ip
namespace Ip
open PySem
theorem atI_ex {α : Type} {l : List α} {i : Int} (h0 : 0 ≤ i) (h1 : i < l.length) : ∃ a, L2.atI l i = some a ∧ a ∈ l := by
  obtain ⟨n, rfl⟩ : ∃ n : Nat, i = (n : Int) := ⟨i.toNat, by omega⟩
  have hn : n < l.length := by omega
  exact ⟨l[n], L2.atI_nat (List.getElem?_eq_getElem hn), List.getElem_mem hn⟩
theorem append_ok {n : Nat} {xs : List DV} {v : DV} {s : Store} (h : s[n]? = some (.lst xs)) (hz : xs.length < sizeLine) : mtV .append (.ref n) [v] s = .ok .non (s.set n (.lst (xs ++ [v]))) := by
  simp only [mtV, h, if_pos hz]
theorem cmpable_str {a : Str} (h : PyData.strOk a = true) : cmpable (.str a) = true := by
  simp [cmpable, pure?, pd, SeqAt.shaped, PyData.canLay0, PyData.depth, h]
theorem deq_str {a b : Str} : deq (.str a) (.str b) = decide (a = b) := by
  show PyData.eqv (.str a) (.str b) = _
  by_cases h : a = b
  · subst h
    simp [PyData.eqv]
  · rw [decide_eq_false h]
    simp [PyData.eqv, h]
theorem eq_str {a b : Str} {s : Store} (ha : PyData.strOk a = true) (hb : PyData.strOk b = true) : cmpV .eq (.str a) (.str b) s = .ok (decide (a = b)) s := by
  show (if (cmpable (.str a) && cmpable (.str b)) = true then _ else _) = _
  rw [if_pos (by rw [cmpable_str ha, cmpable_str hb]; rfl), deq_str]
theorem ne_str {a b : Str} {s : Store} (ha : PyData.strOk a = true) (hb : PyData.strOk b = true) : cmpV .ne (.str a) (.str b) s = .ok (!decide (a = b)) s := by
  show (if (cmpable (.str a) && cmpable (.str b)) = true then _ else _) = _
  rw [if_pos (by rw [cmpable_str ha, cmpable_str hb]; rfl), deq_str]
theorem eq_self {a : Str} {s : Store} (ha : PyData.strOk a = true) : cmpV .eq (.str a) (.str a) s = .ok true s := by
  rw [eq_str ha ha, decide_eq_true rfl]
theorem ne_self {a : Str} {s : Store} (ha : PyData.strOk a = true) : cmpV .ne (.str a) (.str a) s = .ok false s := by
  rw [ne_str ha ha, decide_eq_true rfl]
  rfl
theorem z_le (n : Nat) (h : n ≤ 1000) : (n ≤ sizeLine) = True := eq_true (Nat.le_trans h (by decide))
end Ip
namespace Ip
open PySem
/-! ### sizes -/
def Sm (n : Nat) (x : Int) : Prop := x.natAbs < 2 ^ n
theorem Sm.mono {n m : Nat} {x : Int} (h : Sm n x) (hm : n ≤ m) : Sm m x := Nat.lt_of_lt_of_le h (Nat.pow_le_pow_right (by decide) hm)
theorem Sm.mul {n m : Nat} {x y : Int} (h : Sm n x) (h2 : Sm m y) : Sm (n + m) (x * y) := by
  unfold Sm at *
  rw [Int.natAbs_mul, Nat.pow_add]
  exact Nat.mul_lt_mul'' h h2
theorem Sm.add {n : Nat} {x y : Int} (h : Sm n x) (h2 : Sm n y) : Sm (n + 1) (x + y) := by
  unfold Sm at *
  rw [Nat.pow_succ]
  omega
theorem Sm.neg {n : Nat} {x : Int} (h : Sm n x) : Sm n (-x) := by
  unfold Sm at *
  omega
theorem Sm.sub {n : Nat} {x y : Int} (h : Sm n x) (h2 : Sm n y) : Sm (n + 1) (x - y) := by
  rw [Int.sub_eq_add_neg]
  exact h.add h2.neg
theorem Sm.le {n : Nat} {x y : Int} (h : Sm n x) (h2 : y.natAbs ≤ x.natAbs) : Sm n y := Nat.lt_of_le_of_lt h2 h
theorem log2_lt {n m : Nat} (h : n < 2 ^ m) (hm : 0 < m) : n.log2 < m := by
  by_cases h0 : n = 0
  · subst h0
    exact hm
  · exact (Nat.log2_lt h0).mpr h
theorem Sm.log2 {n : Nat} {x : Int} (h : Sm n x) (hn : 0 < n) : x.natAbs.log2 < n := log2_lt h hn
theorem Sm.mulOk {n m : Nat} {x y : Int} (h : Sm n x) (h2 : Sm m y) (h0 : 0 < n) (h1 : 0 < m) (hs : n + m ≤ 1000000) : mulOk x y = true := by
  have := h.log2 h0
  have := h2.log2 h1
  unfold Ip.mulOk
  rw [Bool.or_eq_true]
  exact .inr (decide_eq_true (by omega))
theorem eqs {a b : Str} {c : Bool} (h : decide (a = b) = c) (ha : PyData.strOk a = true) (hb : PyData.strOk b = true) (s : Store) : cmpV .eq (.str a) (.str b) s = .ok c s := by
  rw [eq_str ha hb, h]
end Ip
end PtIpLib
section PtIpNum
set_option Elab.async false
set_option linter.all false
set_option maxRecDepth 100000
/-! ints as texts -/
namespace Ip
open PySem TL
/-- the signs of a natural number as it is written -/
def isNat (l : List Nat) : Bool := !l.isEmpty && l.all (fun c => decide (48 ≤ c) && decide (c ≤ 57)) && (decide (l.headD 0 ≠ 48) || decide (l = [48]))
def isInt (l : List Nat) : Bool := match l with
  | 45 :: r => decide (r ≠ [48]) && isNat r
  | _ => isNat l
def valI (l : List Nat) : Int := match l with
  | 45 :: r => -((NumText.digitsVal r : Nat) : Int)
  | _ => ((NumText.digitsVal l : Nat) : Int)
/-- an int, written -/
def strI (i : Int) : List Nat := if i < 0 then 45 :: numL i.natAbs else numL i.natAbs
theorem tl_int (i : Int) : tl (Str.ofString (toString i)) = strI i := by
  unfold strI
  by_cases h : i < 0
  · rw [if_pos h, PyProof.Rows.toString_neg h]
    have e : (0 - i : Int) = ((i.natAbs : Nat) : Int) := by omega
    rw [e]
    have : Str.ofString ("-" ++ toString ((i.natAbs : Nat) : Int)) = Str.ofString "-" ++ Str.ofString (toString ((i.natAbs : Nat) : Int)) := by
      apply ext_tl
      rw [tl_append, tl_ofString, tl_ofString, tl_ofString, String.toList_append, List.map_append]
    rw [this, tl_append, tl_num]
    rfl
  · rw [if_neg h]
    have e : i = ((i.natAbs : Nat) : Int) := by omega
    conv => lhs; rw [e]
    exact tl_num _
theorem isNat_iff {l : List Nat} : isNat l = true ↔ l ≠ [] ∧ (∀ c ∈ l, 48 ≤ c ∧ c ≤ 57) ∧ (l.headD 0 ≠ 48 ∨ l = [48]) := by
  unfold isNat
  rw [Bool.and_eq_true, Bool.and_eq_true, Bool.or_eq_true, List.all_eq_true]
  simp only [Bool.and_eq_true, decide_eq_true_eq, Bool.not_eq_true', List.isEmpty_eq_false_iff, and_assoc]
theorem isNat_digits {l : List Nat} (h : isNat l = true) : NumText.AllDigits l := (isNat_iff.mp h).2.1
theorem isNat_ne {l : List Nat} (h : isNat l = true) : l ≠ [] := (isNat_iff.mp h).1
theorem val_snoc (l : List Nat) (c : Nat) : NumText.digitsVal (l ++ [c]) = NumText.digitsVal l * 10 + (c - 48) := by
  unfold NumText.digitsVal
  rw [List.foldl_append]
  rfl
/-- what is written as a number is the writing of its value -/
theorem isNat_num : ∀ (n : Nat) (l : List Nat), l.length = n → isNat l = true → l = numL (NumText.digitsVal l) := by
  intro n
  induction n with
  | zero =>
    intro l hl h
    exact absurd (List.eq_nil_of_length_eq_zero hl) (isNat_ne h)
  | succ n ih =>
    intro l hl h
    obtain ⟨l', c, rfl⟩ : ∃ l' c, l = l' ++ [c] := ⟨l.dropLast, l.getLast (isNat_ne h), (List.dropLast_concat_getLast (isNat_ne h)).symm⟩
    obtain ⟨h1, h2, h3⟩ := isNat_iff.mp h
    have hc := h2 c (by simp)
    rw [val_snoc]
    cases l' with
    | nil =>
      have : NumText.digitsVal [] = 0 := rfl
      rw [this, Nat.zero_mul, Nat.zero_add, numL_lt (by omega)]
      show [c] = [48 + (c - 48)]
      rw [show 48 + (c - 48) = c by omega]
    | cons a r =>
      have ha : a ≠ 48 := by
        rcases h3 with h3 | h3
        · exact h3
        · have := congrArg List.length h3
          simp at this
      have hn : isNat (a :: r) = true := isNat_iff.mpr ⟨by simp, fun d hd => h2 d (List.mem_append_left _ hd), .inl ha⟩
      have e := ih (a :: r) (by simpa using hl) hn
      have hv : NumText.digitsVal (a :: r) ≠ 0 := fun z => by
        rw [z] at e
        have : numL 0 = [48] := by rw [numL_lt (by omega)]
        rw [this] at e
        exact ha (by injection e)
      rw [numL_step (n := NumText.digitsVal (a :: r) * 10 + (c - 48)) (by omega)]
      have q1 : (NumText.digitsVal (a :: r) * 10 + (c - 48)) / 10 = NumText.digitsVal (a :: r) := by omega
      have q2 : (NumText.digitsVal (a :: r) * 10 + (c - 48)) % 10 = c - 48 := by omega
      rw [q1, q2, ← e, show 48 + (c - 48) = c by omega]
theorem isNat_eq {l : List Nat} (h : isNat l = true) : l = numL (NumText.digitsVal l) := isNat_num _ l rfl h
theorem isInt_neg (r : List Nat) : isInt (45 :: r) = (decide (r ≠ [48]) && isNat r) := rfl
theorem valI_neg (r : List Nat) : valI (45 :: r) = -((NumText.digitsVal r : Nat) : Int) := rfl
theorem isInt_pos {l : List Nat} (h : ∀ r, l ≠ 45 :: r) : isInt l = isNat l := by
  unfold isInt
  split
  · exact absurd rfl (h _)
  · rfl
theorem valI_pos {l : List Nat} (h : ∀ r, l ≠ 45 :: r) : valI l = ((NumText.digitsVal l : Nat) : Int) := by
  unfold valI
  split
  · exact absurd rfl (h _)
  · rfl
theorem neg_or (l : List Nat) : (∃ r, l = 45 :: r) ∨ ∀ r, l ≠ 45 :: r := by
  by_cases h : ∃ r, l = 45 :: r
  · exact .inl h
  · exact .inr fun r e => h ⟨r, e⟩
theorem isInt_eq {l : List Nat} (h : isInt l = true) : l = strI (valI l) := by
  rcases neg_or l with ⟨r, rfl⟩ | hne
  · rw [isInt_neg, Bool.and_eq_true, decide_eq_true_eq] at h
    have e := isNat_eq h.2
    have hv : NumText.digitsVal r ≠ 0 := fun z => by
      rw [z] at e
      have : numL 0 = [48] := by rw [numL_lt (by omega)]
      rw [this] at e
      exact h.1 e
    rw [valI_neg]
    unfold strI
    rw [if_pos (by omega)]
    have : (-((NumText.digitsVal r : Nat) : Int)).natAbs = NumText.digitsVal r := by omega
    rw [this, ← e]
  · rw [isInt_pos hne] at h
    have e := isNat_eq h
    rw [valI_pos hne]
    unfold strI
    rw [if_neg (by omega), Int.natAbs_natCast]
    exact e
theorem strI_inj {i j : Int} (h : strI i = strI j) : i = j := by
  unfold strI at h
  have hd : ∀ n : Nat, ∀ l, numL n ≠ 45 :: l := fun n l e => by
    have := numL_digits n 45 (by rw [e]; exact List.mem_cons_self)
    omega
  by_cases h1 : i < 0
  · rw [if_pos h1] at h
    by_cases h2 : j < 0
    · rw [if_pos h2] at h
      have := numL_inj (List.cons.inj h).2
      omega
    · rw [if_neg h2] at h
      exact absurd h.symm (hd _ _)
  · rw [if_neg h1] at h
    by_cases h2 : j < 0
    · rw [if_pos h2] at h
      exact absurd h (hd _ _)
    · rw [if_neg h2] at h
      have := numL_inj h
      omega
theorem strI_free {i : Int} {s : Nat} (h : s < 45 ∨ 57 < s ∨ s = 46 ∨ s = 47) : s ∉ strI i := by
  unfold strI
  have h2 : s ∉ numL i.natAbs := numL_free (by omega)
  split
  · intro q
    rcases List.mem_cons.mp q with e | q
    · omega
    · exact h2 q
  · exact h2
/-- what is written is a number -/
theorem isNat_numL (n : Nat) : isNat (numL n) = true := by
  refine isNat_iff.mpr ⟨numL_ne n, numL_digits n, ?_⟩
  by_cases h0 : n = 0
  · subst h0
    exact .inr (by rw [numL_lt (by omega)])
  · left
    have : ∀ m : Nat, m ≠ 0 → (numL m).headD 0 ≠ 48 := by
      intro m
      induction m using Nat.strongRecOn with
      | ind m ih =>
        intro hm
        by_cases hl : m < 10
        · rw [numL_lt hl]
          show 48 + m ≠ 48
          omega
        · rw [numL_step (by omega)]
          have q := ih (m / 10) (by omega) (by omega)
          have hne := numL_ne (m / 10)
          cases hx : numL (m / 10) with
          | nil => exact absurd hx hne
          | cons a r =>
            rw [hx] at q
            exact q
    exact this n h0
theorem isInt_strI (i : Int) : isInt (strI i) = true := by
  unfold strI
  split
  · rename_i h
    show (decide (numL i.natAbs ≠ [48]) && isNat (numL i.natAbs)) = true
    rw [isNat_numL, Bool.and_true, decide_eq_true_eq]
    intro e
    have : numL 0 = [48] := by rw [numL_lt (by omega)]
    rw [← this] at e
    have := numL_inj e
    omega
  · rw [isInt_pos fun r hr => by
      have := numL_digits i.natAbs 45 (by rw [hr]; exact List.mem_cons_self)
      omega]
    exact isNat_numL _
theorem valI_strI (i : Int) : valI (strI i) = i := (strI_inj (isInt_eq (isInt_strI i))).symm
/-- int(text) -/
theorem int_read {z : Str} (h : isInt (tl z) = true) (hz : z.length ≤ 640) {s : Store} : biV .int [.str z] s = .ok (.int (valI (tl z))) s := by
  have e : PySem.intText? z = some (valI (tl z)) := by
    rcases neg_or (tl z) with ⟨r, hr⟩ | hne
    · rw [hr, isInt_neg, Bool.and_eq_true, decide_eq_true_eq] at h
      have hr' : z.cps.toList = 45 :: r := hr
      rw [intText_neg hr' (isNat_digits h.2) (isNat_ne h.2) (by omega), hr, valI_neg]
    · rw [isInt_pos hne] at h
      rw [intText_digits (isNat_digits h) (isNat_ne h) (by omega), valI_pos hne]
  simp only [biV, e, optR]
  rw [if_pos hz]
end Ip
end PtIpNum
section PtLk42A
set_option Elab.async false
set_option linter.all false
set_option maxRecDepth 100000
set_option maxHeartbeats 4000000
/-! the text of the law in the core language -/
namespace Lw
open PySem Ip
/-! def parts_of -/
def b0 : CSs := .cons (.ife (.cmp .eq (.ix (.slot 0) (.k (.int 0))) (.k (.str "apply"))) (.cons (.ret (.ix (.slot 0) (.k (.int 2)))) (.nil)) (.nil)) (.cons (.ife (.cmp .eq (.ix (.slot 0) (.k (.int 0))) (.k (.str "pick"))) (.cons (.ret (.tup (.cons (.ix (.slot 0) (.k (.int 5))) (.nil)))) (.nil)) (.nil)) (.cons (.ife (.cmp .eq (.ix (.slot 0) (.k (.int 0))) (.k (.str "guard"))) (.cons (.ret (.tup (.cons (.ix (.slot 0) (.k (.int 2))) (.cons (.ix (.slot 0) (.k (.int 3))) (.nil))))) (.nil)) (.nil)) (.cons (.ret (.tup (.nil))) (.nil))))
/-! def body_of -/
def b1 : CSs := .cons (.ife (.cmp .eq (.ix (.slot 0) (.k (.int 0))) (.k (.str "loop"))) (.cons (.ret (.ix (.slot 0) (.k (.int 5)))) (.nil)) (.nil)) (.cons (.ife (.cmp .eq (.ix (.slot 0) (.k (.int 0))) (.k (.str "when"))) (.cons (.ret (.ix (.slot 0) (.k (.int 2)))) (.nil)) (.nil)) (.cons (.ret (.tup (.nil))) (.nil)))
/-! def note_expr -/
def b2l0 : CSs := .cons (.drop (.call 2 (.cons (.slot 2) (.cons (.slot 1) (.nil))))) (.nil)
def b2 : CSs := .cons (.ife (.cmp .«in» (.ix (.slot 0) (.k (.int 0))) (.tup (.cons (.k (.str "load")) (.cons (.k (.str "pick")) (.nil))))) (.cons (.asg (.sub (.slot 1) (.ix (.slot 0) (.k (.int 1)))) (.k (.bl true))) (.nil)) (.nil)) (.cons (.for_ (.name 2) (.seq (.call 0 (.cons (.slot 0) (.nil)))) b2l0) (.nil))
/-! def note_statement -/
def b3l0 : CSs := .cons (.drop (.call 3 (.cons (.slot 2) (.cons (.slot 1) (.nil))))) (.nil)
def b3 : CSs := .cons (.ife (.cmp .eq (.ix (.slot 0) (.k (.int 0))) (.k (.str "put"))) (.cons (.asg (.sub (.slot 1) (.ix (.slot 0) (.k (.int 1)))) (.k (.bl true))) (.cons (.drop (.call 2 (.cons (.ix (.slot 0) (.k (.int 3))) (.cons (.slot 1) (.nil))))) (.nil))) (.nil)) (.cons (.ife (.cmp .eq (.ix (.slot 0) (.k (.int 0))) (.k (.str "copy"))) (.cons (.asg (.sub (.slot 1) (.ix (.slot 0) (.k (.int 1)))) (.k (.bl true))) (.cons (.asg (.sub (.slot 1) (.ix (.slot 0) (.k (.int 3)))) (.k (.bl true))) (.nil))) (.nil)) (.cons (.for_ (.name 2) (.seq (.call 1 (.cons (.slot 0) (.nil)))) b3l0) (.nil)))
/-! def lives -/
def b4l0 : CSs := .cons (.asg (.sub (.slot 5) (.slot 10)) (.bi .len (.cons (.slot 3) (.nil)))) (.nil)
def b4l1 : CSs := .cons (.drop (.setd (.slot 4) (.slot 9) (.slot 6))) (.cons (.asg (.sub (.slot 5) (.slot 9)) (.slot 6)) (.nil))
def b4l2 : CSs := .cons (.asg (.name 8) (.dnew)) (.cons (.drop (.call 3 (.cons (.slot 7) (.cons (.slot 8) (.nil))))) (.cons (.forD (.name 9) 8 b4l1) (.nil)))
def b4 : CSs := .cons (.asg (.tup (.cons (.name 2) (.cons (.name 3) (.nil)))) (.slot 0)) (.cons (.asg (.name 4) (.dnew)) (.cons (.asg (.name 5) (.dnew)) (.cons (.for_ (.tup (.cons (.name 6) (.cons (.name 7) (.nil)))) (.enum (.slot 3)) b4l2) (.cons (.for_ (.name 10) (.seq (.slot 1)) b4l0) (.cons (.asg (.name 11) (.lc (.tup (.cons (.name 9) (.cons (.tup (.cons (.name 12) (.cons (.name 13) (.nil)))) (.nil)))) (.enum (.slot 2)) (.cons (.cmp .eq (.slot 12) (.k (.str "main"))) .nil) (.slot 9) [9, 12, 13])) (.cons (.ret (.bi .tuple (.cons (.lc (.name 9) (.seq (.slot 11)) (.nil) (.tup (.cons (.get2 (.slot 4) (.slot 9) (.k (.int 0))) (.cons (.get2 (.slot 5) (.slot 9) (.k (.int 0))) (.nil)))) [9]) (.nil)))) (.nil)))))))
/-! def meet -/
def b5 : CSs := .cons (.ret (.and (.cmp .le (.ix (.slot 0) (.k (.int 0))) (.ix (.slot 1) (.k (.int 1)))) (.cmp .le (.ix (.slot 1) (.k (.int 0))) (.ix (.slot 0) (.k (.int 1)))))) (.nil)
/-! def _law_begin -/
def b6l0 : CSs := .cons (.asg (.name 1) (.bin .mod (.bin .add (.bin .add (.bin .mul (.slot 1) (.k (.int 69621))) (.bin .mod (.bi .int (.cons (.slot 2) (.nil))) (.k (.int 2147483629)))) (.k (.int 7))) (.k (.int 2147483647)))) (.nil)
def b6 : CSs := .cons (.asg (.name 1) (.k (.int 1))) (.cons (.for_ (.name 2) (.seq (.slot 0)) b6l0) (.cons (.ret (.lst (.cons (.bi .list (.cons (.slot 0) (.nil))) (.cons (.k (.int 0)) (.cons (.k (.int 0)) (.cons (.slot 1) (.nil))))))) (.nil)))
/-! def _law_take -/
def b7 : CSs := .cons (.ife (.and (.cmp .eq (.ix (.slot 0) (.k (.int 2))) (.k (.int 0))) (.cmp .lt (.ix (.slot 0) (.k (.int 1))) (.bi .len (.cons (.ix (.slot 0) (.k (.int 0))) (.nil))))) (.cons (.asg (.sub (.slot 0) (.k (.int 2))) (.bi .abs (.cons (.bi .int (.cons (.ix (.ix (.slot 0) (.k (.int 0))) (.ix (.slot 0) (.k (.int 1)))) (.nil))) (.nil)))) (.cons (.asg (.sub (.slot 0) (.k (.int 1))) (.bin .add (.ix (.slot 0) (.k (.int 1))) (.k (.int 1)))) (.cons (.ife (.cmp .lt (.ix (.slot 0) (.k (.int 2))) (.bin .pow (.k (.int 10)) (.k (.int 18)))) (.cons (.asg (.name 2) (.bi .int (.cons (.ix (.slot 0) (.k (.int 2))) (.nil)))) (.cons (.asg (.sub (.slot 0) (.k (.int 2))) (.k (.int 0))) (.cons (.ret (.bin .mod (.slot 2) (.slot 1))) (.nil)))) (.nil)) (.nil)))) (.nil)) (.cons (.ife (.cmp .gt (.ix (.slot 0) (.k (.int 2))) (.k (.int 0))) (.cons (.asg (.name 3) (.bin .mod (.bi .int (.cons (.ix (.slot 0) (.k (.int 2))) (.nil))) (.slot 1))) (.cons (.asg (.sub (.slot 0) (.k (.int 2))) (.bin .fdiv (.bi .int (.cons (.ix (.slot 0) (.k (.int 2))) (.nil))) (.slot 1))) (.cons (.ret (.slot 3)) (.nil)))) (.nil)) (.cons (.asg (.sub (.slot 0) (.k (.int 3))) (.bin .mod (.bi .int (.cons (.bin .add (.bin .mul (.ix (.slot 0) (.k (.int 3))) (.k (.int 48271))) (.k (.int 11))) (.nil))) (.k (.int 2147483647)))) (.cons (.ret (.bin .mod (.bi .int (.cons (.bin .fdiv (.ix (.slot 0) (.k (.int 3))) (.k (.int 3))) (.nil))) (.slot 1))) (.nil))))
/-! def _law_signed -/
def b8 : CSs := .cons (.ret (.bin .sub (.call 7 (.cons (.slot 0) (.cons (.bin .add (.bin .mul (.k (.int 2)) (.slot 1)) (.k (.int 1))) (.nil)))) (.slot 1))) (.nil)
/-! def _law_form -/
def b9l0 : CSs := .cons (.ife (.cmp .gt (.call 7 (.cons (.slot 0) (.cons (.k (.int 3)) (.nil)))) (.k (.int 0))) (.cons (.asg (.name 8) (.ix (.tup (.cons (.k (.int 1)) (.cons (.k (.int 1)) (.cons (.k (.int 2)) (.cons (.bin .sub (.k (.int 0)) (.k (.int 1))) (.nil)))))) (.call 7 (.cons (.slot 0) (.cons (.k (.int 4)) (.nil)))))) (.cons (.asg (.name 9) (.lc (.name 10) (.seq (.slot 7)) (.nil) (.bin .mul (.slot 8) (.slot 10)) [10])) (.cons (.ife (.cmp .lt (.bin .sub (.bin .sub (.bin .add (.slot 5) (.bi .max1 (.cons (.slot 9) (.nil)))) (.slot 4)) (.bi .min1 (.cons (.slot 9) (.nil)))) (.slot 2)) (.cons (.drop (.meth .append (.slot 3) (.cons (.tup (.cons (.slot 6) (.cons (.slot 8) (.nil)))) .nil))) (.cons (.asg (.name 4) (.bin .add (.slot 4) (.bi .min1 (.cons (.slot 9) (.nil))))) (.cons (.asg (.name 5) (.bin .add (.slot 5) (.bi .max1 (.cons (.slot 9) (.nil))))) (.nil)))) (.nil)) (.nil)))) (.nil)) (.nil)
def b9 : CSs := .cons (.asg (.name 3) (.lst (.nil))) (.cons (.asg (.name 4) (.k (.int 0))) (.cons (.asg (.name 5) (.k (.int 0))) (.cons (.for_ (.tup (.cons (.name 6) (.cons (.name 7) (.nil)))) (.seq (.slot 1)) b9l0) (.cons (.ret (.tup (.cons (.bin .sub (.call 7 (.cons (.slot 0) (.cons (.bin .add (.bin .sub (.slot 2) (.slot 5)) (.slot 4)) (.nil)))) (.slot 4)) (.cons (.bi .tuple (.cons (.slot 3) (.nil))) (.nil))))) (.nil)))))
/-! def _law_test -/
def b10 : CSs := .cons (.asg (.name 2) (.bi .tuple (.cons (.lc (.tup (.cons (.name 3) (.cons (.name 4) (.nil)))) (.seq (.slc (.slot 1) .no (.some (.k (.int 2))))) (.nil) (.tup (.cons (.slot 3) (.cons (.ix (.tup (.cons (.k (.int 1)) (.cons (.bin .sub (.k (.int 0)) (.k (.int 1))) (.cons (.k (.int 2)) (.nil))))) (.call 7 (.cons (.slot 0) (.cons (.k (.int 3)) (.nil))))) (.nil)))) [3, 4]) (.nil)))) (.cons (.ret (.tup (.cons (.call 8 (.cons (.slot 0) (.cons (.k (.int 2)) (.nil)))) (.cons (.slot 2) (.nil))))) (.nil))
/-! def _law_point_info -/
def b11 : CSs := .cons (.ife (.cmp .eq (.slot 1) (.k (.str "clamp"))) (.cons (.asg (.name 2) (.call 8 (.cons (.slot 0) (.cons (.k (.int 9)) (.nil))))) (.cons (.ret (.tup (.cons (.slot 2) (.cons (.bin .add (.slot 2) (.call 7 (.cons (.slot 0) (.cons (.k (.int 12)) (.nil))))) (.nil))))) (.nil))) (.nil)) (.cons (.ret (.ife (.cmp .eq (.slot 1) (.k (.str "shift"))) (.tup (.cons (.bin .add (.k (.int 1)) (.call 7 (.cons (.slot 0) (.cons (.k (.int 3)) (.nil))))) (.nil))) (.tup (.nil)))) (.nil))
/-! def _law_expr -/
def b12 : CSs := .cons (.asg (.name 4) (.ife (.cmp .lt (.slot 3) (.k (.int 3))) (.call 7 (.cons (.slot 0) (.cons (.k (.int 9)) (.nil)))) (.call 7 (.cons (.slot 0) (.cons (.k (.int 4)) (.nil)))))) (.cons (.ife (.cmp .eq (.slot 4) (.k (.int 0))) (.cons (.ret (.tup (.cons (.k (.str "number")) (.cons (.call 8 (.cons (.slot 0) (.cons (.k (.int 9)) (.nil)))) (.nil))))) (.nil)) (.nil)) (.cons (.ife (.cmp .eq (.slot 4) (.k (.int 1))) (.cons (.ret (.tup (.cons (.k (.str "index")) (.cons (.call 10 (.cons (.slot 0) (.cons (.slot 2) (.nil)))) (.nil))))) (.nil)) (.nil)) (.cons (.asg (.name 5) (.call 7 (.cons (.slot 0) (.cons (.bi .len (.cons (.slot 1) (.nil))) (.nil))))) (.cons (.asg (.name 6) (.ix (.ix (.slot 1) (.slot 5)) (.k (.int 1)))) (.cons (.ife (.cmp .lt (.slot 4) (.k (.int 5))) (.cons (.ret (.tup (.cons (.k (.str "load")) (.cons (.slot 5) (.cons (.call 9 (.cons (.slot 0) (.cons (.slot 2) (.cons (.slot 6) (.nil))))) (.nil)))))) (.nil)) (.nil)) (.cons (.ife (.cmp .eq (.slot 4) (.k (.int 5))) (.cons (.ret (.tup (.cons (.k (.str "guard")) (.cons (.call 10 (.cons (.slot 0) (.cons (.slot 2) (.nil)))) (.cons (.call 12 (.cons (.slot 0) (.cons (.slot 1) (.cons (.slot 2) (.cons (.bin .add (.slot 3) (.k (.int 1))) (.nil)))))) (.cons (.call 12 (.cons (.slot 0) (.cons (.slot 1) (.cons (.slot 2) (.cons (.bin .add (.slot 3) (.k (.int 1))) (.nil)))))) (.nil))))))) (.nil)) (.nil)) (.cons (.ife (.cmp .eq (.slot 4) (.k (.int 6))) (.cons (.asg (.name 7) (.bin .add (.k (.int 1)) (.call 7 (.cons (.slot 0) (.cons (.bi .min2 (.cons (.k (.int 4)) (.cons (.slot 6) (.nil)))) (.nil)))))) (.cons (.asg (.name 8) (.ife (.cmp .lt (.bin .mul (.k (.int 2)) (.bin .sub (.slot 7) (.k (.int 1)))) (.slot 6)) (.ix (.tup (.cons (.k (.int 1)) (.cons (.k (.int 0)) (.cons (.k (.int 2)) (.nil))))) (.call 7 (.cons (.slot 0) (.cons (.k (.int 3)) (.nil))))) (.k (.int 1)))) (.cons (.asg (.name 9) (.call 9 (.cons (.slot 0) (.cons (.slot 2) (.cons (.bin .sub (.slot 6) (.bin .mul (.slot 8) (.bin .sub (.slot 7) (.k (.int 1))))) (.nil)))))) (.cons (.ret (.tup (.cons (.k (.str "pick")) (.cons (.slot 5) (.cons (.slot 9) (.cons (.slot 8) (.cons (.slot 7) (.cons (.call 12 (.cons (.slot 0) (.cons (.slot 1) (.cons (.slot 2) (.cons (.bin .add (.slot 3) (.k (.int 1))) (.nil)))))) (.nil))))))))) (.nil))))) (.nil)) (.cons (.asg (.name 10) (.tup (.cons (.k (.str "add")) (.cons (.k (.str "sub")) (.cons (.k (.str "mul")) (.cons (.k (.str "max")) (.cons (.k (.str "min")) (.cons (.k (.str "less")) (.cons (.k (.str "equal")) (.cons (.k (.str "neg")) (.cons (.k (.str "clamp")) (.cons (.k (.str "shift")) (.cons (.k (.str "where")) (.cons (.k (.str "add")) (.nil))))))))))))))) (.cons (.asg (.name 11) (.ix (.slot 10) (.call 7 (.cons (.slot 0) (.cons (.k (.int 12)) (.nil)))))) (.cons (.asg (.name 12) (.ife (.cmp .«in» (.slot 11) (.tup (.cons (.k (.str "neg")) (.cons (.k (.str "clamp")) (.cons (.k (.str "shift")) (.nil)))))) (.k (.int 1)) (.ife (.cmp .eq (.slot 11) (.k (.str "where"))) (.k (.int 3)) (.k (.int 2))))) (.cons (.asg (.name 13) (.bi .tuple (.cons (.lc (.name 14) (.range1 (.slot 12)) (.nil) (.call 12 (.cons (.slot 0) (.cons (.slot 1) (.cons (.slot 2) (.cons (.bin .add (.slot 3) (.k (.int 1))) (.nil)))))) [14]) (.nil)))) (.cons (.ret (.tup (.cons (.k (.str "apply")) (.cons (.slot 11) (.cons (.slot 13) (.cons (.call 11 (.cons (.slot 0) (.cons (.slot 11) (.nil)))) (.nil))))))) (.nil)))))))))))))
/-! def _law_copy -/
def b13 : CSs := .cons (.asg (.name 3) (.lc (.name 10) (.range1 (.bi .len (.cons (.slot 1) (.nil)))) (.cons (.cmp .eq (.ix (.ix (.slot 1) (.slot 10)) (.k (.int 0))) (.k (.str "near"))) .nil) (.slot 10) [10])) (.cons (.asg (.name 4) (.lc (.name 10) (.range1 (.bi .len (.cons (.slot 1) (.nil)))) (.cons (.cmp .ne (.ix (.ix (.slot 1) (.slot 10)) (.k (.int 0))) (.k (.str "near"))) .nil) (.slot 10) [10])) (.cons (.ife (.cmp .eq (.bi .len (.cons (.slot 3) (.nil))) (.k (.int 0))) (.cons (.ret (.k .non)) (.nil)) (.nil)) (.cons (.asg (.name 5) (.ix (.slot 3) (.call 7 (.cons (.slot 0) (.cons (.bi .len (.cons (.slot 3) (.nil))) (.nil)))))) (.cons (.asg (.name 6) (.ix (.slot 4) (.call 7 (.cons (.slot 0) (.cons (.bi .len (.cons (.slot 4) (.nil))) (.nil)))))) (.cons (.asg (.name 7) (.bin .add (.k (.int 1)) (.call 7 (.cons (.slot 0) (.cons (.bi .min2 (.cons (.ix (.ix (.slot 1) (.slot 5)) (.k (.int 1))) (.cons (.ix (.ix (.slot 1) (.slot 6)) (.k (.int 1))) (.nil)))) (.nil)))))) (.cons (.asg (.name 8) (.call 9 (.cons (.slot 0) (.cons (.slot 2) (.cons (.bin .add (.bin .sub (.ix (.ix (.slot 1) (.slot 5)) (.k (.int 1))) (.slot 7)) (.k (.int 1))) (.nil)))))) (.cons (.asg (.name 9) (.call 9 (.cons (.slot 0) (.cons (.slot 2) (.cons (.bin .add (.bin .sub (.ix (.ix (.slot 1) (.slot 6)) (.k (.int 1))) (.slot 7)) (.k (.int 1))) (.nil)))))) (.cons (.ife (.and (.cmp .eq (.ix (.ix (.slot 1) (.slot 6)) (.k (.int 0))) (.k (.str "main"))) (.cmp .eq (.call 7 (.cons (.slot 0) (.cons (.k (.int 2)) (.nil)))) (.k (.int 1)))) (.cons (.ret (.tup (.cons (.k (.str "copy")) (.cons (.slot 6) (.cons (.slot 9) (.cons (.slot 5) (.cons (.slot 8) (.cons (.slot 7) (.nil))))))))) (.nil)) (.nil)) (.cons (.ret (.tup (.cons (.k (.str "copy")) (.cons (.slot 5) (.cons (.slot 8) (.cons (.slot 6) (.cons (.slot 9) (.cons (.slot 7) (.nil))))))))) (.nil))))))))))
/-! def _law_statement -/
def b14 : CSs := .cons (.asg (.name 4) (.call 7 (.cons (.slot 0) (.cons (.k (.int 6)) (.nil))))) (.cons (.ife (.and (.cmp .lt (.slot 4) (.k (.int 3))) (.cmp .lt (.slot 3) (.k (.int 3)))) (.cons (.asg (.name 5) (.bin .add (.bin .mul (.k (.int 3)) (.slot 3)) (.call 7 (.cons (.slot 0) (.cons (.k (.int 3)) (.nil)))))) (.cons (.asg (.name 6) (.bin .add (.k (.int 1)) (.call 7 (.cons (.slot 0) (.cons (.k (.int 3)) (.nil)))))) (.cons (.asg (.name 7) (.call 8 (.cons (.slot 0) (.cons (.k (.int 2)) (.nil))))) (.cons (.asg (.name 8) (.ix (.tup (.cons (.k (.int 1)) (.cons (.k (.int 1)) (.cons (.k (.int 2)) (.cons (.bin .sub (.k (.int 0)) (.k (.int 1))) (.nil)))))) (.call 7 (.cons (.slot 0) (.cons (.k (.int 4)) (.nil)))))) (.cons (.asg (.name 10) (.bin .add (.slot 2) (.lst (.cons (.tup (.cons (.slot 5) (.cons (.lc (.name 9) (.range1 (.slot 6)) (.nil) (.bin .add (.slot 7) (.bin .mul (.slot 8) (.slot 9))) [9]) (.nil)))) (.nil))))) (.cons (.ret (.tup (.cons (.k (.str "loop")) (.cons (.slot 5) (.cons (.slot 7) (.cons (.slot 8) (.cons (.slot 6) (.cons (.call 15 (.cons (.slot 0) (.cons (.slot 1) (.cons (.slot 10) (.cons (.bin .add (.slot 3) (.k (.int 1))) (.cons (.bin .add (.k (.int 1)) (.call 7 (.cons (.slot 0) (.cons (.k (.int 2)) (.nil))))) (.nil))))))) (.nil))))))))) (.nil))))))) (.nil)) (.cons (.ife (.and (.cmp .eq (.slot 4) (.k (.int 3))) (.cmp .lt (.slot 3) (.k (.int 3)))) (.cons (.ret (.tup (.cons (.k (.str "when")) (.cons (.call 10 (.cons (.slot 0) (.cons (.slot 2) (.nil)))) (.cons (.call 15 (.cons (.slot 0) (.cons (.slot 1) (.cons (.slot 2) (.cons (.bin .add (.slot 3) (.k (.int 1))) (.cons (.bin .add (.k (.int 1)) (.call 7 (.cons (.slot 0) (.cons (.k (.int 2)) (.nil))))) (.nil))))))) (.nil)))))) (.nil)) (.nil)) (.cons (.ife (.cmp .eq (.slot 4) (.k (.int 4))) (.cons (.asg (.name 11) (.call 13 (.cons (.slot 0) (.cons (.slot 1) (.cons (.slot 2) (.nil)))))) (.cons (.ife (.cmp .isNot (.slot 11) (.k .non)) (.cons (.ret (.slot 11)) (.nil)) (.nil)) (.nil))) (.nil)) (.cons (.asg (.name 12) (.lc (.name 9) (.range1 (.bi .len (.cons (.slot 1) (.nil)))) (.cons (.cmp .ne (.ix (.ix (.slot 1) (.slot 9)) (.k (.int 0))) (.k (.str "in"))) .nil) (.slot 9) [9])) (.cons (.asg (.name 9) (.ix (.slot 12) (.call 7 (.cons (.slot 0) (.cons (.bi .len (.cons (.slot 12) (.nil))) (.nil)))))) (.cons (.ret (.tup (.cons (.k (.str "put")) (.cons (.slot 9) (.cons (.call 9 (.cons (.slot 0) (.cons (.slot 2) (.cons (.ix (.ix (.slot 1) (.slot 9)) (.k (.int 1))) (.nil))))) (.cons (.call 12 (.cons (.slot 0) (.cons (.slot 1) (.cons (.slot 2) (.cons (.k (.int 1)) (.nil)))))) (.nil))))))) (.nil)))))))
/-! def _law_body -/
def b15 : CSs := .cons (.ret (.bi .tuple (.cons (.lc (.name 5) (.range1 (.slot 4)) (.nil) (.call 14 (.cons (.slot 0) (.cons (.slot 1) (.cons (.slot 2) (.cons (.slot 3) (.nil)))))) [5]) (.nil)))) (.nil)
/-! def _law_program -/
def b16l0 : CSs := .cons (.ife (.and (.cmp .ne (.ix (.ix (.slot 2) (.slot 3)) (.k (.int 0))) (.k (.str "in"))) (.slot 1)) (.cons (.asg (.name 5) (.tup (.cons (.k (.str "put")) (.cons (.slot 3) (.cons (.tup (.cons (.k (.int 0)) (.cons (.tup (.cons (.tup (.cons (.k (.int 0)) (.cons (.k (.int 1)) (.nil)))) (.nil))) (.nil)))) (.cons (.tup (.cons (.k (.str "index")) (.cons (.tup (.cons (.call 8 (.cons (.slot 0) (.cons (.k (.int 9)) (.nil)))) (.cons (.tup (.cons (.tup (.cons (.k (.int 0)) (.cons (.k (.int 2)) (.nil)))) (.nil))) (.nil)))) (.nil)))) (.nil))))))) (.cons (.drop (.meth .append (.slot 4) (.cons (.tup (.cons (.k (.str "loop")) (.cons (.k (.int 0)) (.cons (.k (.int 0)) (.cons (.k (.int 1)) (.cons (.ix (.ix (.slot 2) (.slot 3)) (.k (.int 1))) (.cons (.tup (.cons (.slot 5) (.nil))) (.nil)))))))) .nil))) (.nil))) (.nil)) (.nil)
def b16l1 : CSs := .cons (.drop (.meth .append (.slot 2) (.cons (.tup (.cons (.ix (.tup (.cons (.k (.str "near")) (.cons (.k (.str "main")) (.cons (.k (.str "in")) (.cons (.k (.str "near")) (.nil)))))) (.call 7 (.cons (.slot 0) (.cons (.k (.int 4)) (.nil))))) (.cons (.bin .add (.k (.int 1)) (.call 7 (.cons (.slot 0) (.cons (.k (.int 5)) (.nil))))) (.nil)))) .nil))) (.nil)
def b16 : CSs := .cons (.asg (.name 2) (.lst (.cons (.tup (.cons (.k (.str "in")) (.cons (.bin .add (.k (.int 1)) (.call 7 (.cons (.slot 0) (.cons (.k (.int 5)) (.nil))))) (.nil)))) (.cons (.tup (.cons (.k (.str "main")) (.cons (.bin .add (.k (.int 1)) (.call 7 (.cons (.slot 0) (.cons (.k (.int 5)) (.nil))))) (.nil)))) (.nil))))) (.cons (.for_ (.name 3) (.range1 (.call 7 (.cons (.slot 0) (.cons (.k (.int 3)) (.nil))))) b16l1) (.cons (.asg (.name 4) (.lst (.nil))) (.cons (.for_ (.name 3) (.range1 (.bi .len (.cons (.slot 2) (.nil)))) b16l0) (.cons (.asg (.name 4) (.bin .add (.slot 4) (.bi .list (.cons (.call 15 (.cons (.slot 0) (.cons (.slot 2) (.cons (.lst (.nil)) (.cons (.k (.int 0)) (.cons (.bin .add (.k (.int 1)) (.call 7 (.cons (.slot 0) (.cons (.k (.int 3)) (.nil))))) (.nil))))))) (.nil))))) (.cons (.ret (.tup (.cons (.bi .tuple (.cons (.slot 2) (.nil))) (.cons (.bi .tuple (.cons (.slot 4) (.nil))) (.nil))))) (.nil))))))
/-! def _law_in_expr -/
def b17 : CSs := .cons (.ife (.cmp .eq (.ix (.slot 0) (.k (.int 0))) (.k (.str "load"))) (.cons (.ret (.cmp .eq (.ix (.slot 0) (.k (.int 1))) (.slot 1))) (.nil)) (.nil)) (.cons (.ife (.cmp .eq (.ix (.slot 0) (.k (.int 0))) (.k (.str "pick"))) (.cons (.ret (.or (.cmp .eq (.ix (.slot 0) (.k (.int 1))) (.slot 1)) (.call 17 (.cons (.ix (.slot 0) (.k (.int 5))) (.cons (.slot 1) (.nil)))))) (.nil)) (.nil)) (.cons (.ife (.cmp .eq (.ix (.slot 0) (.k (.int 0))) (.k (.str "guard"))) (.cons (.ret (.or (.call 17 (.cons (.ix (.slot 0) (.k (.int 2))) (.cons (.slot 1) (.nil)))) (.call 17 (.cons (.ix (.slot 0) (.k (.int 3))) (.cons (.slot 1) (.nil)))))) (.nil)) (.nil)) (.cons (.ret (.ife (.cmp .eq (.ix (.slot 0) (.k (.int 0))) (.k (.str "apply"))) (.bi .any (.cons (.lc (.name 2) (.seq (.ix (.slot 0) (.k (.int 2)))) (.nil) (.call 17 (.cons (.slot 2) (.cons (.slot 1) (.nil)))) [2]) (.nil))) (.k (.bl false)))) (.nil))))
/-! def _law_in -/
def b18 : CSs := .cons (.ife (.cmp .«in» (.ix (.slot 0) (.k (.int 0))) (.tup (.cons (.k (.str "loop")) (.cons (.k (.str "when")) (.nil))))) (.cons (.ret (.bi .any (.cons (.lc (.name 2) (.seq (.ix (.slot 0) (.neg (.k (.int 1))))) (.nil) (.call 18 (.cons (.slot 2) (.cons (.slot 1) (.nil)))) [2]) (.nil)))) (.nil)) (.nil)) (.cons (.ife (.cmp .eq (.ix (.slot 0) (.k (.int 0))) (.k (.str "copy"))) (.cons (.ret (.or (.cmp .eq (.ix (.slot 0) (.k (.int 1))) (.slot 1)) (.cmp .eq (.ix (.slot 0) (.k (.int 3))) (.slot 1)))) (.nil)) (.nil)) (.cons (.ret (.or (.cmp .eq (.ix (.slot 0) (.k (.int 1))) (.slot 1)) (.call 17 (.cons (.ix (.slot 0) (.k (.int 3))) (.cons (.slot 1) (.nil)))))) (.nil)))
/-! def law -/
def b19l0 : CSs := .cons (.asg (.name 12) (.tup (.cons (.call 7 (.cons (.slot 1) (.cons (.k (.int 5)) (.nil)))) (.cons (.bin .add (.k (.int 4)) (.call 7 (.cons (.slot 1) (.cons (.k (.int 5)) (.nil))))) (.nil))))) (.cons (.asg (.name 13) (.tup (.cons (.call 7 (.cons (.slot 1) (.cons (.k (.int 9)) (.nil)))) (.cons (.bin .add (.k (.int 8)) (.call 7 (.cons (.slot 1) (.cons (.k (.int 5)) (.nil))))) (.nil))))) (.cons (.asg (.name 14) (.call 5 (.cons (.slot 12) (.cons (.slot 13) (.nil))))) (.cons (.ife (.or (.not (.isi (.slot 14) [.ty "bool"])) (.cmp .ne (.slot 14) (.cmp .gt (.bi .len (.cons (.lc (.name 15) (.range2 (.ix (.slot 12) (.k (.int 0))) (.bin .add (.ix (.slot 12) (.k (.int 1))) (.k (.int 1)))) (.cons (.chain .le .le (.ix (.slot 13) (.k (.int 0))) (.slot 15) (.ix (.slot 13) (.k (.int 1)))) .nil) (.slot 15) [15]) (.nil))) (.k (.int 0))))) (.cons (.ret (.k (.bl false))) (.nil)) (.nil)) (.cons (.ife (.or (.cmp .ne (.call 5 (.cons (.slot 13) (.cons (.slot 12) (.nil)))) (.slot 14)) (.not (.call 5 (.cons (.slot 12) (.cons (.slot 12) (.nil)))))) (.cons (.ret (.k (.bl false))) (.nil)) (.nil)) (.nil)))))
def b19l1 : CSs := .cons (.ife (.cmp .eq (.ix (.ix (.slot 2) (.slot 4)) (.k (.int 0))) (.k (.str "main"))) (.cons (.asg (.name 7) (.lc (.name 15) (.range1 (.bi .len (.cons (.slot 3) (.nil)))) (.cons (.call 18 (.cons (.ix (.slot 3) (.slot 15)) (.cons (.slot 4) (.nil)))) .nil) (.slot 15) [15])) (.cons (.asg (.name 8) (.ife (.cmp .gt (.bi .len (.cons (.slot 7) (.nil))) (.k (.int 0))) (.ix (.slot 7) (.k (.int 0))) (.k (.int 0)))) (.cons (.asg (.name 9) (.ife (.cmp .«in» (.slot 4) (.slot 5)) (.bi .len (.cons (.slot 3) (.nil))) (.ife (.cmp .gt (.bi .len (.cons (.slot 7) (.nil))) (.k (.int 0))) (.ix (.slot 7) (.neg (.k (.int 1)))) (.k (.int 0))))) (.cons (.drop (.meth .append (.slot 6) (.cons (.tup (.cons (.slot 8) (.cons (.slot 9) (.nil)))) .nil))) (.nil))))) (.nil)) (.nil)
def b19 : CSs := .cons (.asg (.name 1) (.call 6 (.cons (.slot 0) (.nil)))) (.cons (.asg (.tup (.cons (.name 2) (.cons (.name 3) (.nil)))) (.call 16 (.cons (.slot 1) (.cons (.cmp .eq (.call 7 (.cons (.slot 1) (.cons (.k (.int 2)) (.nil)))) (.k (.int 1))) (.nil))))) (.cons (.asg (.name 3) (.bin .add (.slot 3) (.call 15 (.cons (.slot 1) (.cons (.slot 2) (.cons (.lst (.nil)) (.cons (.k (.int 0)) (.cons (.bin .add (.k (.int 1)) (.call 7 (.cons (.slot 1) (.cons (.k (.int 2)) (.nil))))) (.nil))))))))) (.cons (.asg (.name 5) (.bi .tuple (.cons (.lc (.name 4) (.range1 (.call 7 (.cons (.slot 1) (.cons (.k (.int 3)) (.nil))))) (.nil) (.call 7 (.cons (.slot 1) (.cons (.bi .len (.cons (.slot 2) (.nil))) (.nil)))) [4]) (.nil)))) (.cons (.asg (.name 6) (.lst (.nil))) (.cons (.for_ (.name 4) (.range1 (.bi .len (.cons (.slot 2) (.nil)))) b19l1) (.cons (.asg (.name 10) (.call 4 (.cons (.tup (.cons (.slot 2) (.cons (.slot 3) (.nil)))) (.cons (.slot 5) (.nil))))) (.cons (.ife (.or (.not (.isi (.slot 10) [.ty "tuple"])) (.cmp .ne (.slot 10) (.bi .tuple (.cons (.slot 6) (.nil))))) (.cons (.ret (.k (.bl false))) (.nil)) (.nil)) (.cons (.for_ (.name 11) (.range1 (.k (.int 3))) b19l0) (.cons (.ret (.k (.bl true))) (.nil))))))))))
def Dt : Nat → Option Def
  | 0 => some ⟨1, 1, b0⟩
  | 1 => some ⟨1, 1, b1⟩
  | 2 => some ⟨3, 2, b2⟩
  | 3 => some ⟨3, 2, b3⟩
  | 4 => some ⟨14, 2, b4⟩
  | 5 => some ⟨2, 2, b5⟩
  | 6 => some ⟨3, 1, b6⟩
  | 7 => some ⟨4, 2, b7⟩
  | 8 => some ⟨2, 2, b8⟩
  | 9 => some ⟨11, 3, b9⟩
  | 10 => some ⟨5, 2, b10⟩
  | 11 => some ⟨3, 2, b11⟩
  | 12 => some ⟨15, 4, b12⟩
  | 13 => some ⟨11, 3, b13⟩
  | 14 => some ⟨13, 4, b14⟩
  | 15 => some ⟨6, 5, b15⟩
  | 16 => some ⟨6, 2, b16⟩
  | 17 => some ⟨3, 2, b17⟩
  | 18 => some ⟨3, 2, b18⟩
  | 19 => some ⟨16, 1, b19⟩
  | _ => none
def Gt : Nat → Option DV := fun _ => none
def subt : Nat → Nat → Bool := fun _ _ => false
end Lw
end PtLk42A
section PtLk42D
set_option Elab.async false
set_option linter.all false
set_option maxRecDepth 100000
set_option maxHeartbeats 4000000
namespace Lw
open PySem PySem.Spec PyProof.Rows L2 Ip
def topS (i : Nat) : Stmt := PySem.Challenge.pw_tensorworks_k42_lives_of_buffers.main.body.getD i (.Pass ⟨0, 0, 0, 0⟩)
abbrev s0 : Stmt := topS 1
abbrev N0 : List Str := ["expr"]
theorem sc0 : FnScope N0 ["expr"] (defScope s0) := ⟨rfl, rfl, rfl, by decide +kernel, rfl, by decide +kernel, by decide +kernel⟩
abbrev s1 : Stmt := topS 2
abbrev N1 : List Str := ["statement"]
theorem sc1 : FnScope N1 ["statement"] (defScope s1) := ⟨rfl, rfl, rfl, by decide +kernel, rfl, by decide +kernel, by decide +kernel⟩
abbrev s2 : Stmt := topS 4
abbrev N2 : List Str := ["expr", "used", "part"]
theorem sc2 : FnScope N2 ["expr", "used"] (defScope s2) := ⟨rfl, rfl, rfl, by decide +kernel, rfl, by decide +kernel, by decide +kernel⟩
abbrev s3 : Stmt := topS 5
abbrev N3 : List Str := ["statement", "used", "part"]
theorem sc3 : FnScope N3 ["statement", "used"] (defScope s3) := ⟨rfl, rfl, rfl, by decide +kernel, rfl, by decide +kernel, by decide +kernel⟩
abbrev s4 : Stmt := topS 6
abbrev N4 : List Str := ["program", "outs", "buffers", "body", "first", "last", "at", "statement", "used", "buffer", "out", "mains", "role", "_"]
theorem sc4 : FnScope N4 ["program", "outs"] (defScope s4) := ⟨rfl, rfl, rfl, by decide +kernel, rfl, by decide +kernel, by decide +kernel⟩
abbrev s5 : Stmt := topS 7
abbrev N5 : List Str := ["one", "other"]
theorem sc5 : FnScope N5 ["one", "other"] (defScope s5) := ⟨rfl, rfl, rfl, by decide +kernel, rfl, by decide +kernel, by decide +kernel⟩
abbrev s6 : Stmt := topS 9
abbrev N6 : List Str := ["script", "seed", "cell"]
theorem sc6 : FnScope N6 ["script"] (defScope s6) := ⟨rfl, rfl, rfl, by decide +kernel, rfl, by decide +kernel, by decide +kernel⟩
abbrev s7 : Stmt := topS 10
abbrev N7 : List Str := ["d", "many", "small", "digit"]
theorem sc7 : FnScope N7 ["d", "many"] (defScope s7) := ⟨rfl, rfl, rfl, by decide +kernel, rfl, by decide +kernel, by decide +kernel⟩
abbrev s8 : Stmt := topS 11
abbrev N8 : List Str := ["d", "most"]
theorem sc8 : FnScope N8 ["d", "most"] (defScope s8) := ⟨rfl, rfl, rfl, by decide +kernel, rfl, by decide +kernel, by decide +kernel⟩
abbrev s9 : Stmt := topS 12
abbrev N9 : List Str := ["d", "env", "size", "terms", "low", "high", "var", "values", "factor", "ends", "v"]
theorem sc9 : FnScope N9 ["d", "env", "size"] (defScope s9) := ⟨rfl, rfl, rfl, by decide +kernel, rfl, by decide +kernel, by decide +kernel⟩
abbrev s10 : Stmt := topS 13
abbrev N10 : List Str := ["d", "env", "terms", "var", "values"]
theorem sc10 : FnScope N10 ["d", "env"] (defScope s10) := ⟨rfl, rfl, rfl, by decide +kernel, rfl, by decide +kernel, by decide +kernel⟩
abbrev s11 : Stmt := topS 14
abbrev N11 : List Str := ["d", "kind", "low"]
theorem sc11 : FnScope N11 ["d", "kind"] (defScope s11) := ⟨rfl, rfl, rfl, by decide +kernel, rfl, by decide +kernel, by decide +kernel⟩
abbrev s12 : Stmt := topS 15
abbrev N12 : List Str := ["d", "buffers", "env", "level", "menu", "k", "size", "count", "stride", "form", "kinds", "kind", "many", "kids", "j"]
theorem sc12 : FnScope N12 ["d", "buffers", "env", "level"] (defScope s12) := ⟨rfl, rfl, rfl, by decide +kernel, rfl, by decide +kernel, by decide +kernel⟩
abbrev s13 : Stmt := topS 16
abbrev N13 : List Str := ["d", "buffers", "env", "near", "other", "one", "two", "count", "first", "second", "k"]
theorem sc13 : FnScope N13 ["d", "buffers", "env"] (defScope s13) := ⟨rfl, rfl, rfl, by decide +kernel, rfl, by decide +kernel, by decide +kernel⟩
abbrev s14 : Stmt := topS 17
abbrev N14 : List Str := ["d", "buffers", "env", "depth", "menu", "var", "count", "start", "step", "k", "inner", "copy", "sets"]
theorem sc14 : FnScope N14 ["d", "buffers", "env", "depth"] (defScope s14) := ⟨rfl, rfl, rfl, by decide +kernel, rfl, by decide +kernel, by decide +kernel⟩
abbrev s15 : Stmt := topS 18
abbrev N15 : List Str := ["d", "buffers", "env", "depth", "many", "k"]
theorem sc15 : FnScope N15 ["d", "buffers", "env", "depth", "many"] (defScope s15) := ⟨rfl, rfl, rfl, by decide +kernel, rfl, by decide +kernel, by decide +kernel⟩
abbrev s16 : Stmt := topS 19
abbrev N16 : List Str := ["d", "set_first", "buffers", "k", "body", "put"]
theorem sc16 : FnScope N16 ["d", "set_first"] (defScope s16) := ⟨rfl, rfl, rfl, by decide +kernel, rfl, by decide +kernel, by decide +kernel⟩
abbrev s17 : Stmt := topS 20
abbrev N17 : List Str := ["expr", "k", "kid"]
theorem sc17 : FnScope N17 ["expr", "k"] (defScope s17) := ⟨rfl, rfl, rfl, by decide +kernel, rfl, by decide +kernel, by decide +kernel⟩
abbrev s18 : Stmt := topS 21
abbrev N18 : List Str := ["s", "k", "one"]
theorem sc18 : FnScope N18 ["s", "k"] (defScope s18) := ⟨rfl, rfl, rfl, by decide +kernel, rfl, by decide +kernel, by decide +kernel⟩
abbrev s19 : Stmt := topS 22
abbrev N19 : List Str := ["script", "d", "buffers", "body", "k", "outs", "due", "found", "first", "last", "actual", "turn", "one", "two", "told", "t"]
theorem sc19 : FnScope N19 ["script"] (defScope s19) := ⟨rfl, rfl, rfl, by decide +kernel, rfl, by decide +kernel, by decide +kernel⟩
noncomputable abbrev Tk (cls : Nat → Option Addr) (k : Nat) : Tb := ⟨callAt Dt Gt subt k, Gt, subt, cls⟩
structure FdB (P : Program) (w : World) (K : PySem.W.Frag) (mg : Str → Option Value) (base : Heap) (T : Tb) (k : Nat) (x : Str) (f np : Nat) (ps : List Str) (ad : Addr) (fd : FuncData) : Prop where
  fn : FnOk P w K mg base (L2.CX P w) k ad fd ps (spC T K f np)
  pl : ps.length = np
  at_ : mg x = some (.ref ad)
  kp : PySem.W.keepIn K (.ref ad) = true
  bd : Binds K fd ps []
structure Mn (mg : Str → Option Value) : Prop where
  m_abs : mg "abs" = none
  m_any : mg "any" = none
  m_bool : mg "bool" = none
  m_enumerate : mg "enumerate" = none
  m_int : mg "int" = none
  m_isinstance : mg "isinstance" = none
  m_len : mg "len" = none
  m_list : mg "list" = none
  m_max : mg "max" = none
  m_min : mg "min" = none
  m_range : mg "range" = none
  m_tuple : mg "tuple" = none
structure Fs (P : Program) (w : World) (K : PySem.W.Frag) (mg : Str → Option Value) (base : Heap) (T : Tb) (k : Nat) (a0 : Addr) (d0 : FuncData) (a1 : Addr) (d1 : FuncData) (a2 : Addr) (d2 : FuncData) (a3 : Addr) (d3 : FuncData) (a4 : Addr) (d4 : FuncData) (a5 : Addr) (d5 : FuncData) (a6 : Addr) (d6 : FuncData) (a7 : Addr) (d7 : FuncData) (a8 : Addr) (d8 : FuncData) (a9 : Addr) (d9 : FuncData) (a10 : Addr) (d10 : FuncData) (a11 : Addr) (d11 : FuncData) (a12 : Addr) (d12 : FuncData) (a13 : Addr) (d13 : FuncData) (a14 : Addr) (d14 : FuncData) (a15 : Addr) (d15 : FuncData) (a16 : Addr) (d16 : FuncData) (a17 : Addr) (d17 : FuncData) (a18 : Addr) (d18 : FuncData) (a19 : Addr) (d19 : FuncData) : Prop where
  f0 : FdB P w K mg base T k "parts_of" 0 1 ["expr"] a0 d0
  f1 : FdB P w K mg base T k "body_of" 1 1 ["statement"] a1 d1
  f2 : FdB P w K mg base T k "note_expr" 2 2 ["expr", "used"] a2 d2
  f3 : FdB P w K mg base T k "note_statement" 3 2 ["statement", "used"] a3 d3
  f4 : FdB P w K mg base T k "lives" 4 2 ["program", "outs"] a4 d4
  f5 : FdB P w K mg base T k "meet" 5 2 ["one", "other"] a5 d5
  f6 : FdB P w K mg base T k "_law_begin" 6 1 ["script"] a6 d6
  f7 : FdB P w K mg base T k "_law_take" 7 2 ["d", "many"] a7 d7
  f8 : FdB P w K mg base T k "_law_signed" 8 2 ["d", "most"] a8 d8
  f9 : FdB P w K mg base T k "_law_form" 9 3 ["d", "env", "size"] a9 d9
  f10 : FdB P w K mg base T k "_law_test" 10 2 ["d", "env"] a10 d10
  f11 : FdB P w K mg base T k "_law_point_info" 11 2 ["d", "kind"] a11 d11
  f12 : FdB P w K mg base T k "_law_expr" 12 4 ["d", "buffers", "env", "level"] a12 d12
  f13 : FdB P w K mg base T k "_law_copy" 13 3 ["d", "buffers", "env"] a13 d13
  f14 : FdB P w K mg base T k "_law_statement" 14 4 ["d", "buffers", "env", "depth"] a14 d14
  f15 : FdB P w K mg base T k "_law_body" 15 5 ["d", "buffers", "env", "depth", "many"] a15 d15
  f16 : FdB P w K mg base T k "_law_program" 16 2 ["d", "set_first"] a16 d16
  f17 : FdB P w K mg base T k "_law_in_expr" 17 2 ["expr", "k"] a17 d17
  f18 : FdB P w K mg base T k "_law_in" 18 2 ["s", "k"] a18 d18
  f19 : FdB P w K mg base T k "law" 19 1 ["script"] a19 d19
section
variable {P : Program} {w : World} {K : PySem.W.Frag} {mg : Str → Option Value} {base : Heap} {k : Nat} {a0 : Addr} {d0 : FuncData} {a1 : Addr} {d1 : FuncData} {a2 : Addr} {d2 : FuncData} {a3 : Addr} {d3 : FuncData} {a4 : Addr} {d4 : FuncData} {a5 : Addr} {d5 : FuncData} {a6 : Addr} {d6 : FuncData} {a7 : Addr} {d7 : FuncData} {a8 : Addr} {d8 : FuncData} {a9 : Addr} {d9 : FuncData} {a10 : Addr} {d10 : FuncData} {a11 : Addr} {d11 : FuncData} {a12 : Addr} {d12 : FuncData} {a13 : Addr} {d13 : FuncData} {a14 : Addr} {d14 : FuncData} {a15 : Addr} {d15 : FuncData} {a16 : Addr} {d16 : FuncData} {a17 : Addr} {d17 : FuncData} {a18 : Addr} {d18 : FuncData} {a19 : Addr} {d19 : FuncData}
theorem der0 {ad : Addr} {cdv : Value} {A : Around} {outer : List Env} {s : Shared} {H : Hp} {E : XK} (M : Mn mg) (F : Fs P w K mg base (Tk (clsOf []) k) k a0 d0 a1 d1 a2 d2 a3 d3 a4 d4 a5 d5 a6 d6 a7 d7 a8 d8 a9 d9 a10 d10 a11 d11 a12 d12 a13 d13 a14 d14 a15 d15 a16 d16 a17 d17 a18 d18 a19 d19) (hr : Room k (A.deeper (envOfC "parts_of" (defScope s0) s.heap.objs.size ad cdv))) :
    SSs (Tk (clsOf []) k) (cxOf (L2.CX P w) P w K mg base N0 "parts_of" (defScope s0) ad cdv A outer s H E) none (fun c d _ H => E c d H) (defBody s0) b0 :=
  sss_cons (ss_if (st_cmp hr.units .eq (se_ix (se_slot 0) (se_int)) (se_str)) (sss_cons (ss_ret (se_ix (se_slot 0) (se_int))) (
  sss_nil)) (sss_nil)) (
  sss_cons (ss_if (st_cmp hr.units .eq (se_ix (se_slot 0) (se_int)) (se_str)) (sss_cons (ss_ret (se_tup (ses_cons (se_ix (se_slot 0) (se_int)) (ses_nil)))) (
  sss_nil)) (sss_nil)) (
  sss_cons (ss_if (st_cmp hr.units .eq (se_ix (se_slot 0) (se_int)) (se_str)) (sss_cons (ss_ret (se_tup (ses_cons (se_ix (se_slot 0) (se_int)) (ses_cons (se_ix (se_slot 0) (se_int)) (ses_nil))))) (
  sss_nil)) (sss_nil)) (
  sss_cons (ss_ret (se_tup (ses_nil))) (
  sss_nil))))
theorem der1 {ad : Addr} {cdv : Value} {A : Around} {outer : List Env} {s : Shared} {H : Hp} {E : XK} (M : Mn mg) (F : Fs P w K mg base (Tk (clsOf []) k) k a0 d0 a1 d1 a2 d2 a3 d3 a4 d4 a5 d5 a6 d6 a7 d7 a8 d8 a9 d9 a10 d10 a11 d11 a12 d12 a13 d13 a14 d14 a15 d15 a16 d16 a17 d17 a18 d18 a19 d19) (hr : Room k (A.deeper (envOfC "body_of" (defScope s1) s.heap.objs.size ad cdv))) :
    SSs (Tk (clsOf []) k) (cxOf (L2.CX P w) P w K mg base N1 "body_of" (defScope s1) ad cdv A outer s H E) none (fun c d _ H => E c d H) (defBody s1) b1 :=
  sss_cons (ss_if (st_cmp hr.units .eq (se_ix (se_slot 0) (se_int)) (se_str)) (sss_cons (ss_ret (se_ix (se_slot 0) (se_int))) (
  sss_nil)) (sss_nil)) (
  sss_cons (ss_if (st_cmp hr.units .eq (se_ix (se_slot 0) (se_int)) (se_str)) (sss_cons (ss_ret (se_ix (se_slot 0) (se_int))) (
  sss_nil)) (sss_nil)) (
  sss_cons (ss_ret (se_tup (ses_nil))) (
  sss_nil)))
theorem der2 {ad : Addr} {cdv : Value} {A : Around} {outer : List Env} {s : Shared} {H : Hp} {E : XK} (M : Mn mg) (F : Fs P w K mg base (Tk (clsOf []) k) k a0 d0 a1 d1 a2 d2 a3 d3 a4 d4 a5 d5 a6 d6 a7 d7 a8 d8 a9 d9 a10 d10 a11 d11 a12 d12 a13 d13 a14 d14 a15 d15 a16 d16 a17 d17 a18 d18 a19 d19) (hr : Room k (A.deeper (envOfC "note_expr" (defScope s2) s.heap.objs.size ad cdv))) :
    SSs (Tk (clsOf []) k) (cxOf (L2.CX P w) P w K mg base N2 "note_expr" (defScope s2) ad cdv A outer s H E) none (fun c d _ H => E c d H) (defBody s2) b2 :=
  sss_cons (ss_if (st_cmp hr.units .«in» (se_ix (se_slot 0) (se_int)) (se_tup (ses_cons (se_str) (ses_cons (se_str) (ses_nil))))) (sss_cons (ss_asg (se_bl) (sg_sub hr.units (se_slot 1) (se_ix (se_slot 0) (se_int)))) (
  sss_nil)) (sss_nil)) (
  sss_cons (ss_for (passes_of rfl) rfl (si_seq (se_call ⟨⟨_, _, _, F.f0.fn, F.f0.pl, F.f0.at_, F.f0.kp, F.f0.bd⟩⟩ hr (takes_of rfl rfl rfl rfl) (ses_cons (se_slot 0) (ses_nil)) (hlen := (len_cons (fun _ _ _ _ h => len_nil h))))) (sg_name 2 sc2.nd) (sss_cons (ss_drop (se_call ⟨⟨_, _, _, F.f2.fn, F.f2.pl, F.f2.at_, F.f2.kp, F.f2.bd⟩⟩ hr (takes_of rfl rfl rfl rfl) (ses_cons (se_slot 2) (ses_cons (se_slot 1) (ses_nil))) (hlen := (len_cons (len_cons (fun _ _ _ _ h => len_nil h)))))) (
  sss_nil))) (
  sss_nil))
theorem der3 {ad : Addr} {cdv : Value} {A : Around} {outer : List Env} {s : Shared} {H : Hp} {E : XK} (M : Mn mg) (F : Fs P w K mg base (Tk (clsOf []) k) k a0 d0 a1 d1 a2 d2 a3 d3 a4 d4 a5 d5 a6 d6 a7 d7 a8 d8 a9 d9 a10 d10 a11 d11 a12 d12 a13 d13 a14 d14 a15 d15 a16 d16 a17 d17 a18 d18 a19 d19) (hr : Room k (A.deeper (envOfC "note_statement" (defScope s3) s.heap.objs.size ad cdv))) :
    SSs (Tk (clsOf []) k) (cxOf (L2.CX P w) P w K mg base N3 "note_statement" (defScope s3) ad cdv A outer s H E) none (fun c d _ H => E c d H) (defBody s3) b3 :=
  sss_cons (ss_if (st_cmp hr.units .eq (se_ix (se_slot 0) (se_int)) (se_str)) (sss_cons (ss_asg (se_bl) (sg_sub hr.units (se_slot 1) (se_ix (se_slot 0) (se_int)))) (
  sss_cons (ss_drop (se_call ⟨⟨_, _, _, F.f2.fn, F.f2.pl, F.f2.at_, F.f2.kp, F.f2.bd⟩⟩ hr (takes_of rfl rfl rfl rfl) (ses_cons (se_ix (se_slot 0) (se_int)) (ses_cons (se_slot 1) (ses_nil))) (hlen := (len_cons (len_cons (fun _ _ _ _ h => len_nil h)))))) (
  sss_nil))) (sss_nil)) (
  sss_cons (ss_if (st_cmp hr.units .eq (se_ix (se_slot 0) (se_int)) (se_str)) (sss_cons (ss_asg (se_bl) (sg_sub hr.units (se_slot 1) (se_ix (se_slot 0) (se_int)))) (
  sss_cons (ss_asg (se_bl) (sg_sub hr.units (se_slot 1) (se_ix (se_slot 0) (se_int)))) (
  sss_nil))) (sss_nil)) (
  sss_cons (ss_for (passes_of rfl) rfl (si_seq (se_call ⟨⟨_, _, _, F.f1.fn, F.f1.pl, F.f1.at_, F.f1.kp, F.f1.bd⟩⟩ hr (takes_of rfl rfl rfl rfl) (ses_cons (se_slot 0) (ses_nil)) (hlen := (len_cons (fun _ _ _ _ h => len_nil h))))) (sg_name 2 sc3.nd) (sss_cons (ss_drop (se_call ⟨⟨_, _, _, F.f3.fn, F.f3.pl, F.f3.at_, F.f3.kp, F.f3.bd⟩⟩ hr (takes_of rfl rfl rfl rfl) (ses_cons (se_slot 2) (ses_cons (se_slot 1) (ses_nil))) (hlen := (len_cons (len_cons (fun _ _ _ _ h => len_nil h)))))) (
  sss_nil))) (
  sss_nil)))
theorem der4 {ad : Addr} {cdv : Value} {A : Around} {outer : List Env} {s : Shared} {H : Hp} {E : XK} (M : Mn mg) (F : Fs P w K mg base (Tk (clsOf []) k) k a0 d0 a1 d1 a2 d2 a3 d3 a4 d4 a5 d5 a6 d6 a7 d7 a8 d8 a9 d9 a10 d10 a11 d11 a12 d12 a13 d13 a14 d14 a15 d15 a16 d16 a17 d17 a18 d18 a19 d19) (hr : Room k (A.deeper (envOfC "lives" (defScope s4) s.heap.objs.size ad cdv))) :
    SSs (Tk (clsOf []) k) (cxOf (L2.CX P w) P w K mg base N4 "lives" (defScope s4) ad cdv A outer s H E) none (fun c d _ H => E c d H) (defBody s4) b4 :=
  sss_cons (ss_asg (se_slot 0) (sg_tup rfl (sgs_cons (sg_name 2 sc4.nd) (sgs_cons (sg_name 3 sc4.nd) (sgs_nil))) (lenT_cons (lenT_cons lenT_nil)))) (
  sss_cons (ss_asg (se_dnew) (sg_name 4 sc4.nd)) (
  sss_cons (ss_asg (se_dnew) (sg_name 5 sc4.nd)) (
  sss_cons (ss_for (passes_of rfl) rfl (si_enum M.m_enumerate (se_slot 3)) (sg_tup rfl (sgs_cons (sg_name 6 sc4.nd) (sgs_cons (sg_name 7 sc4.nd) (sgs_nil))) (lenT_cons (lenT_cons lenT_nil))) (sss_cons (ss_asg (se_dnew) (sg_name 8 sc4.nd)) (
  sss_cons (ss_drop (se_call ⟨⟨_, _, _, F.f3.fn, F.f3.pl, F.f3.at_, F.f3.kp, F.f3.bd⟩⟩ hr (takes_of rfl rfl rfl rfl) (ses_cons (se_slot 7) (ses_cons (se_slot 8) (ses_nil))) (hlen := (len_cons (len_cons (fun _ _ _ _ h => len_nil h)))))) (
  sss_cons (ss_forD 8 (passes_of rfl) rfl (sg_name 9 sc4.nd) (sss_cons (ss_drop (se_setd (se_slot 4) (se_slot 9) (se_slot 6) ⟨rfl, rfl, rfl, rfl⟩)) (
  sss_cons (ss_asg (se_slot 6) (sg_sub hr.units (se_slot 5) (se_slot 9))) (
  sss_nil)))) (
  sss_nil))))) (
  sss_cons (ss_for (passes_of rfl) rfl (si_seq (se_slot 1)) (sg_name 10 sc4.nd) (sss_cons (ss_asg (se_biB .len bi_len M.m_len (by decide +kernel) (ses_cons (se_slot 3) (ses_nil))) (sg_sub hr.units (se_slot 5) (se_slot 10))) (
  sss_nil))) (
  sss_cons (ss_setLc 11 [("buffer", 9), ("role", 12), ("_", 13)] rfl sc4.nd (si_enum M.m_enumerate (se_slot 2)) (blkOk_by (N := N4) (sc := defScope s4) (by decide +kernel)) (fun _ _ _ _ _ => sgw_tup rfl (sgsw_cons (sgw_name 9 sc4.nd) (sgsw_cons (sgw_tup rfl (sgsw_cons (sgw_name 12 sc4.nd) (sgsw_cons (sgw_name 13 sc4.nd) (sgsw_nil))) (lenT_cons (lenT_cons lenT_nil))) (sgsw_nil))) (lenT_cons (lenT_cons lenT_nil))) (fun _ _ _ _ _ => sif_one (st_cmp hr.units .eq (se_slot 12) (se_str))) (fun _ _ _ _ _ => se_slot 9) (sw_true rfl rfl rfl (by decide +kernel))) (
  sss_cons (ss_ret (se_biT .tuple bi_tuple M.m_tuple (by decide +kernel) (ses_cons (se_lc [("buffer", 9)] rfl sc4.nd (si_seq (se_slot 11)) (blkOk_by (N := N4) (sc := defScope s4) (by decide +kernel)) (fun _ _ _ _ _ => sgw_name 9 sc4.nd) (fun _ _ _ _ _ => sif_nil) (fun _ _ _ _ _ => se_tup (ses_cons (se_get2 hr.units (se_slot 4) (se_slot 9) (se_int) ⟨rfl, rfl, rfl, rfl⟩) (ses_cons (se_get2 hr.units (se_slot 5) (se_slot 9) (se_int) ⟨rfl, rfl, rfl, rfl⟩) (ses_nil))))) (ses_nil)))) (
  sss_nil)))))))
theorem der5 {ad : Addr} {cdv : Value} {A : Around} {outer : List Env} {s : Shared} {H : Hp} {E : XK} (M : Mn mg) (F : Fs P w K mg base (Tk (clsOf []) k) k a0 d0 a1 d1 a2 d2 a3 d3 a4 d4 a5 d5 a6 d6 a7 d7 a8 d8 a9 d9 a10 d10 a11 d11 a12 d12 a13 d13 a14 d14 a15 d15 a16 d16 a17 d17 a18 d18 a19 d19) (hr : Room k (A.deeper (envOfC "meet" (defScope s5) s.heap.objs.size ad cdv))) :
    SSs (Tk (clsOf []) k) (cxOf (L2.CX P w) P w K mg base N5 "meet" (defScope s5) ad cdv A outer s H E) none (fun c d _ H => E c d H) (defBody s5) b5 :=
  sss_cons (ss_ret (se_and (se_cmp hr.units .le (se_ix (se_slot 0) (se_int)) (se_ix (se_slot 1) (se_int))) (se_one (se_cmp hr.units .le (se_ix (se_slot 1) (se_int)) (se_ix (se_slot 0) (se_int)))))) (
  sss_nil)
theorem der6 {ad : Addr} {cdv : Value} {A : Around} {outer : List Env} {s : Shared} {H : Hp} {E : XK} (M : Mn mg) (F : Fs P w K mg base (Tk (clsOf []) k) k a0 d0 a1 d1 a2 d2 a3 d3 a4 d4 a5 d5 a6 d6 a7 d7 a8 d8 a9 d9 a10 d10 a11 d11 a12 d12 a13 d13 a14 d14 a15 d15 a16 d16 a17 d17 a18 d18 a19 d19) (hr : Room k (A.deeper (envOfC "_law_begin" (defScope s6) s.heap.objs.size ad cdv))) :
    SSs (Tk (clsOf []) k) (cxOf (L2.CX P w) P w K mg base N6 "_law_begin" (defScope s6) ad cdv A outer s H E) none (fun c d _ H => E c d H) (defBody s6) b6 :=
  sss_cons (ss_asg (se_int) (sg_name 1 sc6.nd)) (
  sss_cons (ss_for (passes_of rfl) rfl (si_seq (se_slot 0)) (sg_name 2 sc6.nd) (sss_cons (ss_asg (se_bin .mod (se_bin .add (se_bin .add (se_bin .mul (se_slot 1) (se_int)) (se_bin .mod (se_biT .int bi_int M.m_int (by decide +kernel) (ses_cons (se_slot 2) (ses_nil))) (se_int))) (se_int)) (se_int)) (sg_name 1 sc6.nd)) (
  sss_nil))) (
  sss_cons (ss_ret (se_lst (ses_cons (se_biT .list bi_list M.m_list (by decide +kernel) (ses_cons (se_slot 0) (ses_nil))) (ses_cons (se_int) (ses_cons (se_int) (ses_cons (se_slot 1) (ses_nil))))))) (
  sss_nil)))
theorem der7 {ad : Addr} {cdv : Value} {A : Around} {outer : List Env} {s : Shared} {H : Hp} {E : XK} (M : Mn mg) (F : Fs P w K mg base (Tk (clsOf []) k) k a0 d0 a1 d1 a2 d2 a3 d3 a4 d4 a5 d5 a6 d6 a7 d7 a8 d8 a9 d9 a10 d10 a11 d11 a12 d12 a13 d13 a14 d14 a15 d15 a16 d16 a17 d17 a18 d18 a19 d19) (hr : Room k (A.deeper (envOfC "_law_take" (defScope s7) s.heap.objs.size ad cdv))) :
    SSs (Tk (clsOf []) k) (cxOf (L2.CX P w) P w K mg base N7 "_law_take" (defScope s7) ad cdv A outer s H E) none (fun c d _ H => E c d H) (defBody s7) b7 :=
  sss_cons (ss_if (st_w (sw_and (st_cmp hr.units .eq (se_ix (se_slot 0) (se_int)) (se_int)) (sw_one_and (st_cmp hr.units .lt (se_ix (se_slot 0) (se_int)) (se_biB .len bi_len M.m_len (by decide +kernel) (ses_cons (se_ix (se_slot 0) (se_int)) (ses_nil))))))) (sss_cons (ss_asg (se_biB .abs bi_abs M.m_abs (by decide +kernel) (ses_cons (se_biT .int bi_int M.m_int (by decide +kernel) (ses_cons (se_ix (se_ix (se_slot 0) (se_int)) (se_ix (se_slot 0) (se_int))) (ses_nil))) (ses_nil))) (sg_sub hr.units (se_slot 0) (se_int))) (
  sss_cons (ss_asg (se_bin .add (se_ix (se_slot 0) (se_int)) (se_int)) (sg_sub hr.units (se_slot 0) (se_int))) (
  sss_cons (ss_if (st_cmp hr.units .lt (se_ix (se_slot 0) (se_int)) (se_bin .pow (se_int) (se_int))) (sss_cons (ss_asg (se_biT .int bi_int M.m_int (by decide +kernel) (ses_cons (se_ix (se_slot 0) (se_int)) (ses_nil))) (sg_name 2 sc7.nd)) (
  sss_cons (ss_asg (se_int) (sg_sub hr.units (se_slot 0) (se_int))) (
  sss_cons (ss_ret (se_bin .mod (se_slot 2) (se_slot 1))) (
  sss_nil)))) (sss_nil)) (
  sss_nil)))) (sss_nil)) (
  sss_cons (ss_if (st_cmp hr.units .gt (se_ix (se_slot 0) (se_int)) (se_int)) (sss_cons (ss_asg (se_bin .mod (se_biT .int bi_int M.m_int (by decide +kernel) (ses_cons (se_ix (se_slot 0) (se_int)) (ses_nil))) (se_slot 1)) (sg_name 3 sc7.nd)) (
  sss_cons (ss_asg (se_bin .fdiv (se_biT .int bi_int M.m_int (by decide +kernel) (ses_cons (se_ix (se_slot 0) (se_int)) (ses_nil))) (se_slot 1)) (sg_sub hr.units (se_slot 0) (se_int))) (
  sss_cons (ss_ret (se_slot 3)) (
  sss_nil)))) (sss_nil)) (
  sss_cons (ss_asg (se_bin .mod (se_biT .int bi_int M.m_int (by decide +kernel) (ses_cons (se_bin .add (se_bin .mul (se_ix (se_slot 0) (se_int)) (se_int)) (se_int)) (ses_nil))) (se_int)) (sg_sub hr.units (se_slot 0) (se_int))) (
  sss_cons (ss_ret (se_bin .mod (se_biT .int bi_int M.m_int (by decide +kernel) (ses_cons (se_bin .fdiv (se_ix (se_slot 0) (se_int)) (se_int)) (ses_nil))) (se_slot 1))) (
  sss_nil))))
theorem der8 {ad : Addr} {cdv : Value} {A : Around} {outer : List Env} {s : Shared} {H : Hp} {E : XK} (M : Mn mg) (F : Fs P w K mg base (Tk (clsOf []) k) k a0 d0 a1 d1 a2 d2 a3 d3 a4 d4 a5 d5 a6 d6 a7 d7 a8 d8 a9 d9 a10 d10 a11 d11 a12 d12 a13 d13 a14 d14 a15 d15 a16 d16 a17 d17 a18 d18 a19 d19) (hr : Room k (A.deeper (envOfC "_law_signed" (defScope s8) s.heap.objs.size ad cdv))) :
    SSs (Tk (clsOf []) k) (cxOf (L2.CX P w) P w K mg base N8 "_law_signed" (defScope s8) ad cdv A outer s H E) none (fun c d _ H => E c d H) (defBody s8) b8 :=
  sss_cons (ss_ret (se_bin .sub (se_call ⟨⟨_, _, _, F.f7.fn, F.f7.pl, F.f7.at_, F.f7.kp, F.f7.bd⟩⟩ hr (takes_of rfl rfl rfl rfl) (ses_cons (se_slot 0) (ses_cons (se_bin .add (se_bin .mul (se_int) (se_slot 1)) (se_int)) (ses_nil))) (hlen := (len_cons (len_cons (fun _ _ _ _ h => len_nil h))))) (se_slot 1))) (
  sss_nil)
theorem der9 {ad : Addr} {cdv : Value} {A : Around} {outer : List Env} {s : Shared} {H : Hp} {E : XK} (M : Mn mg) (F : Fs P w K mg base (Tk (clsOf []) k) k a0 d0 a1 d1 a2 d2 a3 d3 a4 d4 a5 d5 a6 d6 a7 d7 a8 d8 a9 d9 a10 d10 a11 d11 a12 d12 a13 d13 a14 d14 a15 d15 a16 d16 a17 d17 a18 d18 a19 d19) (hr : Room k (A.deeper (envOfC "_law_form" (defScope s9) s.heap.objs.size ad cdv))) :
    SSs (Tk (clsOf []) k) (cxOf (L2.CX P w) P w K mg base N9 "_law_form" (defScope s9) ad cdv A outer s H E) none (fun c d _ H => E c d H) (defBody s9) b9 :=
  sss_cons (ss_asg (se_lst (ses_nil)) (sg_name 3 sc9.nd)) (
  sss_cons (ss_asg (se_int) (sg_name 4 sc9.nd)) (
  sss_cons (ss_asg (se_int) (sg_name 5 sc9.nd)) (
  sss_cons (ss_for (passes_of rfl) rfl (si_seq (se_slot 1)) (sg_tup rfl (sgs_cons (sg_name 6 sc9.nd) (sgs_cons (sg_name 7 sc9.nd) (sgs_nil))) (lenT_cons (lenT_cons lenT_nil))) (sss_cons (ss_if (st_cmp hr.units .gt (se_call ⟨⟨_, _, _, F.f7.fn, F.f7.pl, F.f7.at_, F.f7.kp, F.f7.bd⟩⟩ hr (takes_of rfl rfl rfl rfl) (ses_cons (se_slot 0) (ses_cons (se_int) (ses_nil))) (hlen := (len_cons (len_cons (fun _ _ _ _ h => len_nil h))))) (se_int)) (sss_cons (ss_asg (se_ix (se_tup (ses_cons (se_int) (ses_cons (se_int) (ses_cons (se_int) (ses_cons (se_bin .sub (se_int) (se_int)) (ses_nil)))))) (se_call ⟨⟨_, _, _, F.f7.fn, F.f7.pl, F.f7.at_, F.f7.kp, F.f7.bd⟩⟩ hr (takes_of rfl rfl rfl rfl) (ses_cons (se_slot 0) (ses_cons (se_int) (ses_nil))) (hlen := (len_cons (len_cons (fun _ _ _ _ h => len_nil h)))))) (sg_name 8 sc9.nd)) (
  sss_cons (ss_setLc 9 [("v", 10)] rfl sc9.nd (si_seq (se_slot 7)) (blkOk_by (N := N9) (sc := defScope s9) (by decide +kernel)) (fun _ _ _ _ _ => sgw_name 10 sc9.nd) (fun _ _ _ _ _ => sif_nil) (fun _ _ _ _ _ => se_bin .mul (se_slot 8) (se_slot 10)) (sw_true rfl rfl rfl (by decide +kernel))) (
  sss_cons (ss_if (st_cmp hr.units .lt (se_bin .sub (se_bin .sub (se_bin .add (se_slot 5) (se_biB .max1 (bi_max1 rfl hr.units) M.m_max (by decide +kernel) (ses_cons (se_slot 9) (ses_nil)))) (se_slot 4)) (se_biB .min1 (bi_min1 rfl hr.units) M.m_min (by decide +kernel) (ses_cons (se_slot 9) (ses_nil)))) (se_slot 2)) (sss_cons (ss_drop (se_append (se_slot 3) (se_tup (ses_cons (se_slot 6) (ses_cons (se_slot 8) (ses_nil)))))) (
  sss_cons (ss_asg (se_bin .add (se_slot 4) (se_biB .min1 (bi_min1 rfl hr.units) M.m_min (by decide +kernel) (ses_cons (se_slot 9) (ses_nil)))) (sg_name 4 sc9.nd)) (
  sss_cons (ss_asg (se_bin .add (se_slot 5) (se_biB .max1 (bi_max1 rfl hr.units) M.m_max (by decide +kernel) (ses_cons (se_slot 9) (ses_nil)))) (sg_name 5 sc9.nd)) (
  sss_nil)))) (sss_nil)) (
  sss_nil)))) (sss_nil)) (
  sss_nil))) (
  sss_cons (ss_ret (se_tup (ses_cons (se_bin .sub (se_call ⟨⟨_, _, _, F.f7.fn, F.f7.pl, F.f7.at_, F.f7.kp, F.f7.bd⟩⟩ hr (takes_of rfl rfl rfl rfl) (ses_cons (se_slot 0) (ses_cons (se_bin .add (se_bin .sub (se_slot 2) (se_slot 5)) (se_slot 4)) (ses_nil))) (hlen := (len_cons (len_cons (fun _ _ _ _ h => len_nil h))))) (se_slot 4)) (ses_cons (se_biT .tuple bi_tuple M.m_tuple (by decide +kernel) (ses_cons (se_slot 3) (ses_nil))) (ses_nil))))) (
  sss_nil)))))
theorem der10 {ad : Addr} {cdv : Value} {A : Around} {outer : List Env} {s : Shared} {H : Hp} {E : XK} (M : Mn mg) (F : Fs P w K mg base (Tk (clsOf []) k) k a0 d0 a1 d1 a2 d2 a3 d3 a4 d4 a5 d5 a6 d6 a7 d7 a8 d8 a9 d9 a10 d10 a11 d11 a12 d12 a13 d13 a14 d14 a15 d15 a16 d16 a17 d17 a18 d18 a19 d19) (hr : Room k (A.deeper (envOfC "_law_test" (defScope s10) s.heap.objs.size ad cdv))) :
    SSs (Tk (clsOf []) k) (cxOf (L2.CX P w) P w K mg base N10 "_law_test" (defScope s10) ad cdv A outer s H E) none (fun c d _ H => E c d H) (defBody s10) b10 :=
  sss_cons (ss_asg (se_biT .tuple bi_tuple M.m_tuple (by decide +kernel) (ses_cons (se_lc [("var", 3), ("values", 4)] rfl sc10.nd (si_seq (se_slc (se_slot 1) so_none (so_some (se_int)))) (blkOk_by (N := N10) (sc := defScope s10) (by decide +kernel)) (fun _ _ _ _ _ => sgw_tup rfl (sgsw_cons (sgw_name 3 sc10.nd) (sgsw_cons (sgw_name 4 sc10.nd) (sgsw_nil))) (lenT_cons (lenT_cons lenT_nil))) (fun _ _ _ _ _ => sif_nil) (fun _ _ _ _ _ => se_tup (ses_cons (se_slot 3) (ses_cons (se_ix (se_tup (ses_cons (se_int) (ses_cons (se_bin .sub (se_int) (se_int)) (ses_cons (se_int) (ses_nil))))) (se_call ⟨⟨_, _, _, F.f7.fn, F.f7.pl, F.f7.at_, F.f7.kp, F.f7.bd⟩⟩ hr takes0 (ses_cons (se_slot 0) (ses_cons (se_int) (ses_nil))) (hlen := (len_cons (len_cons (fun _ _ _ _ h => len_nil h)))))) (ses_nil))))) (ses_nil))) (sg_name 2 sc10.nd)) (
  sss_cons (ss_ret (se_tup (ses_cons (se_call ⟨⟨_, _, _, F.f8.fn, F.f8.pl, F.f8.at_, F.f8.kp, F.f8.bd⟩⟩ hr (takes_of rfl rfl rfl rfl) (ses_cons (se_slot 0) (ses_cons (se_int) (ses_nil))) (hlen := (len_cons (len_cons (fun _ _ _ _ h => len_nil h))))) (ses_cons (se_slot 2) (ses_nil))))) (
  sss_nil))
theorem der11 {ad : Addr} {cdv : Value} {A : Around} {outer : List Env} {s : Shared} {H : Hp} {E : XK} (M : Mn mg) (F : Fs P w K mg base (Tk (clsOf []) k) k a0 d0 a1 d1 a2 d2 a3 d3 a4 d4 a5 d5 a6 d6 a7 d7 a8 d8 a9 d9 a10 d10 a11 d11 a12 d12 a13 d13 a14 d14 a15 d15 a16 d16 a17 d17 a18 d18 a19 d19) (hr : Room k (A.deeper (envOfC "_law_point_info" (defScope s11) s.heap.objs.size ad cdv))) :
    SSs (Tk (clsOf []) k) (cxOf (L2.CX P w) P w K mg base N11 "_law_point_info" (defScope s11) ad cdv A outer s H E) none (fun c d _ H => E c d H) (defBody s11) b11 :=
  sss_cons (ss_if (st_cmp hr.units .eq (se_slot 1) (se_str)) (sss_cons (ss_asg (se_call ⟨⟨_, _, _, F.f8.fn, F.f8.pl, F.f8.at_, F.f8.kp, F.f8.bd⟩⟩ hr (takes_of rfl rfl rfl rfl) (ses_cons (se_slot 0) (ses_cons (se_int) (ses_nil))) (hlen := (len_cons (len_cons (fun _ _ _ _ h => len_nil h))))) (sg_name 2 sc11.nd)) (
  sss_cons (ss_ret (se_tup (ses_cons (se_slot 2) (ses_cons (se_bin .add (se_slot 2) (se_call ⟨⟨_, _, _, F.f7.fn, F.f7.pl, F.f7.at_, F.f7.kp, F.f7.bd⟩⟩ hr (takes_of rfl rfl rfl rfl) (ses_cons (se_slot 0) (ses_cons (se_int) (ses_nil))) (hlen := (len_cons (len_cons (fun _ _ _ _ h => len_nil h)))))) (ses_nil))))) (
  sss_nil))) (sss_nil)) (
  sss_cons (ss_ret (se_ife (st_cmp hr.units .eq (se_slot 1) (se_str)) (se_tup (ses_cons (se_bin .add (se_int) (se_call ⟨⟨_, _, _, F.f7.fn, F.f7.pl, F.f7.at_, F.f7.kp, F.f7.bd⟩⟩ hr (takes_of rfl rfl rfl rfl) (ses_cons (se_slot 0) (ses_cons (se_int) (ses_nil))) (hlen := (len_cons (len_cons (fun _ _ _ _ h => len_nil h)))))) (ses_nil))) (se_tup (ses_nil)))) (
  sss_nil))
theorem der12 {ad : Addr} {cdv : Value} {A : Around} {outer : List Env} {s : Shared} {H : Hp} {E : XK} (M : Mn mg) (F : Fs P w K mg base (Tk (clsOf []) k) k a0 d0 a1 d1 a2 d2 a3 d3 a4 d4 a5 d5 a6 d6 a7 d7 a8 d8 a9 d9 a10 d10 a11 d11 a12 d12 a13 d13 a14 d14 a15 d15 a16 d16 a17 d17 a18 d18 a19 d19) (hr : Room k (A.deeper (envOfC "_law_expr" (defScope s12) s.heap.objs.size ad cdv))) :
    SSs (Tk (clsOf []) k) (cxOf (L2.CX P w) P w K mg base N12 "_law_expr" (defScope s12) ad cdv A outer s H E) none (fun c d _ H => E c d H) (defBody s12) b12 :=
  sss_cons (ss_asg (se_ife (st_cmp hr.units .lt (se_slot 3) (se_int)) (se_call ⟨⟨_, _, _, F.f7.fn, F.f7.pl, F.f7.at_, F.f7.kp, F.f7.bd⟩⟩ hr (takes_of rfl rfl rfl rfl) (ses_cons (se_slot 0) (ses_cons (se_int) (ses_nil))) (hlen := (len_cons (len_cons (fun _ _ _ _ h => len_nil h))))) (se_call ⟨⟨_, _, _, F.f7.fn, F.f7.pl, F.f7.at_, F.f7.kp, F.f7.bd⟩⟩ hr (takes_of rfl rfl rfl rfl) (ses_cons (se_slot 0) (ses_cons (se_int) (ses_nil))) (hlen := (len_cons (len_cons (fun _ _ _ _ h => len_nil h)))))) (sg_name 4 sc12.nd)) (
  sss_cons (ss_if (st_cmp hr.units .eq (se_slot 4) (se_int)) (sss_cons (ss_ret (se_tup (ses_cons (se_str) (ses_cons (se_call ⟨⟨_, _, _, F.f8.fn, F.f8.pl, F.f8.at_, F.f8.kp, F.f8.bd⟩⟩ hr (takes_of rfl rfl rfl rfl) (ses_cons (se_slot 0) (ses_cons (se_int) (ses_nil))) (hlen := (len_cons (len_cons (fun _ _ _ _ h => len_nil h))))) (ses_nil))))) (
  sss_nil)) (sss_nil)) (
  sss_cons (ss_if (st_cmp hr.units .eq (se_slot 4) (se_int)) (sss_cons (ss_ret (se_tup (ses_cons (se_str) (ses_cons (se_call ⟨⟨_, _, _, F.f10.fn, F.f10.pl, F.f10.at_, F.f10.kp, F.f10.bd⟩⟩ hr (takes_of rfl rfl rfl rfl) (ses_cons (se_slot 0) (ses_cons (se_slot 2) (ses_nil))) (hlen := (len_cons (len_cons (fun _ _ _ _ h => len_nil h))))) (ses_nil))))) (
  sss_nil)) (sss_nil)) (
  sss_cons (ss_asg (se_call ⟨⟨_, _, _, F.f7.fn, F.f7.pl, F.f7.at_, F.f7.kp, F.f7.bd⟩⟩ hr (takes_of rfl rfl rfl rfl) (ses_cons (se_slot 0) (ses_cons (se_biB .len bi_len M.m_len (by decide +kernel) (ses_cons (se_slot 1) (ses_nil))) (ses_nil))) (hlen := (len_cons (len_cons (fun _ _ _ _ h => len_nil h))))) (sg_name 5 sc12.nd)) (
  sss_cons (ss_asg (se_ix (se_ix (se_slot 1) (se_slot 5)) (se_int)) (sg_name 6 sc12.nd)) (
  sss_cons (ss_if (st_cmp hr.units .lt (se_slot 4) (se_int)) (sss_cons (ss_ret (se_tup (ses_cons (se_str) (ses_cons (se_slot 5) (ses_cons (se_call ⟨⟨_, _, _, F.f9.fn, F.f9.pl, F.f9.at_, F.f9.kp, F.f9.bd⟩⟩ hr (takes_of rfl rfl rfl rfl) (ses_cons (se_slot 0) (ses_cons (se_slot 2) (ses_cons (se_slot 6) (ses_nil)))) (hlen := (len_cons (len_cons (len_cons (fun _ _ _ _ h => len_nil h)))))) (ses_nil)))))) (
  sss_nil)) (sss_nil)) (
  sss_cons (ss_if (st_cmp hr.units .eq (se_slot 4) (se_int)) (sss_cons (ss_ret (se_tup (ses_cons (se_str) (ses_cons (se_call ⟨⟨_, _, _, F.f10.fn, F.f10.pl, F.f10.at_, F.f10.kp, F.f10.bd⟩⟩ hr (takes_of rfl rfl rfl rfl) (ses_cons (se_slot 0) (ses_cons (se_slot 2) (ses_nil))) (hlen := (len_cons (len_cons (fun _ _ _ _ h => len_nil h))))) (ses_cons (se_call ⟨⟨_, _, _, F.f12.fn, F.f12.pl, F.f12.at_, F.f12.kp, F.f12.bd⟩⟩ hr (takes_of rfl rfl rfl rfl) (ses_cons (se_slot 0) (ses_cons (se_slot 1) (ses_cons (se_slot 2) (ses_cons (se_bin .add (se_slot 3) (se_int)) (ses_nil))))) (hlen := (len_cons (len_cons (len_cons (len_cons (fun _ _ _ _ h => len_nil h))))))) (ses_cons (se_call ⟨⟨_, _, _, F.f12.fn, F.f12.pl, F.f12.at_, F.f12.kp, F.f12.bd⟩⟩ hr (takes_of rfl rfl rfl rfl) (ses_cons (se_slot 0) (ses_cons (se_slot 1) (ses_cons (se_slot 2) (ses_cons (se_bin .add (se_slot 3) (se_int)) (ses_nil))))) (hlen := (len_cons (len_cons (len_cons (len_cons (fun _ _ _ _ h => len_nil h))))))) (ses_nil))))))) (
  sss_nil)) (sss_nil)) (
  sss_cons (ss_if (st_cmp hr.units .eq (se_slot 4) (se_int)) (sss_cons (ss_asg (se_bin .add (se_int) (se_call ⟨⟨_, _, _, F.f7.fn, F.f7.pl, F.f7.at_, F.f7.kp, F.f7.bd⟩⟩ hr (takes_of rfl rfl rfl rfl) (ses_cons (se_slot 0) (ses_cons (se_biB .min2 (bi_min2 rfl) M.m_min (by decide +kernel) (ses_cons (se_int) (ses_cons (se_slot 6) (ses_nil)))) (ses_nil))) (hlen := (len_cons (len_cons (fun _ _ _ _ h => len_nil h)))))) (sg_name 7 sc12.nd)) (
  sss_cons (ss_asg (se_ife (st_cmp hr.units .lt (se_bin .mul (se_int) (se_bin .sub (se_slot 7) (se_int))) (se_slot 6)) (se_ix (se_tup (ses_cons (se_int) (ses_cons (se_int) (ses_cons (se_int) (ses_nil))))) (se_call ⟨⟨_, _, _, F.f7.fn, F.f7.pl, F.f7.at_, F.f7.kp, F.f7.bd⟩⟩ hr (takes_of rfl rfl rfl rfl) (ses_cons (se_slot 0) (ses_cons (se_int) (ses_nil))) (hlen := (len_cons (len_cons (fun _ _ _ _ h => len_nil h)))))) (se_int)) (sg_name 8 sc12.nd)) (
  sss_cons (ss_asg (se_call ⟨⟨_, _, _, F.f9.fn, F.f9.pl, F.f9.at_, F.f9.kp, F.f9.bd⟩⟩ hr (takes_of rfl rfl rfl rfl) (ses_cons (se_slot 0) (ses_cons (se_slot 2) (ses_cons (se_bin .sub (se_slot 6) (se_bin .mul (se_slot 8) (se_bin .sub (se_slot 7) (se_int)))) (ses_nil)))) (hlen := (len_cons (len_cons (len_cons (fun _ _ _ _ h => len_nil h)))))) (sg_name 9 sc12.nd)) (
  sss_cons (ss_ret (se_tup (ses_cons (se_str) (ses_cons (se_slot 5) (ses_cons (se_slot 9) (ses_cons (se_slot 8) (ses_cons (se_slot 7) (ses_cons (se_call ⟨⟨_, _, _, F.f12.fn, F.f12.pl, F.f12.at_, F.f12.kp, F.f12.bd⟩⟩ hr (takes_of rfl rfl rfl rfl) (ses_cons (se_slot 0) (ses_cons (se_slot 1) (ses_cons (se_slot 2) (ses_cons (se_bin .add (se_slot 3) (se_int)) (ses_nil))))) (hlen := (len_cons (len_cons (len_cons (len_cons (fun _ _ _ _ h => len_nil h))))))) (ses_nil))))))))) (
  sss_nil))))) (sss_nil)) (
  sss_cons (ss_asg (se_tup (ses_cons (se_str) (ses_cons (se_str) (ses_cons (se_str) (ses_cons (se_str) (ses_cons (se_str) (ses_cons (se_str) (ses_cons (se_str) (ses_cons (se_str) (ses_cons (se_str) (ses_cons (se_str) (ses_cons (se_str) (ses_cons (se_str) (ses_nil)))))))))))))) (sg_name 10 sc12.nd)) (
  sss_cons (ss_asg (se_ix (se_slot 10) (se_call ⟨⟨_, _, _, F.f7.fn, F.f7.pl, F.f7.at_, F.f7.kp, F.f7.bd⟩⟩ hr (takes_of rfl rfl rfl rfl) (ses_cons (se_slot 0) (ses_cons (se_int) (ses_nil))) (hlen := (len_cons (len_cons (fun _ _ _ _ h => len_nil h)))))) (sg_name 11 sc12.nd)) (
  sss_cons (ss_asg (se_ife (st_cmp hr.units .«in» (se_slot 11) (se_tup (ses_cons (se_str) (ses_cons (se_str) (ses_cons (se_str) (ses_nil)))))) (se_int) (se_ife (st_cmp hr.units .eq (se_slot 11) (se_str)) (se_int) (se_int))) (sg_name 12 sc12.nd)) (
  sss_cons (ss_asg (se_biT .tuple bi_tuple M.m_tuple (by decide +kernel) (ses_cons (se_lc [("j", 14)] rfl sc12.nd (si_range1 M.m_range (se_slot 12)) (blkOk_by (N := N12) (sc := defScope s12) (by decide +kernel)) (fun _ _ _ _ _ => sgw_name 14 sc12.nd) (fun _ _ _ _ _ => sif_nil) (fun _ _ _ _ _ => se_call ⟨⟨_, _, _, F.f12.fn, F.f12.pl, F.f12.at_, F.f12.kp, F.f12.bd⟩⟩ hr takes0 (ses_cons (se_slot 0) (ses_cons (se_slot 1) (ses_cons (se_slot 2) (ses_cons (se_bin .add (se_slot 3) (se_int)) (ses_nil))))) (hlen := (len_cons (len_cons (len_cons (len_cons (fun _ _ _ _ h => len_nil h)))))))) (ses_nil))) (sg_name 13 sc12.nd)) (
  sss_cons (ss_ret (se_tup (ses_cons (se_str) (ses_cons (se_slot 11) (ses_cons (se_slot 13) (ses_cons (se_call ⟨⟨_, _, _, F.f11.fn, F.f11.pl, F.f11.at_, F.f11.kp, F.f11.bd⟩⟩ hr (takes_of rfl rfl rfl rfl) (ses_cons (se_slot 0) (ses_cons (se_slot 11) (ses_nil))) (hlen := (len_cons (len_cons (fun _ _ _ _ h => len_nil h))))) (ses_nil))))))) (
  sss_nil)))))))))))))
theorem der13 {ad : Addr} {cdv : Value} {A : Around} {outer : List Env} {s : Shared} {H : Hp} {E : XK} (M : Mn mg) (F : Fs P w K mg base (Tk (clsOf []) k) k a0 d0 a1 d1 a2 d2 a3 d3 a4 d4 a5 d5 a6 d6 a7 d7 a8 d8 a9 d9 a10 d10 a11 d11 a12 d12 a13 d13 a14 d14 a15 d15 a16 d16 a17 d17 a18 d18 a19 d19) (hr : Room k (A.deeper (envOfC "_law_copy" (defScope s13) s.heap.objs.size ad cdv))) :
    SSs (Tk (clsOf []) k) (cxOf (L2.CX P w) P w K mg base N13 "_law_copy" (defScope s13) ad cdv A outer s H E) none (fun c d _ H => E c d H) (defBody s13) b13 :=
  sss_cons (ss_setLc 3 [("k", 10)] rfl sc13.nd (si_range1 M.m_range (se_biB .len bi_len M.m_len (by decide +kernel) (ses_cons (se_slot 1) (ses_nil)))) (blkOk_by (N := N13) (sc := defScope s13) (by decide +kernel)) (fun _ _ _ _ _ => sgw_name 10 sc13.nd) (fun _ _ _ _ _ => sif_one (st_cmp hr.units .eq (se_ix (se_ix (se_slot 1) (se_slot 10)) (se_int)) (se_str))) (fun _ _ _ _ _ => se_slot 10) (sw_true rfl rfl rfl (by decide +kernel))) (
  sss_cons (ss_setLc 4 [("k", 10)] rfl sc13.nd (si_range1 M.m_range (se_biB .len bi_len M.m_len (by decide +kernel) (ses_cons (se_slot 1) (ses_nil)))) (blkOk_by (N := N13) (sc := defScope s13) (by decide +kernel)) (fun _ _ _ _ _ => sgw_name 10 sc13.nd) (fun _ _ _ _ _ => sif_one (st_cmp hr.units .ne (se_ix (se_ix (se_slot 1) (se_slot 10)) (se_int)) (se_str))) (fun _ _ _ _ _ => se_slot 10) (sw_true rfl rfl rfl (by decide +kernel))) (
  sss_cons (ss_if (st_cmp hr.units .eq (se_biB .len bi_len M.m_len (by decide +kernel) (ses_cons (se_slot 3) (ses_nil))) (se_int)) (sss_cons (ss_ret (se_non)) (
  sss_nil)) (sss_nil)) (
  sss_cons (ss_asg (se_ix (se_slot 3) (se_call ⟨⟨_, _, _, F.f7.fn, F.f7.pl, F.f7.at_, F.f7.kp, F.f7.bd⟩⟩ hr (takes_of rfl rfl rfl rfl) (ses_cons (se_slot 0) (ses_cons (se_biB .len bi_len M.m_len (by decide +kernel) (ses_cons (se_slot 3) (ses_nil))) (ses_nil))) (hlen := (len_cons (len_cons (fun _ _ _ _ h => len_nil h)))))) (sg_name 5 sc13.nd)) (
  sss_cons (ss_asg (se_ix (se_slot 4) (se_call ⟨⟨_, _, _, F.f7.fn, F.f7.pl, F.f7.at_, F.f7.kp, F.f7.bd⟩⟩ hr (takes_of rfl rfl rfl rfl) (ses_cons (se_slot 0) (ses_cons (se_biB .len bi_len M.m_len (by decide +kernel) (ses_cons (se_slot 4) (ses_nil))) (ses_nil))) (hlen := (len_cons (len_cons (fun _ _ _ _ h => len_nil h)))))) (sg_name 6 sc13.nd)) (
  sss_cons (ss_asg (se_bin .add (se_int) (se_call ⟨⟨_, _, _, F.f7.fn, F.f7.pl, F.f7.at_, F.f7.kp, F.f7.bd⟩⟩ hr (takes_of rfl rfl rfl rfl) (ses_cons (se_slot 0) (ses_cons (se_biB .min2 (bi_min2 rfl) M.m_min (by decide +kernel) (ses_cons (se_ix (se_ix (se_slot 1) (se_slot 5)) (se_int)) (ses_cons (se_ix (se_ix (se_slot 1) (se_slot 6)) (se_int)) (ses_nil)))) (ses_nil))) (hlen := (len_cons (len_cons (fun _ _ _ _ h => len_nil h)))))) (sg_name 7 sc13.nd)) (
  sss_cons (ss_asg (se_call ⟨⟨_, _, _, F.f9.fn, F.f9.pl, F.f9.at_, F.f9.kp, F.f9.bd⟩⟩ hr (takes_of rfl rfl rfl rfl) (ses_cons (se_slot 0) (ses_cons (se_slot 2) (ses_cons (se_bin .add (se_bin .sub (se_ix (se_ix (se_slot 1) (se_slot 5)) (se_int)) (se_slot 7)) (se_int)) (ses_nil)))) (hlen := (len_cons (len_cons (len_cons (fun _ _ _ _ h => len_nil h)))))) (sg_name 8 sc13.nd)) (
  sss_cons (ss_asg (se_call ⟨⟨_, _, _, F.f9.fn, F.f9.pl, F.f9.at_, F.f9.kp, F.f9.bd⟩⟩ hr (takes_of rfl rfl rfl rfl) (ses_cons (se_slot 0) (ses_cons (se_slot 2) (ses_cons (se_bin .add (se_bin .sub (se_ix (se_ix (se_slot 1) (se_slot 6)) (se_int)) (se_slot 7)) (se_int)) (ses_nil)))) (hlen := (len_cons (len_cons (len_cons (fun _ _ _ _ h => len_nil h)))))) (sg_name 9 sc13.nd)) (
  sss_cons (ss_if (st_w (sw_and (st_cmp hr.units .eq (se_ix (se_ix (se_slot 1) (se_slot 6)) (se_int)) (se_str)) (sw_one_and (st_cmp hr.units .eq (se_call ⟨⟨_, _, _, F.f7.fn, F.f7.pl, F.f7.at_, F.f7.kp, F.f7.bd⟩⟩ hr (takes_of rfl rfl rfl rfl) (ses_cons (se_slot 0) (ses_cons (se_int) (ses_nil))) (hlen := (len_cons (len_cons (fun _ _ _ _ h => len_nil h))))) (se_int))))) (sss_cons (ss_ret (se_tup (ses_cons (se_str) (ses_cons (se_slot 6) (ses_cons (se_slot 9) (ses_cons (se_slot 5) (ses_cons (se_slot 8) (ses_cons (se_slot 7) (ses_nil))))))))) (
  sss_nil)) (sss_nil)) (
  sss_cons (ss_ret (se_tup (ses_cons (se_str) (ses_cons (se_slot 5) (ses_cons (se_slot 8) (ses_cons (se_slot 6) (ses_cons (se_slot 9) (ses_cons (se_slot 7) (ses_nil))))))))) (
  sss_nil))))))))))
theorem der14 {ad : Addr} {cdv : Value} {A : Around} {outer : List Env} {s : Shared} {H : Hp} {E : XK} (M : Mn mg) (F : Fs P w K mg base (Tk (clsOf []) k) k a0 d0 a1 d1 a2 d2 a3 d3 a4 d4 a5 d5 a6 d6 a7 d7 a8 d8 a9 d9 a10 d10 a11 d11 a12 d12 a13 d13 a14 d14 a15 d15 a16 d16 a17 d17 a18 d18 a19 d19) (hr : Room k (A.deeper (envOfC "_law_statement" (defScope s14) s.heap.objs.size ad cdv))) :
    SSs (Tk (clsOf []) k) (cxOf (L2.CX P w) P w K mg base N14 "_law_statement" (defScope s14) ad cdv A outer s H E) none (fun c d _ H => E c d H) (defBody s14) b14 :=
  sss_cons (ss_asg (se_call ⟨⟨_, _, _, F.f7.fn, F.f7.pl, F.f7.at_, F.f7.kp, F.f7.bd⟩⟩ hr (takes_of rfl rfl rfl rfl) (ses_cons (se_slot 0) (ses_cons (se_int) (ses_nil))) (hlen := (len_cons (len_cons (fun _ _ _ _ h => len_nil h))))) (sg_name 4 sc14.nd)) (
  sss_cons (ss_if (st_w (sw_and (st_cmp hr.units .lt (se_slot 4) (se_int)) (sw_one_and (st_cmp hr.units .lt (se_slot 3) (se_int))))) (sss_cons (ss_asg (se_bin .add (se_bin .mul (se_int) (se_slot 3)) (se_call ⟨⟨_, _, _, F.f7.fn, F.f7.pl, F.f7.at_, F.f7.kp, F.f7.bd⟩⟩ hr (takes_of rfl rfl rfl rfl) (ses_cons (se_slot 0) (ses_cons (se_int) (ses_nil))) (hlen := (len_cons (len_cons (fun _ _ _ _ h => len_nil h)))))) (sg_name 5 sc14.nd)) (
  sss_cons (ss_asg (se_bin .add (se_int) (se_call ⟨⟨_, _, _, F.f7.fn, F.f7.pl, F.f7.at_, F.f7.kp, F.f7.bd⟩⟩ hr (takes_of rfl rfl rfl rfl) (ses_cons (se_slot 0) (ses_cons (se_int) (ses_nil))) (hlen := (len_cons (len_cons (fun _ _ _ _ h => len_nil h)))))) (sg_name 6 sc14.nd)) (
  sss_cons (ss_asg (se_call ⟨⟨_, _, _, F.f8.fn, F.f8.pl, F.f8.at_, F.f8.kp, F.f8.bd⟩⟩ hr (takes_of rfl rfl rfl rfl) (ses_cons (se_slot 0) (ses_cons (se_int) (ses_nil))) (hlen := (len_cons (len_cons (fun _ _ _ _ h => len_nil h))))) (sg_name 7 sc14.nd)) (
  sss_cons (ss_asg (se_ix (se_tup (ses_cons (se_int) (ses_cons (se_int) (ses_cons (se_int) (ses_cons (se_bin .sub (se_int) (se_int)) (ses_nil)))))) (se_call ⟨⟨_, _, _, F.f7.fn, F.f7.pl, F.f7.at_, F.f7.kp, F.f7.bd⟩⟩ hr (takes_of rfl rfl rfl rfl) (ses_cons (se_slot 0) (ses_cons (se_int) (ses_nil))) (hlen := (len_cons (len_cons (fun _ _ _ _ h => len_nil h)))))) (sg_name 8 sc14.nd)) (
  sss_cons (ss_asg (se_bin .add (se_slot 2) (se_lst (ses_cons (se_tup (ses_cons (se_slot 5) (ses_cons (se_lc [("k", 9)] rfl sc14.nd (si_range1 M.m_range (se_slot 6)) (blkOk_by (N := N14) (sc := defScope s14) (by decide +kernel)) (fun _ _ _ _ _ => sgw_name 9 sc14.nd) (fun _ _ _ _ _ => sif_nil) (fun _ _ _ _ _ => se_bin .add (se_slot 7) (se_bin .mul (se_slot 8) (se_slot 9)))) (ses_nil)))) (ses_nil)))) (sg_name 10 sc14.nd)) (
  sss_cons (ss_ret (se_tup (ses_cons (se_str) (ses_cons (se_slot 5) (ses_cons (se_slot 7) (ses_cons (se_slot 8) (ses_cons (se_slot 6) (ses_cons (se_call ⟨⟨_, _, _, F.f15.fn, F.f15.pl, F.f15.at_, F.f15.kp, F.f15.bd⟩⟩ hr (takes_of rfl rfl rfl rfl) (ses_cons (se_slot 0) (ses_cons (se_slot 1) (ses_cons (se_slot 10) (ses_cons (se_bin .add (se_slot 3) (se_int)) (ses_cons (se_bin .add (se_int) (se_call ⟨⟨_, _, _, F.f7.fn, F.f7.pl, F.f7.at_, F.f7.kp, F.f7.bd⟩⟩ hr (takes_of rfl rfl rfl rfl) (ses_cons (se_slot 0) (ses_cons (se_int) (ses_nil))) (hlen := (len_cons (len_cons (fun _ _ _ _ h => len_nil h)))))) (ses_nil)))))) (hlen := (len_cons (len_cons (len_cons (len_cons (len_cons (fun _ _ _ _ h => len_nil h)))))))) (ses_nil))))))))) (
  sss_nil))))))) (sss_nil)) (
  sss_cons (ss_if (st_w (sw_and (st_cmp hr.units .eq (se_slot 4) (se_int)) (sw_one_and (st_cmp hr.units .lt (se_slot 3) (se_int))))) (sss_cons (ss_ret (se_tup (ses_cons (se_str) (ses_cons (se_call ⟨⟨_, _, _, F.f10.fn, F.f10.pl, F.f10.at_, F.f10.kp, F.f10.bd⟩⟩ hr (takes_of rfl rfl rfl rfl) (ses_cons (se_slot 0) (ses_cons (se_slot 2) (ses_nil))) (hlen := (len_cons (len_cons (fun _ _ _ _ h => len_nil h))))) (ses_cons (se_call ⟨⟨_, _, _, F.f15.fn, F.f15.pl, F.f15.at_, F.f15.kp, F.f15.bd⟩⟩ hr (takes_of rfl rfl rfl rfl) (ses_cons (se_slot 0) (ses_cons (se_slot 1) (ses_cons (se_slot 2) (ses_cons (se_bin .add (se_slot 3) (se_int)) (ses_cons (se_bin .add (se_int) (se_call ⟨⟨_, _, _, F.f7.fn, F.f7.pl, F.f7.at_, F.f7.kp, F.f7.bd⟩⟩ hr (takes_of rfl rfl rfl rfl) (ses_cons (se_slot 0) (ses_cons (se_int) (ses_nil))) (hlen := (len_cons (len_cons (fun _ _ _ _ h => len_nil h)))))) (ses_nil)))))) (hlen := (len_cons (len_cons (len_cons (len_cons (len_cons (fun _ _ _ _ h => len_nil h)))))))) (ses_nil)))))) (
  sss_nil)) (sss_nil)) (
  sss_cons (ss_if (st_cmp hr.units .eq (se_slot 4) (se_int)) (sss_cons (ss_asg (se_call ⟨⟨_, _, _, F.f13.fn, F.f13.pl, F.f13.at_, F.f13.kp, F.f13.bd⟩⟩ hr (takes_of rfl rfl rfl rfl) (ses_cons (se_slot 0) (ses_cons (se_slot 1) (ses_cons (se_slot 2) (ses_nil)))) (hlen := (len_cons (len_cons (len_cons (fun _ _ _ _ h => len_nil h)))))) (sg_name 11 sc14.nd)) (
  sss_cons (ss_if (st_cmp hr.units .isNot (se_slot 11) (se_non)) (sss_cons (ss_ret (se_slot 11)) (
  sss_nil)) (sss_nil)) (
  sss_nil))) (sss_nil)) (
  sss_cons (ss_setLc 12 [("k", 9)] rfl sc14.nd (si_range1 M.m_range (se_biB .len bi_len M.m_len (by decide +kernel) (ses_cons (se_slot 1) (ses_nil)))) (blkOk_by (N := N14) (sc := defScope s14) (by decide +kernel)) (fun _ _ _ _ _ => sgw_name 9 sc14.nd) (fun _ _ _ _ _ => sif_one (st_cmp hr.units .ne (se_ix (se_ix (se_slot 1) (se_slot 9)) (se_int)) (se_str))) (fun _ _ _ _ _ => se_slot 9) (sw_true rfl rfl rfl (by decide +kernel))) (
  sss_cons (ss_asg (se_ix (se_slot 12) (se_call ⟨⟨_, _, _, F.f7.fn, F.f7.pl, F.f7.at_, F.f7.kp, F.f7.bd⟩⟩ hr (takes_of rfl rfl rfl rfl) (ses_cons (se_slot 0) (ses_cons (se_biB .len bi_len M.m_len (by decide +kernel) (ses_cons (se_slot 12) (ses_nil))) (ses_nil))) (hlen := (len_cons (len_cons (fun _ _ _ _ h => len_nil h)))))) (sg_name 9 sc14.nd)) (
  sss_cons (ss_ret (se_tup (ses_cons (se_str) (ses_cons (se_slot 9) (ses_cons (se_call ⟨⟨_, _, _, F.f9.fn, F.f9.pl, F.f9.at_, F.f9.kp, F.f9.bd⟩⟩ hr (takes_of rfl rfl rfl rfl) (ses_cons (se_slot 0) (ses_cons (se_slot 2) (ses_cons (se_ix (se_ix (se_slot 1) (se_slot 9)) (se_int)) (ses_nil)))) (hlen := (len_cons (len_cons (len_cons (fun _ _ _ _ h => len_nil h)))))) (ses_cons (se_call ⟨⟨_, _, _, F.f12.fn, F.f12.pl, F.f12.at_, F.f12.kp, F.f12.bd⟩⟩ hr (takes_of rfl rfl rfl rfl) (ses_cons (se_slot 0) (ses_cons (se_slot 1) (ses_cons (se_slot 2) (ses_cons (se_int) (ses_nil))))) (hlen := (len_cons (len_cons (len_cons (len_cons (fun _ _ _ _ h => len_nil h))))))) (ses_nil))))))) (
  sss_nil)))))))
theorem der15 {ad : Addr} {cdv : Value} {A : Around} {outer : List Env} {s : Shared} {H : Hp} {E : XK} (M : Mn mg) (F : Fs P w K mg base (Tk (clsOf []) k) k a0 d0 a1 d1 a2 d2 a3 d3 a4 d4 a5 d5 a6 d6 a7 d7 a8 d8 a9 d9 a10 d10 a11 d11 a12 d12 a13 d13 a14 d14 a15 d15 a16 d16 a17 d17 a18 d18 a19 d19) (hr : Room k (A.deeper (envOfC "_law_body" (defScope s15) s.heap.objs.size ad cdv))) :
    SSs (Tk (clsOf []) k) (cxOf (L2.CX P w) P w K mg base N15 "_law_body" (defScope s15) ad cdv A outer s H E) none (fun c d _ H => E c d H) (defBody s15) b15 :=
  sss_cons (ss_ret (se_biT .tuple bi_tuple M.m_tuple (by decide +kernel) (ses_cons (se_lc [("k", 5)] rfl sc15.nd (si_range1 M.m_range (se_slot 4)) (blkOk_by (N := N15) (sc := defScope s15) (by decide +kernel)) (fun _ _ _ _ _ => sgw_name 5 sc15.nd) (fun _ _ _ _ _ => sif_nil) (fun _ _ _ _ _ => se_call ⟨⟨_, _, _, F.f14.fn, F.f14.pl, F.f14.at_, F.f14.kp, F.f14.bd⟩⟩ hr takes0 (ses_cons (se_slot 0) (ses_cons (se_slot 1) (ses_cons (se_slot 2) (ses_cons (se_slot 3) (ses_nil))))) (hlen := (len_cons (len_cons (len_cons (len_cons (fun _ _ _ _ h => len_nil h)))))))) (ses_nil)))) (
  sss_nil)
theorem der16 {ad : Addr} {cdv : Value} {A : Around} {outer : List Env} {s : Shared} {H : Hp} {E : XK} (M : Mn mg) (F : Fs P w K mg base (Tk (clsOf []) k) k a0 d0 a1 d1 a2 d2 a3 d3 a4 d4 a5 d5 a6 d6 a7 d7 a8 d8 a9 d9 a10 d10 a11 d11 a12 d12 a13 d13 a14 d14 a15 d15 a16 d16 a17 d17 a18 d18 a19 d19) (hr : Room k (A.deeper (envOfC "_law_program" (defScope s16) s.heap.objs.size ad cdv))) :
    SSs (Tk (clsOf []) k) (cxOf (L2.CX P w) P w K mg base N16 "_law_program" (defScope s16) ad cdv A outer s H E) none (fun c d _ H => E c d H) (defBody s16) b16 :=
  sss_cons (ss_asg (se_lst (ses_cons (se_tup (ses_cons (se_str) (ses_cons (se_bin .add (se_int) (se_call ⟨⟨_, _, _, F.f7.fn, F.f7.pl, F.f7.at_, F.f7.kp, F.f7.bd⟩⟩ hr (takes_of rfl rfl rfl rfl) (ses_cons (se_slot 0) (ses_cons (se_int) (ses_nil))) (hlen := (len_cons (len_cons (fun _ _ _ _ h => len_nil h)))))) (ses_nil)))) (ses_cons (se_tup (ses_cons (se_str) (ses_cons (se_bin .add (se_int) (se_call ⟨⟨_, _, _, F.f7.fn, F.f7.pl, F.f7.at_, F.f7.kp, F.f7.bd⟩⟩ hr (takes_of rfl rfl rfl rfl) (ses_cons (se_slot 0) (ses_cons (se_int) (ses_nil))) (hlen := (len_cons (len_cons (fun _ _ _ _ h => len_nil h)))))) (ses_nil)))) (ses_nil)))) (sg_name 2 sc16.nd)) (
  sss_cons (ss_for (passes_of rfl) rfl (si_range1 M.m_range (se_call ⟨⟨_, _, _, F.f7.fn, F.f7.pl, F.f7.at_, F.f7.kp, F.f7.bd⟩⟩ hr (takes_of rfl rfl rfl rfl) (ses_cons (se_slot 0) (ses_cons (se_int) (ses_nil))) (hlen := (len_cons (len_cons (fun _ _ _ _ h => len_nil h)))))) (sg_name 3 sc16.nd) (sss_cons (ss_drop (se_append (se_slot 2) (se_tup (ses_cons (se_ix (se_tup (ses_cons (se_str) (ses_cons (se_str) (ses_cons (se_str) (ses_cons (se_str) (ses_nil)))))) (se_call ⟨⟨_, _, _, F.f7.fn, F.f7.pl, F.f7.at_, F.f7.kp, F.f7.bd⟩⟩ hr (takes_of rfl rfl rfl rfl) (ses_cons (se_slot 0) (ses_cons (se_int) (ses_nil))) (hlen := (len_cons (len_cons (fun _ _ _ _ h => len_nil h)))))) (ses_cons (se_bin .add (se_int) (se_call ⟨⟨_, _, _, F.f7.fn, F.f7.pl, F.f7.at_, F.f7.kp, F.f7.bd⟩⟩ hr (takes_of rfl rfl rfl rfl) (ses_cons (se_slot 0) (ses_cons (se_int) (ses_nil))) (hlen := (len_cons (len_cons (fun _ _ _ _ h => len_nil h)))))) (ses_nil)))))) (
  sss_nil))) (
  sss_cons (ss_asg (se_lst (ses_nil)) (sg_name 4 sc16.nd)) (
  sss_cons (ss_for (passes_of rfl) rfl (si_range1 M.m_range (se_biB .len bi_len M.m_len (by decide +kernel) (ses_cons (se_slot 2) (ses_nil)))) (sg_name 3 sc16.nd) (sss_cons (ss_if (st_w (sw_and (st_cmp hr.units .ne (se_ix (se_ix (se_slot 2) (se_slot 3)) (se_int)) (se_str)) (sw_one_and (st_val (se_slot 1))))) (sss_cons (ss_asg (se_tup (ses_cons (se_str) (ses_cons (se_slot 3) (ses_cons (se_tup (ses_cons (se_int) (ses_cons (se_tup (ses_cons (se_tup (ses_cons (se_int) (ses_cons (se_int) (ses_nil)))) (ses_nil))) (ses_nil)))) (ses_cons (se_tup (ses_cons (se_str) (ses_cons (se_tup (ses_cons (se_call ⟨⟨_, _, _, F.f8.fn, F.f8.pl, F.f8.at_, F.f8.kp, F.f8.bd⟩⟩ hr (takes_of rfl rfl rfl rfl) (ses_cons (se_slot 0) (ses_cons (se_int) (ses_nil))) (hlen := (len_cons (len_cons (fun _ _ _ _ h => len_nil h))))) (ses_cons (se_tup (ses_cons (se_tup (ses_cons (se_int) (ses_cons (se_int) (ses_nil)))) (ses_nil))) (ses_nil)))) (ses_nil)))) (ses_nil)))))) (sg_name 5 sc16.nd)) (
  sss_cons (ss_drop (se_append (se_slot 4) (se_tup (ses_cons (se_str) (ses_cons (se_int) (ses_cons (se_int) (ses_cons (se_int) (ses_cons (se_ix (se_ix (se_slot 2) (se_slot 3)) (se_int)) (ses_cons (se_tup (ses_cons (se_slot 5) (ses_nil))) (ses_nil)))))))))) (
  sss_nil))) (sss_nil)) (
  sss_nil))) (
  sss_cons (ss_asg (se_bin .add (se_slot 4) (se_biT .list bi_list M.m_list (by decide +kernel) (ses_cons (se_call ⟨⟨_, _, _, F.f15.fn, F.f15.pl, F.f15.at_, F.f15.kp, F.f15.bd⟩⟩ hr (takes_of rfl rfl rfl rfl) (ses_cons (se_slot 0) (ses_cons (se_slot 2) (ses_cons (se_lst (ses_nil)) (ses_cons (se_int) (ses_cons (se_bin .add (se_int) (se_call ⟨⟨_, _, _, F.f7.fn, F.f7.pl, F.f7.at_, F.f7.kp, F.f7.bd⟩⟩ hr (takes_of rfl rfl rfl rfl) (ses_cons (se_slot 0) (ses_cons (se_int) (ses_nil))) (hlen := (len_cons (len_cons (fun _ _ _ _ h => len_nil h)))))) (ses_nil)))))) (hlen := (len_cons (len_cons (len_cons (len_cons (len_cons (fun _ _ _ _ h => len_nil h)))))))) (ses_nil)))) (sg_name 4 sc16.nd)) (
  sss_cons (ss_ret (se_tup (ses_cons (se_biT .tuple bi_tuple M.m_tuple (by decide +kernel) (ses_cons (se_slot 2) (ses_nil))) (ses_cons (se_biT .tuple bi_tuple M.m_tuple (by decide +kernel) (ses_cons (se_slot 4) (ses_nil))) (ses_nil))))) (
  sss_nil))))))
theorem der17 {ad : Addr} {cdv : Value} {A : Around} {outer : List Env} {s : Shared} {H : Hp} {E : XK} (M : Mn mg) (F : Fs P w K mg base (Tk (clsOf []) k) k a0 d0 a1 d1 a2 d2 a3 d3 a4 d4 a5 d5 a6 d6 a7 d7 a8 d8 a9 d9 a10 d10 a11 d11 a12 d12 a13 d13 a14 d14 a15 d15 a16 d16 a17 d17 a18 d18 a19 d19) (hr : Room k (A.deeper (envOfC "_law_in_expr" (defScope s17) s.heap.objs.size ad cdv))) :
    SSs (Tk (clsOf []) k) (cxOf (L2.CX P w) P w K mg base N17 "_law_in_expr" (defScope s17) ad cdv A outer s H E) none (fun c d _ H => E c d H) (defBody s17) b17 :=
  sss_cons (ss_if (st_cmp hr.units .eq (se_ix (se_slot 0) (se_int)) (se_str)) (sss_cons (ss_ret (se_cmp hr.units .eq (se_ix (se_slot 0) (se_int)) (se_slot 1))) (
  sss_nil)) (sss_nil)) (
  sss_cons (ss_if (st_cmp hr.units .eq (se_ix (se_slot 0) (se_int)) (se_str)) (sss_cons (ss_ret (se_or (se_cmp hr.units .eq (se_ix (se_slot 0) (se_int)) (se_slot 1)) (se_one (se_call ⟨⟨_, _, _, F.f17.fn, F.f17.pl, F.f17.at_, F.f17.kp, F.f17.bd⟩⟩ hr (takes_of rfl rfl rfl rfl) (ses_cons (se_ix (se_slot 0) (se_int)) (ses_cons (se_slot 1) (ses_nil))) (hlen := (len_cons (len_cons (fun _ _ _ _ h => len_nil h)))))))) (
  sss_nil)) (sss_nil)) (
  sss_cons (ss_if (st_cmp hr.units .eq (se_ix (se_slot 0) (se_int)) (se_str)) (sss_cons (ss_ret (se_or (se_call ⟨⟨_, _, _, F.f17.fn, F.f17.pl, F.f17.at_, F.f17.kp, F.f17.bd⟩⟩ hr (takes_of rfl rfl rfl rfl) (ses_cons (se_ix (se_slot 0) (se_int)) (ses_cons (se_slot 1) (ses_nil))) (hlen := (len_cons (len_cons (fun _ _ _ _ h => len_nil h))))) (se_one (se_call ⟨⟨_, _, _, F.f17.fn, F.f17.pl, F.f17.at_, F.f17.kp, F.f17.bd⟩⟩ hr (takes_of rfl rfl rfl rfl) (ses_cons (se_ix (se_slot 0) (se_int)) (ses_cons (se_slot 1) (ses_nil))) (hlen := (len_cons (len_cons (fun _ _ _ _ h => len_nil h)))))))) (
  sss_nil)) (sss_nil)) (
  sss_cons (ss_ret (se_ife (st_cmp hr.units .eq (se_ix (se_slot 0) (se_int)) (se_str)) (se_biB .any (bi_any rfl) M.m_any (by decide +kernel) (ses_cons (se_lc [("kid", 2)] rfl sc17.nd (si_seq (se_ix (se_slot 0) (se_int))) (blkOk_by (N := N17) (sc := defScope s17) (by decide +kernel)) (fun _ _ _ _ _ => sgw_name 2 sc17.nd) (fun _ _ _ _ _ => sif_nil) (fun _ _ _ _ _ => se_call ⟨⟨_, _, _, F.f17.fn, F.f17.pl, F.f17.at_, F.f17.kp, F.f17.bd⟩⟩ hr takes0 (ses_cons (se_slot 2) (ses_cons (se_slot 1) (ses_nil))) (hlen := (len_cons (len_cons (fun _ _ _ _ h => len_nil h)))))) (ses_nil))) (se_bl))) (
  sss_nil))))
theorem der18 {ad : Addr} {cdv : Value} {A : Around} {outer : List Env} {s : Shared} {H : Hp} {E : XK} (M : Mn mg) (F : Fs P w K mg base (Tk (clsOf []) k) k a0 d0 a1 d1 a2 d2 a3 d3 a4 d4 a5 d5 a6 d6 a7 d7 a8 d8 a9 d9 a10 d10 a11 d11 a12 d12 a13 d13 a14 d14 a15 d15 a16 d16 a17 d17 a18 d18 a19 d19) (hr : Room k (A.deeper (envOfC "_law_in" (defScope s18) s.heap.objs.size ad cdv))) :
    SSs (Tk (clsOf []) k) (cxOf (L2.CX P w) P w K mg base N18 "_law_in" (defScope s18) ad cdv A outer s H E) none (fun c d _ H => E c d H) (defBody s18) b18 :=
  sss_cons (ss_if (st_cmp hr.units .«in» (se_ix (se_slot 0) (se_int)) (se_tup (ses_cons (se_str) (ses_cons (se_str) (ses_nil))))) (sss_cons (ss_ret (se_biB .any (bi_any rfl) M.m_any (by decide +kernel) (ses_cons (se_lc [("one", 2)] rfl sc18.nd (si_seq (se_ix (se_slot 0) (se_neg (se_int)))) (blkOk_by (N := N18) (sc := defScope s18) (by decide +kernel)) (fun _ _ _ _ _ => sgw_name 2 sc18.nd) (fun _ _ _ _ _ => sif_nil) (fun _ _ _ _ _ => se_call ⟨⟨_, _, _, F.f18.fn, F.f18.pl, F.f18.at_, F.f18.kp, F.f18.bd⟩⟩ hr takes0 (ses_cons (se_slot 2) (ses_cons (se_slot 1) (ses_nil))) (hlen := (len_cons (len_cons (fun _ _ _ _ h => len_nil h)))))) (ses_nil)))) (
  sss_nil)) (sss_nil)) (
  sss_cons (ss_if (st_cmp hr.units .eq (se_ix (se_slot 0) (se_int)) (se_str)) (sss_cons (ss_ret (se_or (se_cmp hr.units .eq (se_ix (se_slot 0) (se_int)) (se_slot 1)) (se_one (se_cmp hr.units .eq (se_ix (se_slot 0) (se_int)) (se_slot 1))))) (
  sss_nil)) (sss_nil)) (
  sss_cons (ss_ret (se_or (se_cmp hr.units .eq (se_ix (se_slot 0) (se_int)) (se_slot 1)) (se_one (se_call ⟨⟨_, _, _, F.f17.fn, F.f17.pl, F.f17.at_, F.f17.kp, F.f17.bd⟩⟩ hr (takes_of rfl rfl rfl rfl) (ses_cons (se_ix (se_slot 0) (se_int)) (ses_cons (se_slot 1) (ses_nil))) (hlen := (len_cons (len_cons (fun _ _ _ _ h => len_nil h)))))))) (
  sss_nil)))
theorem der19 {ad : Addr} {cdv : Value} {A : Around} {outer : List Env} {s : Shared} {H : Hp} {E : XK} (M : Mn mg) (F : Fs P w K mg base (Tk (clsOf []) k) k a0 d0 a1 d1 a2 d2 a3 d3 a4 d4 a5 d5 a6 d6 a7 d7 a8 d8 a9 d9 a10 d10 a11 d11 a12 d12 a13 d13 a14 d14 a15 d15 a16 d16 a17 d17 a18 d18 a19 d19) (hr : Room k (A.deeper (envOfC "law" (defScope s19) s.heap.objs.size ad cdv))) :
    SSs (Tk (clsOf []) k) (cxOf (L2.CX P w) P w K mg base N19 "law" (defScope s19) ad cdv A outer s H E) none (fun c d _ H => E c d H) (defBody s19) b19 :=
  sss_cons (ss_asg (se_call ⟨⟨_, _, _, F.f6.fn, F.f6.pl, F.f6.at_, F.f6.kp, F.f6.bd⟩⟩ hr (takes_of rfl rfl rfl rfl) (ses_cons (se_slot 0) (ses_nil)) (hlen := (len_cons (fun _ _ _ _ h => len_nil h)))) (sg_name 1 sc19.nd)) (
  sss_cons (ss_asg (se_call ⟨⟨_, _, _, F.f16.fn, F.f16.pl, F.f16.at_, F.f16.kp, F.f16.bd⟩⟩ hr (takes_of rfl rfl rfl rfl) (ses_cons (se_slot 1) (ses_cons (se_cmp hr.units .eq (se_call ⟨⟨_, _, _, F.f7.fn, F.f7.pl, F.f7.at_, F.f7.kp, F.f7.bd⟩⟩ hr (takes_of rfl rfl rfl rfl) (ses_cons (se_slot 1) (ses_cons (se_int) (ses_nil))) (hlen := (len_cons (len_cons (fun _ _ _ _ h => len_nil h))))) (se_int)) (ses_nil))) (hlen := (len_cons (len_cons (fun _ _ _ _ h => len_nil h))))) (sg_tup rfl (sgs_cons (sg_name 2 sc19.nd) (sgs_cons (sg_name 3 sc19.nd) (sgs_nil))) (lenT_cons (lenT_cons lenT_nil)))) (
  sss_cons (ss_asg (se_bin .add (se_slot 3) (se_call ⟨⟨_, _, _, F.f15.fn, F.f15.pl, F.f15.at_, F.f15.kp, F.f15.bd⟩⟩ hr (takes_of rfl rfl rfl rfl) (ses_cons (se_slot 1) (ses_cons (se_slot 2) (ses_cons (se_lst (ses_nil)) (ses_cons (se_int) (ses_cons (se_bin .add (se_int) (se_call ⟨⟨_, _, _, F.f7.fn, F.f7.pl, F.f7.at_, F.f7.kp, F.f7.bd⟩⟩ hr (takes_of rfl rfl rfl rfl) (ses_cons (se_slot 1) (ses_cons (se_int) (ses_nil))) (hlen := (len_cons (len_cons (fun _ _ _ _ h => len_nil h)))))) (ses_nil)))))) (hlen := (len_cons (len_cons (len_cons (len_cons (len_cons (fun _ _ _ _ h => len_nil h))))))))) (sg_name 3 sc19.nd)) (
  sss_cons (ss_asg (se_biT .tuple bi_tuple M.m_tuple (by decide +kernel) (ses_cons (se_lc [("k", 4)] rfl sc19.nd (si_range1 M.m_range (se_call ⟨⟨_, _, _, F.f7.fn, F.f7.pl, F.f7.at_, F.f7.kp, F.f7.bd⟩⟩ hr (takes_of rfl rfl rfl rfl) (ses_cons (se_slot 1) (ses_cons (se_int) (ses_nil))) (hlen := (len_cons (len_cons (fun _ _ _ _ h => len_nil h)))))) (blkOk_by (N := N19) (sc := defScope s19) (by decide +kernel)) (fun _ _ _ _ _ => sgw_name 4 sc19.nd) (fun _ _ _ _ _ => sif_nil) (fun _ _ _ _ _ => se_call ⟨⟨_, _, _, F.f7.fn, F.f7.pl, F.f7.at_, F.f7.kp, F.f7.bd⟩⟩ hr takes0 (ses_cons (se_slot 1) (ses_cons (se_biB .len bi_len M.m_len (by decide +kernel) (ses_cons (se_slot 2) (ses_nil))) (ses_nil))) (hlen := (len_cons (len_cons (fun _ _ _ _ h => len_nil h)))))) (ses_nil))) (sg_name 5 sc19.nd)) (
  sss_cons (ss_asg (se_lst (ses_nil)) (sg_name 6 sc19.nd)) (
  sss_cons (ss_for (passes_of rfl) rfl (si_range1 M.m_range (se_biB .len bi_len M.m_len (by decide +kernel) (ses_cons (se_slot 2) (ses_nil)))) (sg_name 4 sc19.nd) (sss_cons (ss_if (st_cmp hr.units .eq (se_ix (se_ix (se_slot 2) (se_slot 4)) (se_int)) (se_str)) (sss_cons (ss_setLc 7 [("t", 15)] rfl sc19.nd (si_range1 M.m_range (se_biB .len bi_len M.m_len (by decide +kernel) (ses_cons (se_slot 3) (ses_nil)))) (blkOk_by (N := N19) (sc := defScope s19) (by decide +kernel)) (fun _ _ _ _ _ => sgw_name 15 sc19.nd) (fun _ _ _ _ _ => sif_one (st_val (se_call ⟨⟨_, _, _, F.f18.fn, F.f18.pl, F.f18.at_, F.f18.kp, F.f18.bd⟩⟩ hr takes0 (ses_cons (se_ix (se_slot 3) (se_slot 15)) (ses_cons (se_slot 4) (ses_nil))) (hlen := (len_cons (len_cons (fun _ _ _ _ h => len_nil h))))))) (fun _ _ _ _ _ => se_slot 15) (sw_true rfl rfl rfl (by decide +kernel))) (
  sss_cons (ss_asg (se_ife (st_cmp hr.units .gt (se_biB .len bi_len M.m_len (by decide +kernel) (ses_cons (se_slot 7) (ses_nil))) (se_int)) (se_ix (se_slot 7) (se_int)) (se_int)) (sg_name 8 sc19.nd)) (
  sss_cons (ss_asg (se_ife (st_cmp hr.units .«in» (se_slot 4) (se_slot 5)) (se_biB .len bi_len M.m_len (by decide +kernel) (ses_cons (se_slot 3) (ses_nil))) (se_ife (st_cmp hr.units .gt (se_biB .len bi_len M.m_len (by decide +kernel) (ses_cons (se_slot 7) (ses_nil))) (se_int)) (se_ix (se_slot 7) (se_neg (se_int))) (se_int))) (sg_name 9 sc19.nd)) (
  sss_cons (ss_drop (se_append (se_slot 6) (se_tup (ses_cons (se_slot 8) (ses_cons (se_slot 9) (ses_nil)))))) (
  sss_nil))))) (sss_nil)) (
  sss_nil))) (
  sss_cons (ss_asg (se_call ⟨⟨_, _, _, F.f4.fn, F.f4.pl, F.f4.at_, F.f4.kp, F.f4.bd⟩⟩ hr (takes_of rfl rfl rfl rfl) (ses_cons (se_tup (ses_cons (se_slot 2) (ses_cons (se_slot 3) (ses_nil)))) (ses_cons (se_slot 5) (ses_nil))) (hlen := (len_cons (len_cons (fun _ _ _ _ h => len_nil h))))) (sg_name 10 sc19.nd)) (
  sss_cons (ss_if (st_w (sw_or (st_not (st_val (se_isi "tuple" M.m_isinstance M.m_tuple (by decide +kernel) (se_slot 10)))) (sw_one_or (st_cmp hr.units .ne (se_slot 10) (se_biT .tuple bi_tuple M.m_tuple (by decide +kernel) (ses_cons (se_slot 6) (ses_nil))))))) (sss_cons (ss_ret (se_bl)) (
  sss_nil)) (sss_nil)) (
  sss_cons (ss_for (passes_of rfl) rfl (si_range1 M.m_range (se_int)) (sg_name 11 sc19.nd) (sss_cons (ss_asg (se_tup (ses_cons (se_call ⟨⟨_, _, _, F.f7.fn, F.f7.pl, F.f7.at_, F.f7.kp, F.f7.bd⟩⟩ hr (takes_of rfl rfl rfl rfl) (ses_cons (se_slot 1) (ses_cons (se_int) (ses_nil))) (hlen := (len_cons (len_cons (fun _ _ _ _ h => len_nil h))))) (ses_cons (se_bin .add (se_int) (se_call ⟨⟨_, _, _, F.f7.fn, F.f7.pl, F.f7.at_, F.f7.kp, F.f7.bd⟩⟩ hr (takes_of rfl rfl rfl rfl) (ses_cons (se_slot 1) (ses_cons (se_int) (ses_nil))) (hlen := (len_cons (len_cons (fun _ _ _ _ h => len_nil h)))))) (ses_nil)))) (sg_name 12 sc19.nd)) (
  sss_cons (ss_asg (se_tup (ses_cons (se_call ⟨⟨_, _, _, F.f7.fn, F.f7.pl, F.f7.at_, F.f7.kp, F.f7.bd⟩⟩ hr (takes_of rfl rfl rfl rfl) (ses_cons (se_slot 1) (ses_cons (se_int) (ses_nil))) (hlen := (len_cons (len_cons (fun _ _ _ _ h => len_nil h))))) (ses_cons (se_bin .add (se_int) (se_call ⟨⟨_, _, _, F.f7.fn, F.f7.pl, F.f7.at_, F.f7.kp, F.f7.bd⟩⟩ hr (takes_of rfl rfl rfl rfl) (ses_cons (se_slot 1) (ses_cons (se_int) (ses_nil))) (hlen := (len_cons (len_cons (fun _ _ _ _ h => len_nil h)))))) (ses_nil)))) (sg_name 13 sc19.nd)) (
  sss_cons (ss_asg (se_call ⟨⟨_, _, _, F.f5.fn, F.f5.pl, F.f5.at_, F.f5.kp, F.f5.bd⟩⟩ hr (takes_of rfl rfl rfl rfl) (ses_cons (se_slot 12) (ses_cons (se_slot 13) (ses_nil))) (hlen := (len_cons (len_cons (fun _ _ _ _ h => len_nil h))))) (sg_name 14 sc19.nd)) (
  sss_cons (ss_if (st_w (sw_or (st_not (st_val (se_isi "bool" M.m_isinstance M.m_bool (by decide +kernel) (se_slot 14)))) (sw_one_or (st_cmp hr.units .ne (se_slot 14) (se_cmp hr.units .gt (se_biB .len bi_len M.m_len (by decide +kernel) (ses_cons (se_lc [("t", 15)] rfl sc19.nd (si_range2 M.m_range (se_ix (se_slot 12) (se_int)) (se_bin .add (se_ix (se_slot 12) (se_int)) (se_int))) (blkOk_by (N := N19) (sc := defScope s19) (by decide +kernel)) (fun _ _ _ _ _ => sgw_name 15 sc19.nd) (fun _ _ _ _ _ => sif_one (st_chain hr.units .le .le (se_ix (se_slot 13) (se_int)) (se_slot 15) (se_ix (se_slot 13) (se_int)))) (fun _ _ _ _ _ => se_slot 15)) (ses_nil))) (se_int)))))) (sss_cons (ss_ret (se_bl)) (
  sss_nil)) (sss_nil)) (
  sss_cons (ss_if (st_w (sw_or (st_cmp hr.units .ne (se_call ⟨⟨_, _, _, F.f5.fn, F.f5.pl, F.f5.at_, F.f5.kp, F.f5.bd⟩⟩ hr (takes_of rfl rfl rfl rfl) (ses_cons (se_slot 13) (ses_cons (se_slot 12) (ses_nil))) (hlen := (len_cons (len_cons (fun _ _ _ _ h => len_nil h))))) (se_slot 14)) (sw_one_or (st_not (st_val (se_call ⟨⟨_, _, _, F.f5.fn, F.f5.pl, F.f5.at_, F.f5.kp, F.f5.bd⟩⟩ hr (takes_of rfl rfl rfl rfl) (ses_cons (se_slot 12) (ses_cons (se_slot 12) (ses_nil))) (hlen := (len_cons (len_cons (fun _ _ _ _ h => len_nil h)))))))))) (sss_cons (ss_ret (se_bl)) (
  sss_nil)) (sss_nil)) (
  sss_nil))))))) (
  sss_cons (ss_ret (se_bl)) (
  sss_nil))))))))))
theorem all_fs (M : Mn mg) (F0 : Fun K "parts_of" "parts_of" s0 a0 d0) (g0 : mg "parts_of" = some (.ref a0)) (F1 : Fun K "body_of" "body_of" s1 a1 d1) (g1 : mg "body_of" = some (.ref a1)) (F2 : Fun K "note_expr" "note_expr" s2 a2 d2) (g2 : mg "note_expr" = some (.ref a2)) (F3 : Fun K "note_statement" "note_statement" s3 a3 d3) (g3 : mg "note_statement" = some (.ref a3)) (F4 : Fun K "lives" "lives" s4 a4 d4) (g4 : mg "lives" = some (.ref a4)) (F5 : Fun K "meet" "meet" s5 a5 d5) (g5 : mg "meet" = some (.ref a5)) (F6 : Fun K "_law_begin" "_law_begin" s6 a6 d6) (g6 : mg "_law_begin" = some (.ref a6)) (F7 : Fun K "_law_take" "_law_take" s7 a7 d7) (g7 : mg "_law_take" = some (.ref a7)) (F8 : Fun K "_law_signed" "_law_signed" s8 a8 d8) (g8 : mg "_law_signed" = some (.ref a8)) (F9 : Fun K "_law_form" "_law_form" s9 a9 d9) (g9 : mg "_law_form" = some (.ref a9)) (F10 : Fun K "_law_test" "_law_test" s10 a10 d10) (g10 : mg "_law_test" = some (.ref a10)) (F11 : Fun K "_law_point_info" "_law_point_info" s11 a11 d11) (g11 : mg "_law_point_info" = some (.ref a11)) (F12 : Fun K "_law_expr" "_law_expr" s12 a12 d12) (g12 : mg "_law_expr" = some (.ref a12)) (F13 : Fun K "_law_copy" "_law_copy" s13 a13 d13) (g13 : mg "_law_copy" = some (.ref a13)) (F14 : Fun K "_law_statement" "_law_statement" s14 a14 d14) (g14 : mg "_law_statement" = some (.ref a14)) (F15 : Fun K "_law_body" "_law_body" s15 a15 d15) (g15 : mg "_law_body" = some (.ref a15)) (F16 : Fun K "_law_program" "_law_program" s16 a16 d16) (g16 : mg "_law_program" = some (.ref a16)) (F17 : Fun K "_law_in_expr" "_law_in_expr" s17 a17 d17) (g17 : mg "_law_in_expr" = some (.ref a17)) (F18 : Fun K "_law_in" "_law_in" s18 a18 d18) (g18 : mg "_law_in" = some (.ref a18)) (F19 : Fun K "law" "law" s19 a19 d19) (g19 : mg "law" = some (.ref a19)) : ∀ k, Fs P w K mg base (Tk (clsOf []) k) k a0 d0 a1 d1 a2 d2 a3 d3 a4 d4 a5 d5 a6 d6 a7 d7 a8 d8 a9 d9 a10 d10 a11 d11 a12 d12 a13 d13 a14 d14 a15 d15 a16 d16 a17 d17 a18 d18 a19 d19
  | 0 => ⟨⟨fn_zero, rfl, g0, F0.kp, F0.binds (ps := ["expr"]) fun _ _ _ _ _ _ us hl => match us, hl with | [_], _ => rfl⟩, ⟨fn_zero, rfl, g1, F1.kp, F1.binds (ps := ["statement"]) fun _ _ _ _ _ _ us hl => match us, hl with | [_], _ => rfl⟩, ⟨fn_zero, rfl, g2, F2.kp, F2.binds (ps := ["expr", "used"]) fun _ _ _ _ _ _ us hl => match us, hl with | [_, _], _ => rfl⟩, ⟨fn_zero, rfl, g3, F3.kp, F3.binds (ps := ["statement", "used"]) fun _ _ _ _ _ _ us hl => match us, hl with | [_, _], _ => rfl⟩, ⟨fn_zero, rfl, g4, F4.kp, F4.binds (ps := ["program", "outs"]) fun _ _ _ _ _ _ us hl => match us, hl with | [_, _], _ => rfl⟩, ⟨fn_zero, rfl, g5, F5.kp, F5.binds (ps := ["one", "other"]) fun _ _ _ _ _ _ us hl => match us, hl with | [_, _], _ => rfl⟩, ⟨fn_zero, rfl, g6, F6.kp, F6.binds (ps := ["script"]) fun _ _ _ _ _ _ us hl => match us, hl with | [_], _ => rfl⟩, ⟨fn_zero, rfl, g7, F7.kp, F7.binds (ps := ["d", "many"]) fun _ _ _ _ _ _ us hl => match us, hl with | [_, _], _ => rfl⟩, ⟨fn_zero, rfl, g8, F8.kp, F8.binds (ps := ["d", "most"]) fun _ _ _ _ _ _ us hl => match us, hl with | [_, _], _ => rfl⟩, ⟨fn_zero, rfl, g9, F9.kp, F9.binds (ps := ["d", "env", "size"]) fun _ _ _ _ _ _ us hl => match us, hl with | [_, _, _], _ => rfl⟩, ⟨fn_zero, rfl, g10, F10.kp, F10.binds (ps := ["d", "env"]) fun _ _ _ _ _ _ us hl => match us, hl with | [_, _], _ => rfl⟩, ⟨fn_zero, rfl, g11, F11.kp, F11.binds (ps := ["d", "kind"]) fun _ _ _ _ _ _ us hl => match us, hl with | [_, _], _ => rfl⟩, ⟨fn_zero, rfl, g12, F12.kp, F12.binds (ps := ["d", "buffers", "env", "level"]) fun _ _ _ _ _ _ us hl => match us, hl with | [_, _, _, _], _ => rfl⟩, ⟨fn_zero, rfl, g13, F13.kp, F13.binds (ps := ["d", "buffers", "env"]) fun _ _ _ _ _ _ us hl => match us, hl with | [_, _, _], _ => rfl⟩, ⟨fn_zero, rfl, g14, F14.kp, F14.binds (ps := ["d", "buffers", "env", "depth"]) fun _ _ _ _ _ _ us hl => match us, hl with | [_, _, _, _], _ => rfl⟩, ⟨fn_zero, rfl, g15, F15.kp, F15.binds (ps := ["d", "buffers", "env", "depth", "many"]) fun _ _ _ _ _ _ us hl => match us, hl with | [_, _, _, _, _], _ => rfl⟩, ⟨fn_zero, rfl, g16, F16.kp, F16.binds (ps := ["d", "set_first"]) fun _ _ _ _ _ _ us hl => match us, hl with | [_, _], _ => rfl⟩, ⟨fn_zero, rfl, g17, F17.kp, F17.binds (ps := ["expr", "k"]) fun _ _ _ _ _ _ us hl => match us, hl with | [_, _], _ => rfl⟩, ⟨fn_zero, rfl, g18, F18.kp, F18.binds (ps := ["s", "k"]) fun _ _ _ _ _ _ us hl => match us, hl with | [_, _], _ => rfl⟩, ⟨fn_zero, rfl, g19, F19.kp, F19.binds (ps := ["script"]) fun _ _ _ _ _ _ us hl => match us, hl with | [_], _ => rfl⟩⟩
  | k + 1 => by
    have F := all_fs M F0 g0 F1 g1 F2 g2 F3 g3 F4 g4 F5 g5 F6 g6 F7 g7 F8 g8 F9 g9 F10 g10 F11 g11 F12 g12 F13 g13 F14 g14 F15 g15 F16 g16 F17 g17 F18 g18 F19 g19 k
    exact ⟨⟨fn_ok F0 sc0 rfl (by decide) (fun cdv A outer s H E hr => der0 M F hr), rfl, g0, F0.kp, F0.binds (ps := ["expr"]) fun _ _ _ _ _ _ us hl => match us, hl with | [_], _ => rfl⟩, ⟨fn_ok F1 sc1 rfl (by decide) (fun cdv A outer s H E hr => der1 M F hr), rfl, g1, F1.kp, F1.binds (ps := ["statement"]) fun _ _ _ _ _ _ us hl => match us, hl with | [_], _ => rfl⟩, ⟨fn_ok F2 sc2 rfl (by decide) (fun cdv A outer s H E hr => der2 M F hr), rfl, g2, F2.kp, F2.binds (ps := ["expr", "used"]) fun _ _ _ _ _ _ us hl => match us, hl with | [_, _], _ => rfl⟩, ⟨fn_ok F3 sc3 rfl (by decide) (fun cdv A outer s H E hr => der3 M F hr), rfl, g3, F3.kp, F3.binds (ps := ["statement", "used"]) fun _ _ _ _ _ _ us hl => match us, hl with | [_, _], _ => rfl⟩, ⟨fn_ok F4 sc4 rfl (by decide) (fun cdv A outer s H E hr => der4 M F hr), rfl, g4, F4.kp, F4.binds (ps := ["program", "outs"]) fun _ _ _ _ _ _ us hl => match us, hl with | [_, _], _ => rfl⟩, ⟨fn_ok F5 sc5 rfl (by decide) (fun cdv A outer s H E hr => der5 M F hr), rfl, g5, F5.kp, F5.binds (ps := ["one", "other"]) fun _ _ _ _ _ _ us hl => match us, hl with | [_, _], _ => rfl⟩, ⟨fn_ok F6 sc6 rfl (by decide) (fun cdv A outer s H E hr => der6 M F hr), rfl, g6, F6.kp, F6.binds (ps := ["script"]) fun _ _ _ _ _ _ us hl => match us, hl with | [_], _ => rfl⟩, ⟨fn_ok F7 sc7 rfl (by decide) (fun cdv A outer s H E hr => der7 M F hr), rfl, g7, F7.kp, F7.binds (ps := ["d", "many"]) fun _ _ _ _ _ _ us hl => match us, hl with | [_, _], _ => rfl⟩, ⟨fn_ok F8 sc8 rfl (by decide) (fun cdv A outer s H E hr => der8 M F hr), rfl, g8, F8.kp, F8.binds (ps := ["d", "most"]) fun _ _ _ _ _ _ us hl => match us, hl with | [_, _], _ => rfl⟩, ⟨fn_ok F9 sc9 rfl (by decide) (fun cdv A outer s H E hr => der9 M F hr), rfl, g9, F9.kp, F9.binds (ps := ["d", "env", "size"]) fun _ _ _ _ _ _ us hl => match us, hl with | [_, _, _], _ => rfl⟩, ⟨fn_ok F10 sc10 rfl (by decide) (fun cdv A outer s H E hr => der10 M F hr), rfl, g10, F10.kp, F10.binds (ps := ["d", "env"]) fun _ _ _ _ _ _ us hl => match us, hl with | [_, _], _ => rfl⟩, ⟨fn_ok F11 sc11 rfl (by decide) (fun cdv A outer s H E hr => der11 M F hr), rfl, g11, F11.kp, F11.binds (ps := ["d", "kind"]) fun _ _ _ _ _ _ us hl => match us, hl with | [_, _], _ => rfl⟩, ⟨fn_ok F12 sc12 rfl (by decide) (fun cdv A outer s H E hr => der12 M F hr), rfl, g12, F12.kp, F12.binds (ps := ["d", "buffers", "env", "level"]) fun _ _ _ _ _ _ us hl => match us, hl with | [_, _, _, _], _ => rfl⟩, ⟨fn_ok F13 sc13 rfl (by decide) (fun cdv A outer s H E hr => der13 M F hr), rfl, g13, F13.kp, F13.binds (ps := ["d", "buffers", "env"]) fun _ _ _ _ _ _ us hl => match us, hl with | [_, _, _], _ => rfl⟩, ⟨fn_ok F14 sc14 rfl (by decide) (fun cdv A outer s H E hr => der14 M F hr), rfl, g14, F14.kp, F14.binds (ps := ["d", "buffers", "env", "depth"]) fun _ _ _ _ _ _ us hl => match us, hl with | [_, _, _, _], _ => rfl⟩, ⟨fn_ok F15 sc15 rfl (by decide) (fun cdv A outer s H E hr => der15 M F hr), rfl, g15, F15.kp, F15.binds (ps := ["d", "buffers", "env", "depth", "many"]) fun _ _ _ _ _ _ us hl => match us, hl with | [_, _, _, _, _], _ => rfl⟩, ⟨fn_ok F16 sc16 rfl (by decide) (fun cdv A outer s H E hr => der16 M F hr), rfl, g16, F16.kp, F16.binds (ps := ["d", "set_first"]) fun _ _ _ _ _ _ us hl => match us, hl with | [_, _], _ => rfl⟩, ⟨fn_ok F17 sc17 rfl (by decide) (fun cdv A outer s H E hr => der17 M F hr), rfl, g17, F17.kp, F17.binds (ps := ["expr", "k"]) fun _ _ _ _ _ _ us hl => match us, hl with | [_, _], _ => rfl⟩, ⟨fn_ok F18 sc18 rfl (by decide) (fun cdv A outer s H E hr => der18 M F hr), rfl, g18, F18.kp, F18.binds (ps := ["s", "k"]) fun _ _ _ _ _ _ us hl => match us, hl with | [_, _], _ => rfl⟩, ⟨fn_ok F19 sc19 rfl (by decide) (fun cdv A outer s H E hr => der19 M F hr), rfl, g19, F19.kp, F19.binds (ps := ["script"]) fun _ _ _ _ _ _ us hl => match us, hl with | [_], _ => rfl⟩⟩
end
/-- the law from the run of the small machine -/
theorem end_of {l : PySem.W.OpenLaw} {w : World} {K : PySem.W.Frag} {h : Heap} {mg : Str → Option Value} {fa : Addr} (X : K.In h) (G : h.Ns mainGlobals mg) (hfa : mg "law" = some (.ref fa))
    {f0 : Addr} {oc0 kV0 dc0 pm0 cd0 ct0 : Value} {od0 an0 : Option Addr} {sl0 : Array (Option Value)}
    {f1 : Addr} {oc1 kV1 dc1 pm1 cd1 ct1 : Value} {od1 an1 : Option Addr} {sl1 : Array (Option Value)}
    {f2 : Addr} {oc2 kV2 dc2 pm2 cd2 ct2 : Value} {od2 an2 : Option Addr} {sl2 : Array (Option Value)}
    {f3 : Addr} {oc3 kV3 dc3 pm3 cd3 ct3 : Value} {od3 an3 : Option Addr} {sl3 : Array (Option Value)}
    {f4 : Addr} {oc4 kV4 dc4 pm4 cd4 ct4 : Value} {od4 an4 : Option Addr} {sl4 : Array (Option Value)}
    {f5 : Addr} {oc5 kV5 dc5 pm5 cd5 ct5 : Value} {od5 an5 : Option Addr} {sl5 : Array (Option Value)}
    {f6 : Addr} {oc6 kV6 dc6 pm6 cd6 ct6 : Value} {od6 an6 : Option Addr} {sl6 : Array (Option Value)}
    {f7 : Addr} {oc7 kV7 dc7 pm7 cd7 ct7 : Value} {od7 an7 : Option Addr} {sl7 : Array (Option Value)}
    {f8 : Addr} {oc8 kV8 dc8 pm8 cd8 ct8 : Value} {od8 an8 : Option Addr} {sl8 : Array (Option Value)}
    {f9 : Addr} {oc9 kV9 dc9 pm9 cd9 ct9 : Value} {od9 an9 : Option Addr} {sl9 : Array (Option Value)}
    {f10 : Addr} {oc10 kV10 dc10 pm10 cd10 ct10 : Value} {od10 an10 : Option Addr} {sl10 : Array (Option Value)}
    {f11 : Addr} {oc11 kV11 dc11 pm11 cd11 ct11 : Value} {od11 an11 : Option Addr} {sl11 : Array (Option Value)}
    {f12 : Addr} {oc12 kV12 dc12 pm12 cd12 ct12 : Value} {od12 an12 : Option Addr} {sl12 : Array (Option Value)}
    {f13 : Addr} {oc13 kV13 dc13 pm13 cd13 ct13 : Value} {od13 an13 : Option Addr} {sl13 : Array (Option Value)}
    {f14 : Addr} {oc14 kV14 dc14 pm14 cd14 ct14 : Value} {od14 an14 : Option Addr} {sl14 : Array (Option Value)}
    {f15 : Addr} {oc15 kV15 dc15 pm15 cd15 ct15 : Value} {od15 an15 : Option Addr} {sl15 : Array (Option Value)}
    {f16 : Addr} {oc16 kV16 dc16 pm16 cd16 ct16 : Value} {od16 an16 : Option Addr} {sl16 : Array (Option Value)}
    {f17 : Addr} {oc17 kV17 dc17 pm17 cd17 ct17 : Value} {od17 an17 : Option Addr} {sl17 : Array (Option Value)}
    {f18 : Addr} {oc18 kV18 dc18 pm18 cd18 ct18 : Value} {od18 an18 : Option Addr} {sl18 : Array (Option Value)}
    {f19 : Addr} {oc19 kV19 dc19 pm19 cd19 ct19 : Value} {od19 an19 : Option Addr} {sl19 : Array (Option Value)}
    (a0 : PySem.W.nsIn K mainGlobals "parts_of" = some (some (.ref f0))) (l0 : K.lookup f0 = some ⟨oc0, od0, .func (PySem.W.fnOf "parts_of" "parts_of" (defArgs s0) (defBody s0) (defScope s0) .none kV0 dc0 pm0 an0 cd0 ct0), sl0⟩) (c0 : PySem.W.codeIn K cd0 "parts_of" = true) (k0 : PySem.W.keepIn K (.ref f0) = true)
    (a1 : PySem.W.nsIn K mainGlobals "body_of" = some (some (.ref f1))) (l1 : K.lookup f1 = some ⟨oc1, od1, .func (PySem.W.fnOf "body_of" "body_of" (defArgs s1) (defBody s1) (defScope s1) .none kV1 dc1 pm1 an1 cd1 ct1), sl1⟩) (c1 : PySem.W.codeIn K cd1 "body_of" = true) (k1 : PySem.W.keepIn K (.ref f1) = true)
    (a2 : PySem.W.nsIn K mainGlobals "note_expr" = some (some (.ref f2))) (l2 : K.lookup f2 = some ⟨oc2, od2, .func (PySem.W.fnOf "note_expr" "note_expr" (defArgs s2) (defBody s2) (defScope s2) .none kV2 dc2 pm2 an2 cd2 ct2), sl2⟩) (c2 : PySem.W.codeIn K cd2 "note_expr" = true) (k2 : PySem.W.keepIn K (.ref f2) = true)
    (a3 : PySem.W.nsIn K mainGlobals "note_statement" = some (some (.ref f3))) (l3 : K.lookup f3 = some ⟨oc3, od3, .func (PySem.W.fnOf "note_statement" "note_statement" (defArgs s3) (defBody s3) (defScope s3) .none kV3 dc3 pm3 an3 cd3 ct3), sl3⟩) (c3 : PySem.W.codeIn K cd3 "note_statement" = true) (k3 : PySem.W.keepIn K (.ref f3) = true)
    (a4 : PySem.W.nsIn K mainGlobals "lives" = some (some (.ref f4))) (l4 : K.lookup f4 = some ⟨oc4, od4, .func (PySem.W.fnOf "lives" "lives" (defArgs s4) (defBody s4) (defScope s4) .none kV4 dc4 pm4 an4 cd4 ct4), sl4⟩) (c4 : PySem.W.codeIn K cd4 "lives" = true) (k4 : PySem.W.keepIn K (.ref f4) = true)
    (a5 : PySem.W.nsIn K mainGlobals "meet" = some (some (.ref f5))) (l5 : K.lookup f5 = some ⟨oc5, od5, .func (PySem.W.fnOf "meet" "meet" (defArgs s5) (defBody s5) (defScope s5) .none kV5 dc5 pm5 an5 cd5 ct5), sl5⟩) (c5 : PySem.W.codeIn K cd5 "meet" = true) (k5 : PySem.W.keepIn K (.ref f5) = true)
    (a6 : PySem.W.nsIn K mainGlobals "_law_begin" = some (some (.ref f6))) (l6 : K.lookup f6 = some ⟨oc6, od6, .func (PySem.W.fnOf "_law_begin" "_law_begin" (defArgs s6) (defBody s6) (defScope s6) .none kV6 dc6 pm6 an6 cd6 ct6), sl6⟩) (c6 : PySem.W.codeIn K cd6 "_law_begin" = true) (k6 : PySem.W.keepIn K (.ref f6) = true)
    (a7 : PySem.W.nsIn K mainGlobals "_law_take" = some (some (.ref f7))) (l7 : K.lookup f7 = some ⟨oc7, od7, .func (PySem.W.fnOf "_law_take" "_law_take" (defArgs s7) (defBody s7) (defScope s7) .none kV7 dc7 pm7 an7 cd7 ct7), sl7⟩) (c7 : PySem.W.codeIn K cd7 "_law_take" = true) (k7 : PySem.W.keepIn K (.ref f7) = true)
    (a8 : PySem.W.nsIn K mainGlobals "_law_signed" = some (some (.ref f8))) (l8 : K.lookup f8 = some ⟨oc8, od8, .func (PySem.W.fnOf "_law_signed" "_law_signed" (defArgs s8) (defBody s8) (defScope s8) .none kV8 dc8 pm8 an8 cd8 ct8), sl8⟩) (c8 : PySem.W.codeIn K cd8 "_law_signed" = true) (k8 : PySem.W.keepIn K (.ref f8) = true)
    (a9 : PySem.W.nsIn K mainGlobals "_law_form" = some (some (.ref f9))) (l9 : K.lookup f9 = some ⟨oc9, od9, .func (PySem.W.fnOf "_law_form" "_law_form" (defArgs s9) (defBody s9) (defScope s9) .none kV9 dc9 pm9 an9 cd9 ct9), sl9⟩) (c9 : PySem.W.codeIn K cd9 "_law_form" = true) (k9 : PySem.W.keepIn K (.ref f9) = true)
    (a10 : PySem.W.nsIn K mainGlobals "_law_test" = some (some (.ref f10))) (l10 : K.lookup f10 = some ⟨oc10, od10, .func (PySem.W.fnOf "_law_test" "_law_test" (defArgs s10) (defBody s10) (defScope s10) .none kV10 dc10 pm10 an10 cd10 ct10), sl10⟩) (c10 : PySem.W.codeIn K cd10 "_law_test" = true) (k10 : PySem.W.keepIn K (.ref f10) = true)
    (a11 : PySem.W.nsIn K mainGlobals "_law_point_info" = some (some (.ref f11))) (l11 : K.lookup f11 = some ⟨oc11, od11, .func (PySem.W.fnOf "_law_point_info" "_law_point_info" (defArgs s11) (defBody s11) (defScope s11) .none kV11 dc11 pm11 an11 cd11 ct11), sl11⟩) (c11 : PySem.W.codeIn K cd11 "_law_point_info" = true) (k11 : PySem.W.keepIn K (.ref f11) = true)
    (a12 : PySem.W.nsIn K mainGlobals "_law_expr" = some (some (.ref f12))) (l12 : K.lookup f12 = some ⟨oc12, od12, .func (PySem.W.fnOf "_law_expr" "_law_expr" (defArgs s12) (defBody s12) (defScope s12) .none kV12 dc12 pm12 an12 cd12 ct12), sl12⟩) (c12 : PySem.W.codeIn K cd12 "_law_expr" = true) (k12 : PySem.W.keepIn K (.ref f12) = true)
    (a13 : PySem.W.nsIn K mainGlobals "_law_copy" = some (some (.ref f13))) (l13 : K.lookup f13 = some ⟨oc13, od13, .func (PySem.W.fnOf "_law_copy" "_law_copy" (defArgs s13) (defBody s13) (defScope s13) .none kV13 dc13 pm13 an13 cd13 ct13), sl13⟩) (c13 : PySem.W.codeIn K cd13 "_law_copy" = true) (k13 : PySem.W.keepIn K (.ref f13) = true)
    (a14 : PySem.W.nsIn K mainGlobals "_law_statement" = some (some (.ref f14))) (l14 : K.lookup f14 = some ⟨oc14, od14, .func (PySem.W.fnOf "_law_statement" "_law_statement" (defArgs s14) (defBody s14) (defScope s14) .none kV14 dc14 pm14 an14 cd14 ct14), sl14⟩) (c14 : PySem.W.codeIn K cd14 "_law_statement" = true) (k14 : PySem.W.keepIn K (.ref f14) = true)
    (a15 : PySem.W.nsIn K mainGlobals "_law_body" = some (some (.ref f15))) (l15 : K.lookup f15 = some ⟨oc15, od15, .func (PySem.W.fnOf "_law_body" "_law_body" (defArgs s15) (defBody s15) (defScope s15) .none kV15 dc15 pm15 an15 cd15 ct15), sl15⟩) (c15 : PySem.W.codeIn K cd15 "_law_body" = true) (k15 : PySem.W.keepIn K (.ref f15) = true)
    (a16 : PySem.W.nsIn K mainGlobals "_law_program" = some (some (.ref f16))) (l16 : K.lookup f16 = some ⟨oc16, od16, .func (PySem.W.fnOf "_law_program" "_law_program" (defArgs s16) (defBody s16) (defScope s16) .none kV16 dc16 pm16 an16 cd16 ct16), sl16⟩) (c16 : PySem.W.codeIn K cd16 "_law_program" = true) (k16 : PySem.W.keepIn K (.ref f16) = true)
    (a17 : PySem.W.nsIn K mainGlobals "_law_in_expr" = some (some (.ref f17))) (l17 : K.lookup f17 = some ⟨oc17, od17, .func (PySem.W.fnOf "_law_in_expr" "_law_in_expr" (defArgs s17) (defBody s17) (defScope s17) .none kV17 dc17 pm17 an17 cd17 ct17), sl17⟩) (c17 : PySem.W.codeIn K cd17 "_law_in_expr" = true) (k17 : PySem.W.keepIn K (.ref f17) = true)
    (a18 : PySem.W.nsIn K mainGlobals "_law_in" = some (some (.ref f18))) (l18 : K.lookup f18 = some ⟨oc18, od18, .func (PySem.W.fnOf "_law_in" "_law_in" (defArgs s18) (defBody s18) (defScope s18) .none kV18 dc18 pm18 an18 cd18 ct18), sl18⟩) (c18 : PySem.W.codeIn K cd18 "_law_in" = true) (k18 : PySem.W.keepIn K (.ref f18) = true)
    (a19 : PySem.W.nsIn K mainGlobals "law" = some (some (.ref f19))) (l19 : K.lookup f19 = some ⟨oc19, od19, .func (PySem.W.fnOf "law" "law" (defArgs s19) (defBody s19) (defScope s19) .none kV19 dc19 pm19 an19 cd19 ct19), sl19⟩) (c19 : PySem.W.codeIn K cd19 "law" = true) (k19 : PySem.W.keepIn K (.ref f19) = true)
    (z_abs : PySem.W.nsIn K mainGlobals "abs" = some none)
    (z_any : PySem.W.nsIn K mainGlobals "any" = some none)
    (z_bool : PySem.W.nsIn K mainGlobals "bool" = some none)
    (z_enumerate : PySem.W.nsIn K mainGlobals "enumerate" = some none)
    (z_int : PySem.W.nsIn K mainGlobals "int" = some none)
    (z_isinstance : PySem.W.nsIn K mainGlobals "isinstance" = some none)
    (z_len : PySem.W.nsIn K mainGlobals "len" = some none)
    (z_list : PySem.W.nsIn K mainGlobals "list" = some none)
    (z_max : PySem.W.nsIn K mainGlobals "max" = some none)
    (z_min : PySem.W.nsIn K mainGlobals "min" = some none)
    (z_range : PySem.W.nsIn K mainGlobals "range" = some none)
    (z_tuple : PySem.W.nsIn K mainGlobals "tuple" = some none)
    : ∃ fd : FuncData, (∀ (s : Shared) (v : Value), BindsTo s fd ⟨[v], []⟩ [("script", v)]) ∧ ∀ base : Heap, K.In base → base.Ns mainGlobals mg → FnOk l.prog w K mg base (L2.CX l.prog w) 60 fa fd ["script"] (spO (callAt Dt Gt subt 60) K 19 1) := by
  have e := hfa.symm.trans (PySem.W.mg_of X G a19)
  cases e
  have F0 := fun_mk (st := s0) l0 c0 k0
  have F1 := fun_mk (st := s1) l1 c1 k1
  have F2 := fun_mk (st := s2) l2 c2 k2
  have F3 := fun_mk (st := s3) l3 c3 k3
  have F4 := fun_mk (st := s4) l4 c4 k4
  have F5 := fun_mk (st := s5) l5 c5 k5
  have F6 := fun_mk (st := s6) l6 c6 k6
  have F7 := fun_mk (st := s7) l7 c7 k7
  have F8 := fun_mk (st := s8) l8 c8 k8
  have F9 := fun_mk (st := s9) l9 c9 k9
  have F10 := fun_mk (st := s10) l10 c10 k10
  have F11 := fun_mk (st := s11) l11 c11 k11
  have F12 := fun_mk (st := s12) l12 c12 k12
  have F13 := fun_mk (st := s13) l13 c13 k13
  have F14 := fun_mk (st := s14) l14 c14 k14
  have F15 := fun_mk (st := s15) l15 c15 k15
  have F16 := fun_mk (st := s16) l16 c16 k16
  have F17 := fun_mk (st := s17) l17 c17 k17
  have F18 := fun_mk (st := s18) l18 c18 k18
  have F19 := fun_mk (st := s19) l19 c19 k19
  refine ⟨PySem.W.fnOf "law" "law" (defArgs s19) (defBody s19) (defScope s19) .none kV19 dc19 pm19 an19 cd19 ct19, fun s v => .of_eq rfl, fun base _ _ => ?_⟩
  have M : Mn mg := ⟨PySem.W.mg_none_of X G z_abs, PySem.W.mg_none_of X G z_any, PySem.W.mg_none_of X G z_bool, PySem.W.mg_none_of X G z_enumerate, PySem.W.mg_none_of X G z_int, PySem.W.mg_none_of X G z_isinstance, PySem.W.mg_none_of X G z_len, PySem.W.mg_none_of X G z_list, PySem.W.mg_none_of X G z_max, PySem.W.mg_none_of X G z_min, PySem.W.mg_none_of X G z_range, PySem.W.mg_none_of X G z_tuple⟩
  have F := all_fs (P := l.prog) (w := w) (base := base) M F0 (PySem.W.mg_of X G a0) F1 (PySem.W.mg_of X G a1) F2 (PySem.W.mg_of X G a2) F3 (PySem.W.mg_of X G a3) F4 (PySem.W.mg_of X G a4) F5 (PySem.W.mg_of X G a5) F6 (PySem.W.mg_of X G a6) F7 (PySem.W.mg_of X G a7) F8 (PySem.W.mg_of X G a8) F9 (PySem.W.mg_of X G a9) F10 (PySem.W.mg_of X G a10) F11 (PySem.W.mg_of X G a11) F12 (PySem.W.mg_of X G a12) F13 (PySem.W.mg_of X G a13) F14 (PySem.W.mg_of X G a14) F15 (PySem.W.mg_of X G a15) F16 (PySem.W.mg_of X G a16) F17 (PySem.W.mg_of X G a17) F18 (PySem.W.mg_of X G a18) F19 (PySem.W.mg_of X G a19) 60
  exact F.f19.fn.imp (spO_spC (T := Tk (clsOf []) 60))
end Lw
end PtLk42D
section PtLk42M
set_option Elab.async false
set_option linter.all false
set_option maxRecDepth 100000
namespace Lw
open PySem Ip
/-- the reader of a script stands at d -/
def Dr (s : Store) (d : Nat) : Prop := ∃ l ns i cur seed, s[d]? = some (.lst [.ref l, .int i, .int cur, .int seed]) ∧ s[l]? = some (.lst (List.map DV.int ns)) ∧ 0 ≤ i ∧ 0 ≤ cur ∧ l < d
theorem get4_0 {α : Type} {a b c d : α} : [a, b, c, d][0]? = some a := rfl
theorem get4_1 {α : Type} {a b c d : α} : [a, b, c, d][1]? = some b := rfl
theorem get4_2 {α : Type} {a b c d : α} : [a, b, c, d][2]? = some c := rfl
theorem get4_3 {α : Type} {a b c d : α} : [a, b, c, d][3]? = some d := rfl
theorem call_take {k a b s} : callAt Dt Gt subt (k + 1) 7 [a, b] s = (evSs (callAt Dt Gt subt k) Gt subt b7 [some a, some b, none, none] s).fin := rfl
theorem set_two {s : Store} {n : Nat} {a b : Cell} : (s.set n a).set n b = s.set n b := List.set_set a
section
variable {k : Nat} {s : Store} {d l : Nat} {ns : List Int} {i cur seed many : Int}
theorem take_C (hd : s[d]? = some (.lst [.ref l, .int i, .int 0, .int seed])) (hl : s[l]? = some (.lst (List.map DV.int ns))) (hi : ¬ i < ns.length) (hm : 0 < many) :
    callAt Dt Gt subt (k + 1) 7 [.ref d, .int many] s = .ok (.int ((seed * 48271 + 11) % 2147483647 / 3 % many)) (s.set d (.lst [.ref l, .int i, .int 0, .int ((seed * 48271 + 11) % 2147483647)])) := by
  have c0 := cellL_of hd
  have c1 := cellL_of hl
  have e1 : decide (i < ((List.map DV.int ns).length : Int)) = false := by rw [List.length_map]; exact decide_eq_false hi
  have e2 := mulOk_r (i := seed) (j := 48271) (by decide)
  have d1 : ∀ c, cellL (s.set d (.lst c)) d = some c := fun c => cellL_of (get_set hd)
  simp -implicitDefEqProofs -dsimp only [↓bind_K, ↓out_K, ↓then_K, ↓optR_K, ↓cond_K, ↓forL_K, ↓lcL_K, ↓whileL_K, ↓catch_K, ↓catchK_nx, ↓catchK_rt, ↓catchK_exc, unset_rt, hush_rt, hush_nx, hush_ct, fin_exc, ↓bindK_ok, ↓outK_ok, ↓bindK_exc, ↓outK_exc, ↓thenK_nx, ↓thenK_rt, ↓thenK_exc, ↓thenK_bk, ↓thenK_ct, ↓optRK_some, ↓quiet_ok, ↓condK_t, ↓condK_f, ↓truth_bl, qE_slot, qE_isx, qE_k, qE_glob, qE_bin, qE_neg, qE_not, qE_and, qE_or, qE_cmp, qE_chain, qE_ife, qE_ix, qE_slc, qE_rev, qE_tup, qE_lst, qE_call, qE_bi, qE_isi, qE_meth, qE_lc, qE_smeth, qE_get2, qE_setd, qE_dnew, qEs_nil, qEs_cons, qAll_nil, qAll_cons, qO_no, qO_some, qI_seq, qI_range1, qI_range2, qI_range3, qI_zip, qI_enum, qI_rev, qT_name, qT_tup, qT_sub, qTs_nil, qTs_cons, qS_asg, qS_par, qS_aug, qS_ife, qS_for, qS_forD, qS_while, qS_ret, qS_retN, qS_drop, qS_pass, qS_brk, qS_cont, qS_raise, qS_try, qS_pick, qSs_nil, qSs_cons, dv_int, dv_bl, dv_str, dv_non, List.getElem?_cons_zero, List.getElem?_cons_succ, List.set_cons_zero, List.set_cons_succ, List.length_cons, List.length_nil, Nat.reduceAdd, Nat.reduceLT, if_true, fin_rt, fin_nx, at_0, at_1, at_2, at_3, itemV_ref, itemV_tup, cmp_eq_int, cmp_ne_int, cmp_lt_int, cmp_le_int, cmp_gt_int, cmp_ge_int, bin_add, bin_sub, bi_int_int, call_take, b7, c0, c1, beq_self_eq_true, biV, e1, bin_mul e2, bin_mod (show (0 : Int) < 2147483647 by decide), bin_mod hm, bin_fdiv (show (0 : Int) < 3 by decide) (by decide), (setV_4 hd).2.2, d1, show decide ((0 : Int) < 0) = false from rfl]
theorem take_B (hd : s[d]? = some (.lst [.ref l, .int i, .int cur, .int seed])) (hc : 0 < cur) (hm : 0 < many) (hb : many.natAbs.log2 < 9000) :
    callAt Dt Gt subt (k + 1) 7 [.ref d, .int many] s = .ok (.int (cur % many)) (s.set d (.lst [.ref l, .int i, .int (cur / many), .int seed])) := by
  have c0 := cellL_of hd
  have e1 : (cur == 0) = false := beq_eq_false_iff_ne.mpr (by omega)
  have e2 : decide (0 < cur) = true := decide_eq_true hc
  simp -implicitDefEqProofs -dsimp only [↓bind_K, ↓out_K, ↓then_K, ↓optR_K, ↓cond_K, ↓forL_K, ↓lcL_K, ↓whileL_K, ↓catch_K, ↓catchK_nx, ↓catchK_rt, ↓catchK_exc, unset_rt, hush_rt, hush_nx, hush_ct, fin_exc, ↓bindK_ok, ↓outK_ok, ↓bindK_exc, ↓outK_exc, ↓thenK_nx, ↓thenK_rt, ↓thenK_exc, ↓thenK_bk, ↓thenK_ct, ↓optRK_some, ↓quiet_ok, ↓condK_t, ↓condK_f, ↓truth_bl, qE_slot, qE_isx, qE_k, qE_glob, qE_bin, qE_neg, qE_not, qE_and, qE_or, qE_cmp, qE_chain, qE_ife, qE_ix, qE_slc, qE_rev, qE_tup, qE_lst, qE_call, qE_bi, qE_isi, qE_meth, qE_lc, qE_smeth, qE_get2, qE_setd, qE_dnew, qEs_nil, qEs_cons, qAll_nil, qAll_cons, qO_no, qO_some, qI_seq, qI_range1, qI_range2, qI_range3, qI_zip, qI_enum, qI_rev, qT_name, qT_tup, qT_sub, qTs_nil, qTs_cons, qS_asg, qS_par, qS_aug, qS_ife, qS_for, qS_forD, qS_while, qS_ret, qS_retN, qS_drop, qS_pass, qS_brk, qS_cont, qS_raise, qS_try, qS_pick, qSs_nil, qSs_cons, dv_int, dv_bl, dv_str, dv_non, List.getElem?_cons_zero, List.getElem?_cons_succ, List.set_cons_zero, List.set_cons_succ, List.length_cons, List.length_nil, Nat.reduceAdd, Nat.reduceLT, if_true, fin_rt, fin_nx, at_0, at_1, at_2, at_3, itemV_ref, itemV_tup, cmp_eq_int, cmp_ne_int, cmp_lt_int, cmp_le_int, cmp_gt_int, cmp_ge_int, bin_add, bin_sub, bi_int_int, call_take, b7, c0, biV, e1, e2, bin_mod hm, bin_fdiv hm hb, (setV_4 hd).2.1]
theorem pow18 {s : Store} : binV .pow (.int 10) (.int 18) s = .ok (.int 1000000000000000000) s := by
  simp only [binV, binI]
  rw [if_pos (by decide)]
  rfl
theorem atI_ints {j : Nat} {v : Int} (h : ns[j]? = some v) : L2.atI (List.map DV.int ns) (j : Int) = some (.int v) := by
  refine L2.atI_nat ?_
  rw [List.getElem?_map, h]
  rfl
theorem take_A (hd : s[d]? = some (.lst [.ref l, .int i, .int 0, .int seed])) (hl : s[l]? = some (.lst (List.map DV.int ns))) (hne : l ≠ d) {j : Nat} {v : Int} (hj : ns[j]? = some v) (hi : i = (j : Int)) (hm : 0 < many) (hb : many.natAbs.log2 < 9000) :
    ∃ r c, callAt Dt Gt subt (k + 1) 7 [.ref d, .int many] s = .ok (.int r) (s.set d (.lst [.ref l, .int (i + 1), .int c, .int seed])) ∧ 0 ≤ r ∧ r < many ∧ 0 ≤ c := by
  have c0 := cellL_of hd
  have c1 := cellL_of hl
  have hlt := lt_of_get hj
  have e1 : decide (i < ((List.map DV.int ns).length : Int)) = true := by rw [List.length_map]; exact decide_eq_true (by omega)
  have d1 : ∀ c, cellL (s.set d (.lst c)) d = some c := fun c => cellL_of (get_set hd)
  have g1 : ∀ c, (s.set d (.lst c))[d]? = some (.lst c) := fun c => get_set hd
  have a1 : L2.atI (List.map DV.int ns) i = some (.int v) := by rw [hi]; exact atI_ints hj
  obtain ⟨x, ex⟩ : ∃ x, x = (if v < 0 then -v else v) := ⟨_, rfl⟩
  have v0 : 0 ≤ x := by rw [ex]; split <;> omega
  have ab : ∀ s, biV .abs [.int v] s = .ok (.int x) s := fun _ => by rw [ex]; rfl
  have s1 := (setV_4 (v := .int x) hd).2.1
  have s2 := (setV_4 (v := .int (i + 1)) (g1 [.ref l, .int i, .int x, .int seed])).1
  have s3 : setV (.ref d) (.int 2) (.int 0) (s.set d (.lst [.ref l, .int (i + 1), .int x, .int seed])) = some (s.set d (.lst [.ref l, .int (i + 1), .int 0, .int seed])) := by rw [(setV_4 (g1 _)).2.1, set_two]
  have s4 : setV (.ref d) (.int 2) (.int (x / many)) (s.set d (.lst [.ref l, .int (i + 1), .int x, .int seed])) = some (s.set d (.lst [.ref l, .int (i + 1), .int (x / many), .int seed])) := by rw [(setV_4 (g1 _)).2.1, set_two]
  rw [set_two] at s2
  clear ex
  by_cases hx : x < 1000000000000000000
  · have e2 : decide (x < 1000000000000000000) = true := decide_eq_true hx
    refine ⟨x % many, 0, ?_, Int.emod_nonneg _ (by omega), Int.emod_lt_of_pos _ hm, Int.le_refl 0⟩
    simp -implicitDefEqProofs -dsimp only [↓bind_K, ↓out_K, ↓then_K, ↓optR_K, ↓cond_K, ↓forL_K, ↓lcL_K, ↓whileL_K, ↓catch_K, ↓catchK_nx, ↓catchK_rt, ↓catchK_exc, unset_rt, hush_rt, hush_nx, hush_ct, fin_exc, ↓bindK_ok, ↓outK_ok, ↓bindK_exc, ↓outK_exc, ↓thenK_nx, ↓thenK_rt, ↓thenK_exc, ↓thenK_bk, ↓thenK_ct, ↓optRK_some, ↓quiet_ok, ↓condK_t, ↓condK_f, ↓truth_bl, qE_slot, qE_isx, qE_k, qE_glob, qE_bin, qE_neg, qE_not, qE_and, qE_or, qE_cmp, qE_chain, qE_ife, qE_ix, qE_slc, qE_rev, qE_tup, qE_lst, qE_call, qE_bi, qE_isi, qE_meth, qE_lc, qE_smeth, qE_get2, qE_setd, qE_dnew, qEs_nil, qEs_cons, qAll_nil, qAll_cons, qO_no, qO_some, qI_seq, qI_range1, qI_range2, qI_range3, qI_zip, qI_enum, qI_rev, qT_name, qT_tup, qT_sub, qTs_nil, qTs_cons, qS_asg, qS_par, qS_aug, qS_ife, qS_for, qS_forD, qS_while, qS_ret, qS_retN, qS_drop, qS_pass, qS_brk, qS_cont, qS_raise, qS_try, qS_pick, qSs_nil, qSs_cons, dv_int, dv_bl, dv_str, dv_non, List.getElem?_cons_zero, List.getElem?_cons_succ, List.set_cons_zero, List.set_cons_succ, List.length_cons, List.length_nil, Nat.reduceAdd, Nat.reduceLT, if_true, fin_rt, fin_nx, at_0, at_1, at_2, at_3, itemV_ref, itemV_tup, cmp_eq_int, cmp_ne_int, cmp_lt_int, cmp_le_int, cmp_gt_int, cmp_ge_int, bin_add, bin_sub, bi_int_int, call_take, b7, c0, c1, len_ref c1, a1, ab, e1, e2, pow18, beq_self_eq_true, bin_mod hm, s1, s2, s3, d1]
  · have e2 : decide (x < 1000000000000000000) = false := decide_eq_false hx
    have e3 : decide (0 < x) = true := decide_eq_true (by omega)
    refine ⟨x % many, x / many, ?_, Int.emod_nonneg _ (by omega), Int.emod_lt_of_pos _ hm, Int.ediv_nonneg v0 (by omega)⟩
    simp -implicitDefEqProofs -dsimp only [↓bind_K, ↓out_K, ↓then_K, ↓optR_K, ↓cond_K, ↓forL_K, ↓lcL_K, ↓whileL_K, ↓catch_K, ↓catchK_nx, ↓catchK_rt, ↓catchK_exc, unset_rt, hush_rt, hush_nx, hush_ct, fin_exc, ↓bindK_ok, ↓outK_ok, ↓bindK_exc, ↓outK_exc, ↓thenK_nx, ↓thenK_rt, ↓thenK_exc, ↓thenK_bk, ↓thenK_ct, ↓optRK_some, ↓quiet_ok, ↓condK_t, ↓condK_f, ↓truth_bl, qE_slot, qE_isx, qE_k, qE_glob, qE_bin, qE_neg, qE_not, qE_and, qE_or, qE_cmp, qE_chain, qE_ife, qE_ix, qE_slc, qE_rev, qE_tup, qE_lst, qE_call, qE_bi, qE_isi, qE_meth, qE_lc, qE_smeth, qE_get2, qE_setd, qE_dnew, qEs_nil, qEs_cons, qAll_nil, qAll_cons, qO_no, qO_some, qI_seq, qI_range1, qI_range2, qI_range3, qI_zip, qI_enum, qI_rev, qT_name, qT_tup, qT_sub, qTs_nil, qTs_cons, qS_asg, qS_par, qS_aug, qS_ife, qS_for, qS_forD, qS_while, qS_ret, qS_retN, qS_drop, qS_pass, qS_brk, qS_cont, qS_raise, qS_try, qS_pick, qSs_nil, qSs_cons, dv_int, dv_bl, dv_str, dv_non, List.getElem?_cons_zero, List.getElem?_cons_succ, List.set_cons_zero, List.set_cons_succ, List.length_cons, List.length_nil, Nat.reduceAdd, Nat.reduceLT, if_true, fin_rt, fin_nx, at_0, at_1, at_2, at_3, itemV_ref, itemV_tup, cmp_eq_int, cmp_ne_int, cmp_lt_int, cmp_le_int, cmp_gt_int, cmp_ge_int, bin_add, bin_sub, bi_int_int, call_take, b7, c0, c1, len_ref c1, a1, ab, e1, e2, e3, pow18, beq_self_eq_true, bin_mod hm, bin_fdiv hm hb, s1, s2, s4, d1]
theorem Dr.set (hd : s[d]? = some (.lst [.ref l, .int i, .int cur, .int seed])) (hl : s[l]? = some (.lst (List.map DV.int ns))) (hne : l < d) {i' cur' seed' : Int} (h1 : 0 ≤ i') (h2 : 0 ≤ cur') :
    Dr (s.set d (.lst [.ref l, .int i', .int cur', .int seed'])) d := ⟨l, ns, i', cur', seed', get_set hd, by rw [get_set_ne (by omega)]; exact hl, h1, h2, hne⟩
/-- a draw: some number below many; nothing but the reader changes -/
theorem take_ok (h : Dr s d) (hm : 0 < many) (hb : many.natAbs.log2 < 9000) :
    ∃ r s', callAt Dt Gt subt (k + 1) 7 [.ref d, .int many] s = .ok (.int r) s' ∧ 0 ≤ r ∧ r < many ∧ Dr s' d ∧ (∀ n, n ≠ d → s'[n]? = s[n]?) ∧ s'.length = s.length := by
  obtain ⟨l, ns, i, cur, seed, hd, hl, hi, hc, hne⟩ := h
  have rest : ∀ c, (∀ n, n ≠ d → (s.set d c)[n]? = s[n]?) ∧ (s.set d c).length = s.length := fun c => ⟨fun n hn => get_set_ne (Ne.symm hn), List.length_set⟩
  by_cases h0 : cur = 0
  · subst h0
    by_cases hlt : i < ns.length
    · obtain ⟨j, hj⟩ : ∃ j : Nat, i = (j : Int) := ⟨i.toNat, by omega⟩
      have hj2 : j < ns.length := by omega
      obtain ⟨r, c, h1, h2, h3, h4⟩ := take_A (k := k) hd hl (Nat.ne_of_lt hne) (List.getElem?_eq_getElem hj2) hj hm hb
      exact ⟨r, _, h1, h2, h3, Dr.set hd hl hne (by omega) h4, (rest _).1, (rest _).2⟩
    · exact ⟨_, _, take_C hd hl hlt hm, Int.emod_nonneg _ (by omega), Int.emod_lt_of_pos _ hm, Dr.set hd hl hne hi (Int.le_refl 0), (rest _).1, (rest _).2⟩
  · exact ⟨_, _, take_B hd (by omega) hm hb, Int.emod_nonneg _ (by omega), Int.emod_lt_of_pos _ hm, Dr.set hd hl hne hi (Int.ediv_nonneg hc (by omega)), (rest _).1, (rest _).2⟩
theorem Dr.keep {s' : Store} (h : Dr s d) (hs : ∀ n, n ≤ d → s'[n]? = s[n]?) : Dr s' d := by
  obtain ⟨l, ns, i, cur, seed, hd, hl, hi, hc, hne⟩ := h
  exact ⟨l, ns, i, cur, seed, by rw [hs _ (Nat.le_refl _)]; exact hd, by rw [hs _ (Nat.le_of_lt hne)]; exact hl, hi, hc, hne⟩
theorem call_begin {k a s} : callAt Dt Gt subt (k + 1) 6 [a] s = (evSs (callAt Dt Gt subt k) Gt subt b6 [some a, none, none] s).fin := rfl
/-- the reader is made -/
theorem begin_ok {ns : List Int} : ∃ seed, callAt Dt Gt subt (k + 1) 6 [.ref 0] [.frz (ns.map DV.int)] = .ok (.ref 2) [.frz (ns.map DV.int), .lst (ns.map DV.int), .lst [.ref 1, .int 0, .int 0, .int seed]] := by
  have c0 : cellL [.frz (ns.map DV.int)] 0 = some (ns.map DV.int) := rfl
  have key := for_word (f := .cell 0 (ns.map DV.int)) (body := fun x r s => (evT (callAt Dt Gt subt k) Gt subt (.name 2) x r s).out r fun r s => evSs (callAt Dt Gt subt k) Gt subt b6l0 r s) (all := ns.map DV.int) (r := [some (.ref 0), some (.int 1), none]) (s := [.frz (ns.map DV.int)])
    (fun _ r s => s = [.frz (ns.map DV.int)] ∧ ∃ v w, r = [some (.ref 0), some (.int v), w]) ⟨rfl, 1, none, rfl⟩ (fun d r s h => by rw [h.1]; exact c0)
    (fun d x e r s he h => by
      obtain ⟨rfl, v, w, rfl⟩ := h
      have hx : x ∈ ns.map DV.int := by rw [he]; simp
      obtain ⟨n, _, rfl⟩ := List.mem_map.mp hx
      refine ⟨[some (.ref 0), some (.int ((v * 69621 + n % 2147483629 + 7) % 2147483647)), some (.int n)], _, .inl ?_, rfl, _, _, rfl⟩
      simp -implicitDefEqProofs -dsimp only [↓bind_K, ↓out_K, ↓then_K, ↓optR_K, ↓cond_K, ↓forL_K, ↓lcL_K, ↓whileL_K, ↓catch_K, ↓catchK_nx, ↓catchK_rt, ↓catchK_exc, unset_rt, hush_rt, hush_nx, hush_ct, fin_exc, ↓bindK_ok, ↓outK_ok, ↓bindK_exc, ↓outK_exc, ↓thenK_nx, ↓thenK_rt, ↓thenK_exc, ↓thenK_bk, ↓thenK_ct, ↓optRK_some, ↓quiet_ok, ↓condK_t, ↓condK_f, ↓truth_bl, qE_slot, qE_isx, qE_k, qE_glob, qE_bin, qE_neg, qE_not, qE_and, qE_or, qE_cmp, qE_chain, qE_ife, qE_ix, qE_slc, qE_rev, qE_tup, qE_lst, qE_call, qE_bi, qE_isi, qE_meth, qE_lc, qE_smeth, qE_get2, qE_setd, qE_dnew, qEs_nil, qEs_cons, qAll_nil, qAll_cons, qO_no, qO_some, qI_seq, qI_range1, qI_range2, qI_range3, qI_zip, qI_enum, qI_rev, qT_name, qT_tup, qT_sub, qTs_nil, qTs_cons, qS_asg, qS_par, qS_aug, qS_ife, qS_for, qS_forD, qS_while, qS_ret, qS_retN, qS_drop, qS_pass, qS_brk, qS_cont, qS_raise, qS_try, qS_pick, qSs_nil, qSs_cons, dv_int, dv_bl, dv_str, dv_non, List.getElem?_cons_zero, List.getElem?_cons_succ, List.set_cons_zero, List.set_cons_succ, List.length_cons, List.length_nil, Nat.reduceAdd, Nat.reduceLT, if_true, fin_rt, fin_nx, at_0, at_1, at_2, at_3, itemV_ref, itemV_tup, cmp_eq_int, cmp_ne_int, cmp_lt_int, cmp_le_int, cmp_gt_int, cmp_ge_int, bin_add, bin_sub, bi_int_int, b6l0, bin_mul (mulOk_r (j := 69621) (by decide)), bin_mod (show (0 : Int) < 2147483629 by decide), bin_mod (show (0 : Int) < 2147483647 by decide)])
  obtain ⟨r', s', h1, rfl, v, w, rfl⟩ := key
  refine ⟨v, ?_⟩
  have h2 : evS (callAt Dt Gt subt k) Gt subt (.for_ (.name 2) (.seq (.slot 0)) b6l0) [some (.ref 0), some (.int 1), none] [.frz (ns.map DV.int)] = _ := evS_for (by
    simp only [evI, evE, List.getElem?_cons_zero, bind_ok, c0]
    ) h1
  simp -implicitDefEqProofs -dsimp only [↓bind_K, ↓out_K, ↓then_K, ↓optR_K, ↓cond_K, ↓forL_K, ↓lcL_K, ↓whileL_K, ↓catch_K, ↓catchK_nx, ↓catchK_rt, ↓catchK_exc, unset_rt, hush_rt, hush_nx, hush_ct, fin_exc, ↓bindK_ok, ↓outK_ok, ↓bindK_exc, ↓outK_exc, ↓thenK_nx, ↓thenK_rt, ↓thenK_exc, ↓thenK_bk, ↓thenK_ct, ↓optRK_some, ↓quiet_ok, ↓condK_t, ↓condK_f, ↓truth_bl, qE_slot, qE_isx, qE_k, qE_glob, qE_bin, qE_neg, qE_not, qE_and, qE_or, qE_cmp, qE_chain, qE_ife, qE_ix, qE_slc, qE_rev, qE_tup, qE_lst, qE_call, qE_bi, qE_isi, qE_meth, qE_lc, qE_smeth, qE_get2, qE_setd, qE_dnew, qEs_nil, qEs_cons, qAll_nil, qAll_cons, qO_no, qO_some, qI_seq, qI_range1, qI_range2, qI_range3, qI_zip, qI_enum, qI_rev, qT_name, qT_tup, qT_sub, qTs_nil, qTs_cons, qS_asg, qS_par, qS_aug, qS_ife, qS_for, qS_forD, qS_while, qS_ret, qS_retN, qS_drop, qS_pass, qS_brk, qS_cont, qS_raise, qS_try, qS_pick, qSs_nil, qSs_cons, dv_int, dv_bl, dv_str, dv_non, List.getElem?_cons_zero, List.getElem?_cons_succ, List.set_cons_zero, List.set_cons_succ, List.length_cons, List.length_nil, Nat.reduceAdd, Nat.reduceLT, if_true, fin_rt, fin_nx, at_0, at_1, at_2, at_3, itemV_ref, itemV_tup, cmp_eq_int, cmp_ne_int, cmp_lt_int, cmp_le_int, cmp_gt_int, cmp_ge_int, bin_add, bin_sub, bi_int_int, call_begin, b6, ↓h2, biV, show ((4 : Nat) ≤ sizeLine) = True from eq_true (by decide), c0]
  rfl
end
section
variable {k : Nat} {s : Store}
theorem call_0 {x0 : DV} : callAt Dt Gt subt (k + 1) 0 [x0] s = (evSs (callAt Dt Gt subt k) Gt subt b0 [some x0] s).fin := rfl
theorem call_1 {x0 : DV} : callAt Dt Gt subt (k + 1) 1 [x0] s = (evSs (callAt Dt Gt subt k) Gt subt b1 [some x0] s).fin := rfl
theorem call_2 {x0 x1 : DV} : callAt Dt Gt subt (k + 1) 2 [x0, x1] s = (evSs (callAt Dt Gt subt k) Gt subt b2 [some x0, some x1, none] s).fin := rfl
theorem call_3 {x0 x1 : DV} : callAt Dt Gt subt (k + 1) 3 [x0, x1] s = (evSs (callAt Dt Gt subt k) Gt subt b3 [some x0, some x1, none] s).fin := rfl
theorem call_4 {x0 x1 : DV} : callAt Dt Gt subt (k + 1) 4 [x0, x1] s = (evSs (callAt Dt Gt subt k) Gt subt b4 [some x0, some x1, none, none, none, none, none, none, none, none, none, none, none, none] s).fin := rfl
theorem call_5 {x0 x1 : DV} : callAt Dt Gt subt (k + 1) 5 [x0, x1] s = (evSs (callAt Dt Gt subt k) Gt subt b5 [some x0, some x1] s).fin := rfl
theorem call_8 {x0 x1 : DV} : callAt Dt Gt subt (k + 1) 8 [x0, x1] s = (evSs (callAt Dt Gt subt k) Gt subt b8 [some x0, some x1] s).fin := rfl
theorem call_9 {x0 x1 x2 : DV} : callAt Dt Gt subt (k + 1) 9 [x0, x1, x2] s = (evSs (callAt Dt Gt subt k) Gt subt b9 [some x0, some x1, some x2, none, none, none, none, none, none, none, none] s).fin := rfl
theorem call_10 {x0 x1 : DV} : callAt Dt Gt subt (k + 1) 10 [x0, x1] s = (evSs (callAt Dt Gt subt k) Gt subt b10 [some x0, some x1, none, none, none] s).fin := rfl
theorem call_11 {x0 x1 : DV} : callAt Dt Gt subt (k + 1) 11 [x0, x1] s = (evSs (callAt Dt Gt subt k) Gt subt b11 [some x0, some x1, none] s).fin := rfl
theorem call_12 {x0 x1 x2 x3 : DV} : callAt Dt Gt subt (k + 1) 12 [x0, x1, x2, x3] s = (evSs (callAt Dt Gt subt k) Gt subt b12 [some x0, some x1, some x2, some x3, none, none, none, none, none, none, none, none, none, none, none] s).fin := rfl
theorem call_13 {x0 x1 x2 : DV} : callAt Dt Gt subt (k + 1) 13 [x0, x1, x2] s = (evSs (callAt Dt Gt subt k) Gt subt b13 [some x0, some x1, some x2, none, none, none, none, none, none, none, none] s).fin := rfl
theorem call_14 {x0 x1 x2 x3 : DV} : callAt Dt Gt subt (k + 1) 14 [x0, x1, x2, x3] s = (evSs (callAt Dt Gt subt k) Gt subt b14 [some x0, some x1, some x2, some x3, none, none, none, none, none, none, none, none, none] s).fin := rfl
theorem call_15 {x0 x1 x2 x3 x4 : DV} : callAt Dt Gt subt (k + 1) 15 [x0, x1, x2, x3, x4] s = (evSs (callAt Dt Gt subt k) Gt subt b15 [some x0, some x1, some x2, some x3, some x4, none] s).fin := rfl
theorem call_16 {x0 x1 : DV} : callAt Dt Gt subt (k + 1) 16 [x0, x1] s = (evSs (callAt Dt Gt subt k) Gt subt b16 [some x0, some x1, none, none, none, none] s).fin := rfl
theorem call_17 {x0 x1 : DV} : callAt Dt Gt subt (k + 1) 17 [x0, x1] s = (evSs (callAt Dt Gt subt k) Gt subt b17 [some x0, some x1, none] s).fin := rfl
theorem call_18 {x0 x1 : DV} : callAt Dt Gt subt (k + 1) 18 [x0, x1] s = (evSs (callAt Dt Gt subt k) Gt subt b18 [some x0, some x1, none] s).fin := rfl
theorem call_19 {x0 : DV} : callAt Dt Gt subt (k + 1) 19 [x0] s = (evSs (callAt Dt Gt subt k) Gt subt b19 [some x0, none, none, none, none, none, none, none, none, none, none, none, none, none, none, none] s).fin := rfl
end
end Lw
end PtLk42M
section PtLk42N
set_option Elab.async false
set_option linter.all false
set_option maxRecDepth 100000
namespace Lw
open PySem Ip
section
variable {k d : Nat} {s s' : Store}
theorem Dr.lt (h : Dr s d) : d < s.length := by
  obtain ⟨l, ns, i, cur, seed, hd, _⟩ := h
  exact lt_of_get hd
theorem Dr.up (h : Dr s d) {p : Nat} {c : Cell} (hp : d < p) : Dr (s.set p c) d := h.keep fun n hn => get_set_ne (by omega)
theorem Dr.more (h : Dr s d) {t : Store} : Dr (s ++ t) d := h.keep fun n hn => List.getElem?_append_left (Nat.lt_of_le_of_lt hn h.lt)
theorem kp_up {s0 : Store} (h : Kp d s0 s) {p : Nat} {c : Cell} (hp : s0.length ≤ p) : Kp d s0 (s.set p c) := ⟨by rw [List.length_set]; exact h.1, fun n hn hd => (get_set_ne (by omega)).trans (h.2 n hn hd)⟩
theorem draw {many : Int} (h : Dr s d) (hm : 0 < many) (hb : many.natAbs.log2 < 9000) : ∃ r s', callAt Dt Gt subt (k + 1) 7 [.ref d, .int many] s = .ok (.int r) s' ∧ 0 ≤ r ∧ r < many ∧ Dr s' d ∧ Kp d s s' := by
  obtain ⟨r, s1, e1, r0, r1, D1, k1, n1⟩ := take_ok (k := k) h hm hb
  exact ⟨r, s1, e1, r0, r1, D1, Kp.take k1 n1⟩
theorem small_log {x : Int} (h0 : 0 ≤ x) (h : x ≤ 4000) : x.natAbs.log2 < 9000 := by
  have : (2 : Nat) ^ 12 = 4096 := by decide
  exact Nat.lt_trans (log2_lt (m := 12) (by omega) (by decide)) (by decide)
theorem signed_ok {most : Int} (h : Dr s d) (h0 : 0 ≤ most) (h1 : most ≤ 1000) : ∃ r s', callAt Dt Gt subt (k + 2) 8 [.ref d, .int most] s = .ok (.int r) s' ∧ Dr s' d ∧ Kp d s s' := by
  obtain ⟨r, s1, e1, r0, r1, D1, k1⟩ := draw (k := k) (many := 2 * most + 1) h (by omega) (small_log (by omega) (by omega))
  refine ⟨r - most, s1, ?_, D1, k1⟩
  simp -implicitDefEqProofs -dsimp only [↓bind_K, ↓out_K, ↓then_K, ↓optR_K, ↓cond_K, ↓forL_K, ↓lcL_K, ↓whileL_K, ↓catch_K, ↓catchK_nx, ↓catchK_rt, ↓catchK_exc, unset_rt, hush_rt, hush_nx, hush_ct, fin_exc, ↓bindK_ok, ↓outK_ok, ↓bindK_exc, ↓outK_exc, ↓thenK_nx, ↓thenK_rt, ↓thenK_exc, ↓thenK_bk, ↓thenK_ct, ↓optRK_some, ↓quiet_ok, ↓condK_t, ↓condK_f, ↓truth_bl, qE_slot, qE_isx, qE_k, qE_glob, qE_bin, qE_neg, qE_not, qE_and, qE_or, qE_cmp, qE_chain, qE_ife, qE_ix, qE_slc, qE_rev, qE_tup, qE_lst, qE_call, qE_bi, qE_isi, qE_meth, qE_lc, qE_smeth, qE_get2, qE_setd, qE_dnew, qEs_nil, qEs_cons, qAll_nil, qAll_cons, qO_no, qO_some, qI_seq, qI_range1, qI_range2, qI_range3, qI_zip, qI_enum, qI_rev, qT_name, qT_tup, qT_sub, qTs_nil, qTs_cons, qS_asg, qS_par, qS_aug, qS_ife, qS_for, qS_forD, qS_while, qS_ret, qS_retN, qS_drop, qS_pass, qS_brk, qS_cont, qS_raise, qS_try, qS_pick, qSs_nil, qSs_cons, dv_int, dv_bl, dv_str, dv_non, List.getElem?_cons_zero, List.getElem?_cons_succ, List.set_cons_zero, List.set_cons_succ, List.length_cons, List.length_nil, Nat.reduceAdd, Nat.reduceLT, if_true, fin_rt, fin_nx, at_0, at_1, at_2, at_3, itemV_ref, itemV_tup, cmp_eq_int, cmp_ne_int, cmp_lt_int, cmp_le_int, cmp_gt_int, cmp_ge_int, bin_add, bin_sub, bi_int_int, call_8, b8, bin_mul (mulOk_l (i := 2) (j := most) (by decide)), e1]
/-- a comprehension whose turns draw -/
theorem lcL_draw {f : Src} {body : DV → Store → Res (Option DV)} (Good : DV → Prop) {s1 : Store} (hd : d < s1.length) (hf : ∀ s, Kp d s1 s → f.ok s) : ∀ (xs acc : List DV) (s : Store), Dr s d → Kp d s1 s → s[s1.length]? = some (.lst acc) → acc.length + xs.length ≤ 1000 →
    (∀ x ∈ xs, ∀ s, Dr s d → Kp d s1 s → ∃ v s2, body x s = .ok (some v) s2 ∧ Dr s2 d ∧ Kp d s s2 ∧ Good v) →
    ∃ vs s', lcL s1.length f body xs s = .ok (.ref s1.length) s' ∧ s'[s1.length]? = some (.lst (acc ++ vs)) ∧ vs.length = xs.length ∧ (∀ v ∈ vs, Good v) ∧ Dr s' d ∧ Kp d s1 s'
  | [], acc, s, D, K, hc, _, _ => ⟨[], s, by simp only [lcL]; rw [if_pos (hf _ K)], by rw [List.append_nil]; exact hc, rfl, fun _ h => (by cases h), D, K⟩
  | x :: xs, acc, s, D, K, hc, hz, hb => by
    rw [List.length_cons] at hz
    obtain ⟨v, s2, e1, D2, K2, g⟩ := hb x List.mem_cons_self s D K
    have c2 := K2.get hc (by omega)
    have le : s1.length < s2.length := lt_of_get c2
    obtain ⟨vs, s', e3, c3, n3, g3, D3, K3⟩ := lcL_draw Good hd hf xs (acc ++ [v]) (s2.set s1.length (.lst (acc ++ [v]))) (D2.up hd) (kp_up (K.trans K2) (Nat.le_refl _)) (get_set c2) (by rw [List.length_append, List.length_singleton]; omega) fun y hy => hb y (List.mem_cons_of_mem _ hy)
    refine ⟨v :: vs, s', ?_, by rw [c3, List.append_assoc]; rfl, by rw [List.length_cons, List.length_cons, n3], fun w hw => ?_, D3, K3⟩
    · simp only [lcL]
      rw [if_pos (hf _ K), e1]
      simp only [Res.quiet, Res.bind]
      rw [c2]
      simp only
      rw [if_pos (Nat.lt_of_le_of_lt (show acc.length ≤ 1000 by omega) (by decide))]
      exact e3
    · rcases List.mem_cons.mp hw with rfl | hw
      · exact g
      · exact g3 w hw
theorem lc_draw {K0 : Nat} {t : CT} {it : CI} {e : CE} {own : List Nat} {r : Ip.Loc} {s s1 : Store} {f : Src} {xs : List DV} (Good : DV → Prop) (hi : evI (callAt Dt Gt subt K0) Gt subt it r s = .ok (f, xs) s1) (hD : Dr s1 d) (hf : ∀ s, Kp d s1 s → f.ok s) (hz : xs.length ≤ 1000)
    (hb : ∀ x ∈ xs, ∀ s, Dr s d → Kp d s1 s → ∃ v s2, (((evT (callAt Dt Gt subt K0) Gt subt t x (wipe r own) s).bind fun r s => evE (callAt Dt Gt subt K0) Gt subt e r s) = .ok v s2 ∧ Dr s2 d ∧ Kp d s s2 ∧ Good v)) :
    ∃ vs s', evE (callAt Dt Gt subt K0) Gt subt (.lc t it .nil e own) r s = .ok (.ref s1.length) s' ∧ s'[s1.length]? = some (.lst vs) ∧ vs.length = xs.length ∧ (∀ v ∈ vs, Good v) ∧ Dr s' d ∧ Kp d s1 s' := by
  obtain ⟨vs, s', e1, c1, n1, g1, D1, K1⟩ := lcL_draw (d := d) (f := f) (body := fun x s => (evT (callAt Dt Gt subt K0) Gt subt t x (wipe r own) s).bind fun r s => (evAll (callAt Dt Gt subt K0) Gt subt .nil r s).bind fun b s => cond b ((evE (callAt Dt Gt subt K0) Gt subt e r s).bind fun v s => Res.ok (some v) s) (.ok none s))
    Good hD.lt hf xs [] (s1 ++ [.lst []]) hD.more Kp.app get_snoc (by rw [List.length_nil]; omega) (fun x hx s Ds Ks => by
      obtain ⟨v, s2, e2, r2⟩ := hb x hx s Ds Ks
      refine ⟨v, s2, ?_, r2⟩
      cases ht : evT (callAt Dt Gt subt K0) Gt subt t x (wipe r own) s with
      | ok r3 s3 =>
        rw [ht] at e2
        simp only [Res.bind] at e2 ⊢
        rw [qAll_nil]
        simp only [cond]
        rw [e2]
      | exc c s3 => rw [ht] at e2; cases e2
      | stuck => rw [ht] at e2; cases e2)
  refine ⟨vs, s', ?_, c1, n1, g1, D1, K1⟩
  rw [qE_lc, hi]
  simp only [Res.bind]
  exact e1
/-- the list of what is there around: pairs of a variable and its values -/
def EnvV (d : Nat) (s : Store) (E : DV) (m : Nat) : Prop := ∃ r xs, E = .ref r ∧ r ≠ d ∧ s[r]? = some (.lst xs) ∧ xs.length ≤ m ∧ ∀ x ∈ xs, ∃ v rr ns, x = .tup [.int v, .ref rr] ∧ rr ≠ d ∧ cellL s rr = some (List.map DV.int ns) ∧ ns ≠ [] ∧ ns.length ≤ 100
theorem EnvV.kp {E : DV} {m : Nat} (h : EnvV d s E m) (K : Kp d s s') : EnvV d s' E m := by
  obtain ⟨r, xs, rfl, n1, c1, n2, h⟩ := h
  refine ⟨r, xs, rfl, n1, K.get c1 n1, n2, fun x hx => ?_⟩
  obtain ⟨v, rr, ns, rfl, m1, m2, m3⟩ := h x hx
  exact ⟨v, rr, ns, rfl, m1, K.cell m2 m1, m3⟩
theorem EnvV.le {E : DV} {m n : Nat} (h : EnvV d s E m) (hm : m ≤ n) : EnvV d s E n := by
  obtain ⟨r, xs, rfl, n1, c1, n2, h⟩ := h
  exact ⟨r, xs, rfl, n1, c1, Nat.le_trans n2 hm, h⟩
def bD (b : Str × Int) : DV := .tup [.str b.1, .int b.2]
/-- the buffers: a tuple or a list -/
def BufV (d : Nat) (s : Store) (B : DV) (bs : List (Str × Int)) : Prop := B = .tup (bs.map bD) ∨ ∃ r, B = .ref r ∧ r ≠ d ∧ cellL s r = some (bs.map bD)
theorem BufV.kp {B : DV} {bs : List (Str × Int)} (h : BufV d s B bs) (K : Kp d s s') : BufV d s' B bs := by
  rcases h with rfl | ⟨r, rfl, h1, h2⟩
  · exact .inl rfl
  · exact .inr ⟨r, rfl, h1, K.cell h2 h1⟩
theorem BufV.len {B : DV} {bs : List (Str × Int)} (h : BufV d s B bs) : biV .len [B] s = .ok (.int bs.length) s := by
  rcases h with rfl | ⟨r, rfl, h1, h2⟩
  · rw [len_tup, List.length_map]
  · rw [len_ref h2, List.length_map]
theorem BufV.at_ {B : DV} {bs : List (Str × Int)} (h : BufV d s B bs) {i : Int} {b : Str × Int} (hi : L2.atI bs i = some b) : itemV B (.int i) s = .ok (bD b) s := by
  have q : L2.atI (bs.map bD) i = some (bD b) := by
    unfold L2.atI at hi ⊢
    rw [List.length_map]
    cases e : L2.ixN bs.length i with
    | none => rw [e] at hi; cases hi
    | some j =>
      rw [e] at hi
      show (bs.map bD)[j]? = _
      rw [List.getElem?_map, show bs[j]? = some b from hi]
      rfl
  rcases h with rfl | ⟨r, rfl, h1, h2⟩
  · exact item_tup q
  · exact item_ref h2 q
/-- slot reads see a value -/
theorem BufV.slot {B : DV} {bs : List (Str × Int)} (h : BufV d s B bs) : ∀ c, B ≠ .exc c := by
  rcases h with rfl | ⟨r, rfl, h1, h2⟩ <;> exact fun c z => nomatch z
end
section
variable {k d : Nat} {s s' : Store}
theorem ints_map : ∀ ns : List Int, ints? (List.map DV.int ns) = some ns
  | [] => rfl
  | n :: ns => by
    rw [List.map_cons]
    show (match ints? (List.map DV.int ns) with | some is => some (n :: is) | none => none) = _
    rw [ints_map ns]
theorem fold_max : ∀ (ns : List Int) (n : Int), n ≤ ns.foldl max n
  | [], n => Int.le_refl n
  | m :: ns, n => by
    have := fold_max ns (max n m)
    rw [List.foldl_cons]
    omega
theorem fold_min : ∀ (ns : List Int) (n : Int), ns.foldl min n ≤ n
  | [], n => Int.le_refl n
  | m :: ns, n => by
    have := fold_min ns (min n m)
    rw [List.foldl_cons]
    omega
theorem mm_ex {ns : List Int} (h : ns ≠ []) : ∃ M m, m ≤ M ∧ (∀ (s : Store) (r : Nat), cellL s r = some (List.map DV.int ns) → biV .max1 [.ref r] s = .ok (.int M) s) ∧ ∀ (s : Store) (r : Nat), cellL s r = some (List.map DV.int ns) → biV .min1 [.ref r] s = .ok (.int m) s := by
  cases ns with
  | nil => exact absurd rfl h
  | cons n ns =>
    refine ⟨ns.foldl max n, ns.foldl min n, Int.le_trans (fold_min ns n) (fold_max ns n), fun s r hc => ?_, fun s r hc => ?_⟩
    · show optR (cellL s r) _ = _
      rw [hc]
      show optR (ints? (List.map DV.int (n :: ns))) _ = _
      rw [ints_map]
      rfl
    · show optR (cellL s r) _ = _
      rw [hc]
      show optR (ints? (List.map DV.int (n :: ns))) _ = _
      rw [ints_map]
      rfl
theorem filter_ints (f : Int) : ∀ ns : List Int, (List.map DV.int ns).filterMap (fun x => match x with | .int v => some (.int (f * v)) | _ => none) = List.map DV.int (ns.map fun v => f * v)
  | [] => rfl
  | n :: ns => by
    rw [List.map_cons, List.filterMap_cons, filter_ints f ns]
    rfl
theorem four {r : Int} (h0 : 0 ≤ r) (h1 : r < 4) : ∃ f : Int, L2.atI [DV.int 1, .int 1, .int 2, .int (-1)] r = some (.int f) ∧ f.natAbs < 2 ^ 64 := by
  have : r = 0 ∨ r = 1 ∨ r = 2 ∨ r = 3 := by omega
  rcases this with rfl | rfl | rfl | rfl
  · exact ⟨1, at_0, by decide⟩
  · exact ⟨1, at_1, by decide⟩
  · exact ⟨2, at_2, by decide⟩
  · exact ⟨-1, at_3, by decide⟩
theorem neg1 : (0 : Int) - 1 = -1 := by decide
noncomputable def F9 (k : Nat) : DV → Ip.Loc → Store → Out := fun x r s => (evT (callAt Dt Gt subt (k + 1)) Gt subt (.tup (.cons (.name 6) (.cons (.name 7) (.nil)))) x r s).out r fun r s => evSs (callAt Dt Gt subt (k + 1)) Gt subt b9l0 r s
theorem form_turn {s0 : Store} {E : DV} {size v low high : Int} {rr n : Nat} {ns : List Int} {ts : List DV} {w6 w7 w8 w9 w10 : Option DV} (D : Dr s d) (hn : d < n) (hn0 : s0.length ≤ n) (K : Kp d s0 s) (hc : s[n]? = some (.lst ts)) (hl : ts.length ≤ 900) (hr : cellL s rr = some (List.map DV.int ns)) (hrn : rr ≠ n) (hrd : rr ≠ d) (hne : ns ≠ []) (hz : ns.length ≤ 100) (hs : high - low < size) (h00 : low ≤ high) :
    ∃ low' high' ts' w6' w7' w8' w9' w10' s', F9 k (.tup [.int v, .ref rr]) [some (.ref d), some E, some (.int size), some (.ref n), some (.int low), some (.int high), w6, w7, w8, w9, w10] s = .nx [some (.ref d), some E, some (.int size), some (.ref n), some (.int low'), some (.int high'), w6', w7', w8', w9', w10'] s' ∧
      Dr s' d ∧ Kp d s0 s' ∧ s'[n]? = some (.lst ts') ∧ ts'.length ≤ ts.length + 1 ∧ high' - low' < size ∧ low' ≤ high' := by
  obtain ⟨u, s1, e1, u0, u1, D1, K1⟩ := draw (k := k) (many := 3) D (by decide) (by decide)
  by_cases h0 : 0 < u
  · have q0 : decide (0 < u) = true := decide_eq_true h0
    obtain ⟨t, s2, e2, t0, t1, D2, K2⟩ := draw (k := k) (many := 4) D1 (by decide) (by decide)
    obtain ⟨f, hf, hfs⟩ := four t0 t1
    have K12 := K1.trans K2
    have c2 := K12.get hc (by omega)
    have cr2 := K12.cell hr hrd
    have z4 := z_le 4 (by decide)
    have lc : ∀ w6 w9 w10, evE (callAt Dt Gt subt (k + 1)) Gt subt (.lc (.name 10) (.seq (.slot 7)) (.nil) (.bin .mul (.slot 8) (.slot 10)) [10]) [some (.ref d), some E, some (.int size), some (.ref n), some (.int low), some (.int high), w6, some (.ref rr), some (.int f), w9, w10] s2 = .ok (.ref s2.length) (s2 ++ [.lst (List.map DV.int (ns.map fun v => f * v))]) := fun w6 w9 w10 => by
      rw [← filter_ints]
      refine lc_run _ (f := .cell rr (List.map DV.int ns)) (by simp -implicitDefEqProofs -dsimp only [↓bind_K, ↓out_K, ↓then_K, ↓optR_K, ↓cond_K, ↓forL_K, ↓lcL_K, ↓whileL_K, ↓catch_K, ↓catchK_nx, ↓catchK_rt, ↓catchK_exc, unset_rt, hush_rt, hush_nx, hush_ct, fin_exc, ↓bindK_ok, ↓outK_ok, ↓bindK_exc, ↓outK_exc, ↓thenK_nx, ↓thenK_rt, ↓thenK_exc, ↓thenK_bk, ↓thenK_ct, ↓optRK_some, ↓quiet_ok, ↓condK_t, ↓condK_f, ↓truth_bl, qE_slot, qE_isx, qE_k, qE_glob, qE_bin, qE_neg, qE_not, qE_and, qE_or, qE_cmp, qE_chain, qE_ife, qE_ix, qE_slc, qE_rev, qE_tup, qE_lst, qE_call, qE_bi, qE_isi, qE_meth, qE_lc, qE_smeth, qE_get2, qE_setd, qE_dnew, qEs_nil, qEs_cons, qAll_nil, qAll_cons, qO_no, qO_some, qI_seq, qI_range1, qI_range2, qI_range3, qI_zip, qI_enum, qI_rev, qT_name, qT_tup, qT_sub, qTs_nil, qTs_cons, qS_asg, qS_par, qS_aug, qS_ife, qS_for, qS_forD, qS_while, qS_ret, qS_retN, qS_drop, qS_pass, qS_brk, qS_cont, qS_raise, qS_try, qS_pick, qSs_nil, qSs_cons, dv_int, dv_bl, dv_str, dv_non, List.getElem?_cons_zero, List.getElem?_cons_succ, List.set_cons_zero, List.set_cons_succ, List.length_cons, List.length_nil, Nat.reduceAdd, Nat.reduceLT, if_true, fin_rt, fin_nx, at_0, at_1, at_2, at_3, itemV_ref, itemV_tup, cmp_eq_int, cmp_ne_int, cmp_lt_int, cmp_le_int, cmp_gt_int, cmp_ge_int, bin_add, bin_sub, bi_int_int, cr2]) (fun acc => cell_app cr2) (fun x hx acc => ?_) (by rw [List.length_map]; exact Nat.le_trans hz (by decide))
      obtain ⟨y, _, rfl⟩ := List.mem_map.mp hx
      simp -implicitDefEqProofs -dsimp only [↓bind_K, ↓out_K, ↓then_K, ↓optR_K, ↓cond_K, ↓forL_K, ↓lcL_K, ↓whileL_K, ↓catch_K, ↓catchK_nx, ↓catchK_rt, ↓catchK_exc, unset_rt, hush_rt, hush_nx, hush_ct, fin_exc, ↓bindK_ok, ↓outK_ok, ↓bindK_exc, ↓outK_exc, ↓thenK_nx, ↓thenK_rt, ↓thenK_exc, ↓thenK_bk, ↓thenK_ct, ↓optRK_some, ↓quiet_ok, ↓condK_t, ↓condK_f, ↓truth_bl, qE_slot, qE_isx, qE_k, qE_glob, qE_bin, qE_neg, qE_not, qE_and, qE_or, qE_cmp, qE_chain, qE_ife, qE_ix, qE_slc, qE_rev, qE_tup, qE_lst, qE_call, qE_bi, qE_isi, qE_meth, qE_lc, qE_smeth, qE_get2, qE_setd, qE_dnew, qEs_nil, qEs_cons, qAll_nil, qAll_cons, qO_no, qO_some, qI_seq, qI_range1, qI_range2, qI_range3, qI_zip, qI_enum, qI_rev, qT_name, qT_tup, qT_sub, qTs_nil, qTs_cons, qS_asg, qS_par, qS_aug, qS_ife, qS_for, qS_forD, qS_while, qS_ret, qS_retN, qS_drop, qS_pass, qS_brk, qS_cont, qS_raise, qS_try, qS_pick, qSs_nil, qSs_cons, dv_int, dv_bl, dv_str, dv_non, List.getElem?_cons_zero, List.getElem?_cons_succ, List.set_cons_zero, List.set_cons_succ, List.length_cons, List.length_nil, Nat.reduceAdd, Nat.reduceLT, if_true, fin_rt, fin_nx, at_0, at_1, at_2, at_3, itemV_ref, itemV_tup, cmp_eq_int, cmp_ne_int, cmp_lt_int, cmp_le_int, cmp_gt_int, cmp_ge_int, bin_add, bin_sub, bi_int_int, wipe, qAll_nil, bin_mul (mulOk_l (j := y) hfs)]
    have hne2 : (ns.map fun v => f * v) ≠ [] := fun z => hne (List.map_eq_nil_iff.mp z)
    obtain ⟨M, m, hmM, hM, hm⟩ := mm_ex hne2
    have M1 := hM (s2 ++ [.lst (List.map DV.int (ns.map fun v => f * v))]) s2.length cell_snoc
    have m1 := hm (s2 ++ [.lst (List.map DV.int (ns.map fun v => f * v))]) s2.length cell_snoc
    have c3 : (s2 ++ [Cell.lst (List.map DV.int (ns.map fun v => f * v))])[n]? = some (.lst ts) := get_more c2
    by_cases h1 : high + M - low - m < size
    · have q1 : decide (high + M - low - m < size) = true := decide_eq_true h1
      have ap := fun v => append_ok (v := v) c3 (Nat.lt_of_le_of_lt hl (by decide))
      have nlt : n < s2.length := lt_of_get c2
      have c4 : cellL ((s2 ++ [Cell.lst (List.map DV.int (ns.map fun v => f * v))]).set n (.lst (ts ++ [.tup [.int v, .int f]]))) s2.length = some (List.map DV.int (ns.map fun v => f * v)) := by
        refine cellL_of ?_
        rw [get_set_ne (by omega)]
        exact get_snoc
      have M2 := hM _ _ c4
      have m2 := hm _ _ c4
      have z2 := z_le 2 (by decide)
      refine ⟨low + m, high + M, ts ++ [.tup [.int v, .int f]], some (.int v), some (.ref rr), some (.int f), some (.ref s2.length), w10, _, ?_, (D2.more).up hn, kp_up (K.trans (K12.trans Kp.app)) hn0, get_set c3, by rw [List.length_append]; exact Nat.le_refl _, by omega, by omega⟩
      simp -implicitDefEqProofs -dsimp only [↓bind_K, ↓out_K, ↓then_K, ↓optR_K, ↓cond_K, ↓forL_K, ↓lcL_K, ↓whileL_K, ↓catch_K, ↓catchK_nx, ↓catchK_rt, ↓catchK_exc, unset_rt, hush_rt, hush_nx, hush_ct, fin_exc, ↓bindK_ok, ↓outK_ok, ↓bindK_exc, ↓outK_exc, ↓thenK_nx, ↓thenK_rt, ↓thenK_exc, ↓thenK_bk, ↓thenK_ct, ↓optRK_some, ↓quiet_ok, ↓condK_t, ↓condK_f, ↓truth_bl, qE_slot, qE_isx, qE_k, qE_glob, qE_bin, qE_neg, qE_not, qE_and, qE_or, qE_cmp, qE_chain, qE_ife, qE_ix, qE_slc, qE_rev, qE_tup, qE_lst, qE_call, qE_bi, qE_isi, qE_meth, qE_lc, qE_smeth, qE_get2, qE_setd, qE_dnew, qEs_nil, qEs_cons, qAll_nil, qAll_cons, qO_no, qO_some, qI_seq, qI_range1, qI_range2, qI_range3, qI_zip, qI_enum, qI_rev, qT_name, qT_tup, qT_sub, qTs_nil, qTs_cons, qS_asg, qS_par, qS_aug, qS_ife, qS_for, qS_forD, qS_while, qS_ret, qS_retN, qS_drop, qS_pass, qS_brk, qS_cont, qS_raise, qS_try, qS_pick, qSs_nil, qSs_cons, dv_int, dv_bl, dv_str, dv_non, List.getElem?_cons_zero, List.getElem?_cons_succ, List.set_cons_zero, List.set_cons_succ, List.length_cons, List.length_nil, Nat.reduceAdd, Nat.reduceLT, if_true, fin_rt, fin_nx, at_0, at_1, at_2, at_3, itemV_ref, itemV_tup, cmp_eq_int, cmp_ne_int, cmp_lt_int, cmp_le_int, cmp_gt_int, cmp_ge_int, bin_add, bin_sub, bi_int_int, F9, b9l0, e1, q0, e2, neg1, z4, hf, ↓lc, M1, m1, q1, cellL_of c3, ap, M2, m2, z2]
    · have q1 : decide (high + M - low - m < size) = false := decide_eq_false h1
      refine ⟨low, high, ts, some (.int v), some (.ref rr), some (.int f), some (.ref s2.length), w10, _, ?_, D2.more, K.trans (K12.trans Kp.app), c3, by omega, hs, h00⟩
      simp -implicitDefEqProofs -dsimp only [↓bind_K, ↓out_K, ↓then_K, ↓optR_K, ↓cond_K, ↓forL_K, ↓lcL_K, ↓whileL_K, ↓catch_K, ↓catchK_nx, ↓catchK_rt, ↓catchK_exc, unset_rt, hush_rt, hush_nx, hush_ct, fin_exc, ↓bindK_ok, ↓outK_ok, ↓bindK_exc, ↓outK_exc, ↓thenK_nx, ↓thenK_rt, ↓thenK_exc, ↓thenK_bk, ↓thenK_ct, ↓optRK_some, ↓quiet_ok, ↓condK_t, ↓condK_f, ↓truth_bl, qE_slot, qE_isx, qE_k, qE_glob, qE_bin, qE_neg, qE_not, qE_and, qE_or, qE_cmp, qE_chain, qE_ife, qE_ix, qE_slc, qE_rev, qE_tup, qE_lst, qE_call, qE_bi, qE_isi, qE_meth, qE_lc, qE_smeth, qE_get2, qE_setd, qE_dnew, qEs_nil, qEs_cons, qAll_nil, qAll_cons, qO_no, qO_some, qI_seq, qI_range1, qI_range2, qI_range3, qI_zip, qI_enum, qI_rev, qT_name, qT_tup, qT_sub, qTs_nil, qTs_cons, qS_asg, qS_par, qS_aug, qS_ife, qS_for, qS_forD, qS_while, qS_ret, qS_retN, qS_drop, qS_pass, qS_brk, qS_cont, qS_raise, qS_try, qS_pick, qSs_nil, qSs_cons, dv_int, dv_bl, dv_str, dv_non, List.getElem?_cons_zero, List.getElem?_cons_succ, List.set_cons_zero, List.set_cons_succ, List.length_cons, List.length_nil, Nat.reduceAdd, Nat.reduceLT, if_true, fin_rt, fin_nx, at_0, at_1, at_2, at_3, itemV_ref, itemV_tup, cmp_eq_int, cmp_ne_int, cmp_lt_int, cmp_le_int, cmp_gt_int, cmp_ge_int, bin_add, bin_sub, bi_int_int, F9, b9l0, e1, q0, e2, neg1, z4, hf, ↓lc, M1, m1, q1]
  · have q0 : decide (0 < u) = false := decide_eq_false h0
    refine ⟨low, high, ts, some (.int v), some (.ref rr), w8, w9, w10, s1, ?_, D1, K.trans K1, K1.get hc (by omega), by omega, hs, h00⟩
    simp -implicitDefEqProofs -dsimp only [↓bind_K, ↓out_K, ↓then_K, ↓optR_K, ↓cond_K, ↓forL_K, ↓lcL_K, ↓whileL_K, ↓catch_K, ↓catchK_nx, ↓catchK_rt, ↓catchK_exc, unset_rt, hush_rt, hush_nx, hush_ct, fin_exc, ↓bindK_ok, ↓outK_ok, ↓bindK_exc, ↓outK_exc, ↓thenK_nx, ↓thenK_rt, ↓thenK_exc, ↓thenK_bk, ↓thenK_ct, ↓optRK_some, ↓quiet_ok, ↓condK_t, ↓condK_f, ↓truth_bl, qE_slot, qE_isx, qE_k, qE_glob, qE_bin, qE_neg, qE_not, qE_and, qE_or, qE_cmp, qE_chain, qE_ife, qE_ix, qE_slc, qE_rev, qE_tup, qE_lst, qE_call, qE_bi, qE_isi, qE_meth, qE_lc, qE_smeth, qE_get2, qE_setd, qE_dnew, qEs_nil, qEs_cons, qAll_nil, qAll_cons, qO_no, qO_some, qI_seq, qI_range1, qI_range2, qI_range3, qI_zip, qI_enum, qI_rev, qT_name, qT_tup, qT_sub, qTs_nil, qTs_cons, qS_asg, qS_par, qS_aug, qS_ife, qS_for, qS_forD, qS_while, qS_ret, qS_retN, qS_drop, qS_pass, qS_brk, qS_cont, qS_raise, qS_try, qS_pick, qSs_nil, qSs_cons, dv_int, dv_bl, dv_str, dv_non, List.getElem?_cons_zero, List.getElem?_cons_succ, List.set_cons_zero, List.set_cons_succ, List.length_cons, List.length_nil, Nat.reduceAdd, Nat.reduceLT, if_true, fin_rt, fin_nx, at_0, at_1, at_2, at_3, itemV_ref, itemV_tup, cmp_eq_int, cmp_ne_int, cmp_lt_int, cmp_le_int, cmp_gt_int, cmp_ge_int, bin_add, bin_sub, bi_int_int, F9, b9l0, e1, q0]
theorem form_ok {E : DV} {size : Int} (D : Dr s d) (hE : EnvV d s E 20) (h1 : 1 ≤ size) (h2 : size ≤ 100) : ∃ xs s', callAt Dt Gt subt (k + 2) 9 [.ref d, E, .int size] s = .ok (.tup xs) s' ∧ Dr s' d ∧ Kp d s s' := by
  obtain ⟨er, xs, rfl, n1, c0, n2, hx⟩ := hE
  have c1 := cellL_of c0
  have cE : cellL (s ++ [Cell.lst []]) er = some xs := cell_app c1
  have elt : er < s.length := by
    unfold cellL at c1
    split at c1
    · exact lt_of_get (by assumption)
    · exact lt_of_get (by assumption)
    · cases c1
  have key := for_word (f := .cell er xs) (body := F9 k) (all := xs) (r := [some (.ref d), some (.ref er), some (.int size), some (.ref s.length), some (.int 0), some (.int 0), none, none, none, none, none]) (s := s ++ [.lst []])
    (fun dn r s' => Dr s' d ∧ Kp d s s' ∧ ∃ low high ts w6 w7 w8 w9 w10, r = [some (.ref d), some (.ref er), some (.int size), some (.ref s.length), some (.int low), some (.int high), w6, w7, w8, w9, w10] ∧ s'[s.length]? = some (.lst ts) ∧ ts.length ≤ dn.length ∧ high - low < size ∧ low ≤ high)
    ⟨D.more, Kp.app, 0, 0, [], none, none, none, none, none, rfl, get_snoc, Nat.le_refl _, by omega, Int.le_refl 0⟩ (fun dn r s' h => by
      obtain ⟨_, K, _⟩ := h
      exact K.cell c1 n1)
    (fun dn x e r s' he h => by
      obtain ⟨D', K, low, high, ts, w6, w7, w8, w9, w10, rfl, hc, hl, hs, h0⟩ := h
      obtain ⟨v, rr, ns, rfl, m1, m2, m3, m4⟩ := hx x (by rw [he]; simp)
      have rlt : rr < s.length := by
        unfold cellL at m2
        split at m2
        · exact lt_of_get (by assumption)
        · exact lt_of_get (by assumption)
        · cases m2
      have dl : dn.length ≤ 20 := by
        have := congrArg List.length he
        rw [List.length_append, List.length_cons] at this
        omega
      obtain ⟨low', high', ts', a6, a7, a8, a9, a10, s2, e2, D2, K2, c2, l2, g2, z2⟩ := form_turn (k := k) (E := .ref er) (v := v) (w6 := w6) (w7 := w7) (w8 := w8) (w9 := w9) (w10 := w10) D' D.lt (Nat.le_refl _) K hc (by omega) (K.cell m2 m1) (by omega) m1 m3 m4 hs h0
      exact ⟨_, s2, .inl e2, D2, K2, low', high', ts', a6, a7, a8, a9, a10, rfl, c2, by rw [List.length_append, List.length_singleton]; omega, g2, z2⟩)
  obtain ⟨r1, s1, f1, D1, K1, low, high, ts, w6, w7, w8, w9, w10, rfl, hc, hl, hs, h0⟩ := key
  have cF : evS (callAt Dt Gt subt (k + 1)) Gt subt (.for_ (.tup (.cons (.name 6) (.cons (.name 7) (.nil)))) (.seq (.slot 1)) b9l0) [some (.ref d), some (.ref er), some (.int size), some (.ref s.length), some (.int 0), some (.int 0), none, none, none, none, none] (s ++ [.lst []]) = _ := evS_for (by
    simp -implicitDefEqProofs -dsimp only [↓bind_K, ↓out_K, ↓then_K, ↓optR_K, ↓cond_K, ↓forL_K, ↓lcL_K, ↓whileL_K, ↓catch_K, ↓catchK_nx, ↓catchK_rt, ↓catchK_exc, unset_rt, hush_rt, hush_nx, hush_ct, fin_exc, ↓bindK_ok, ↓outK_ok, ↓bindK_exc, ↓outK_exc, ↓thenK_nx, ↓thenK_rt, ↓thenK_exc, ↓thenK_bk, ↓thenK_ct, ↓optRK_some, ↓quiet_ok, ↓condK_t, ↓condK_f, ↓truth_bl, qE_slot, qE_isx, qE_k, qE_glob, qE_bin, qE_neg, qE_not, qE_and, qE_or, qE_cmp, qE_chain, qE_ife, qE_ix, qE_slc, qE_rev, qE_tup, qE_lst, qE_call, qE_bi, qE_isi, qE_meth, qE_lc, qE_smeth, qE_get2, qE_setd, qE_dnew, qEs_nil, qEs_cons, qAll_nil, qAll_cons, qO_no, qO_some, qI_seq, qI_range1, qI_range2, qI_range3, qI_zip, qI_enum, qI_rev, qT_name, qT_tup, qT_sub, qTs_nil, qTs_cons, qS_asg, qS_par, qS_aug, qS_ife, qS_for, qS_forD, qS_while, qS_ret, qS_retN, qS_drop, qS_pass, qS_brk, qS_cont, qS_raise, qS_try, qS_pick, qSs_nil, qSs_cons, dv_int, dv_bl, dv_str, dv_non, List.getElem?_cons_zero, List.getElem?_cons_succ, List.set_cons_zero, List.set_cons_succ, List.length_cons, List.length_nil, Nat.reduceAdd, Nat.reduceLT, if_true, fin_rt, fin_nx, at_0, at_1, at_2, at_3, itemV_ref, itemV_tup, cmp_eq_int, cmp_ne_int, cmp_lt_int, cmp_le_int, cmp_gt_int, cmp_ge_int, bin_add, bin_sub, bi_int_int, cE]) f1
  obtain ⟨t, s2, e2, t0, t1, D2, K2⟩ := draw (k := k) (many := size - high + low) D1 (by omega) (small_log (by omega) (by omega))
  have c2 := cellL_of (K2.get hc (by have := D.lt; omega))
  have z2 := z_le 2 (by decide)
  have z0 := z_le 0 (by decide)
  refine ⟨[.int (t - low), .tup ts], s2, ?_, D2, K1.trans K2⟩
  simp -implicitDefEqProofs -dsimp only [↓bind_K, ↓out_K, ↓then_K, ↓optR_K, ↓cond_K, ↓forL_K, ↓lcL_K, ↓whileL_K, ↓catch_K, ↓catchK_nx, ↓catchK_rt, ↓catchK_exc, unset_rt, hush_rt, hush_nx, hush_ct, fin_exc, ↓bindK_ok, ↓outK_ok, ↓bindK_exc, ↓outK_exc, ↓thenK_nx, ↓thenK_rt, ↓thenK_exc, ↓thenK_bk, ↓thenK_ct, ↓optRK_some, ↓quiet_ok, ↓condK_t, ↓condK_f, ↓truth_bl, qE_slot, qE_isx, qE_k, qE_glob, qE_bin, qE_neg, qE_not, qE_and, qE_or, qE_cmp, qE_chain, qE_ife, qE_ix, qE_slc, qE_rev, qE_tup, qE_lst, qE_call, qE_bi, qE_isi, qE_meth, qE_lc, qE_smeth, qE_get2, qE_setd, qE_dnew, qEs_nil, qEs_cons, qAll_nil, qAll_cons, qO_no, qO_some, qI_seq, qI_range1, qI_range2, qI_range3, qI_zip, qI_enum, qI_rev, qT_name, qT_tup, qT_sub, qTs_nil, qTs_cons, qS_asg, qS_par, qS_aug, qS_ife, qS_for, qS_forD, qS_while, qS_ret, qS_retN, qS_drop, qS_pass, qS_brk, qS_cont, qS_raise, qS_try, qS_pick, qSs_nil, qSs_cons, dv_int, dv_bl, dv_str, dv_non, List.getElem?_cons_zero, List.getElem?_cons_succ, List.set_cons_zero, List.set_cons_succ, List.length_cons, List.length_nil, Nat.reduceAdd, Nat.reduceLT, if_true, fin_rt, fin_nx, at_0, at_1, at_2, at_3, itemV_ref, itemV_tup, cmp_eq_int, cmp_ne_int, cmp_lt_int, cmp_le_int, cmp_gt_int, cmp_ge_int, bin_add, bin_sub, bi_int_int, call_9, b9, z0, ↓cF, e2, tuple_ref c2, z2]
theorem three {r : Int} (h0 : 0 ≤ r) (h1 : r < 3) : ∃ f : Int, L2.atI [DV.int 1, .int (-1), .int 2] r = some (.int f) := by
  have : r = 0 ∨ r = 1 ∨ r = 2 := by omega
  rcases this with rfl | rfl | rfl
  · exact ⟨1, at_0⟩
  · exact ⟨-1, at_1⟩
  · exact ⟨2, at_2⟩
theorem test_ok {E : DV} (D : Dr s d) (hE : EnvV d s E 20) : ∃ xs s', callAt Dt Gt subt (k + 3) 10 [.ref d, E] s = .ok (.tup xs) s' ∧ Dr s' d ∧ Kp d s s' := by
  obtain ⟨er, xs, rfl, n1, c0, n2, hx⟩ := hE
  have c1 := cellL_of c0
  have z2 := z_le 2 (by decide)
  have z3 := z_le 3 (by decide)
  have hi : evI (callAt Dt Gt subt (k + 2)) Gt subt (.seq (.slc (.slot 1) .no (.some (.k (.int 2))))) [some (.ref d), some (.ref er), none, none, none] s = .ok (.cell s.length (cut xs none (some 2)), cut xs none (some 2)) (s ++ [.lst (cut xs none (some 2))]) := by
    have e : sliceV (.ref er) none (some 2) s = .ok (.ref s.length) (s ++ [.lst (cut xs none (some 2))]) := by
      simp only [sliceV, c1]
    have e2 : cellL (s ++ [Cell.lst (cut xs none (some 2))]) s.length = some (cut xs none (some 2)) := cell_snoc
    simp -implicitDefEqProofs -dsimp only [↓bind_K, ↓out_K, ↓then_K, ↓optR_K, ↓cond_K, ↓forL_K, ↓lcL_K, ↓whileL_K, ↓catch_K, ↓catchK_nx, ↓catchK_rt, ↓catchK_exc, unset_rt, hush_rt, hush_nx, hush_ct, fin_exc, ↓bindK_ok, ↓outK_ok, ↓bindK_exc, ↓outK_exc, ↓thenK_nx, ↓thenK_rt, ↓thenK_exc, ↓thenK_bk, ↓thenK_ct, ↓optRK_some, ↓quiet_ok, ↓condK_t, ↓condK_f, ↓truth_bl, qE_slot, qE_isx, qE_k, qE_glob, qE_bin, qE_neg, qE_not, qE_and, qE_or, qE_cmp, qE_chain, qE_ife, qE_ix, qE_slc, qE_rev, qE_tup, qE_lst, qE_call, qE_bi, qE_isi, qE_meth, qE_lc, qE_smeth, qE_get2, qE_setd, qE_dnew, qEs_nil, qEs_cons, qAll_nil, qAll_cons, qO_no, qO_some, qI_seq, qI_range1, qI_range2, qI_range3, qI_zip, qI_enum, qI_rev, qT_name, qT_tup, qT_sub, qTs_nil, qTs_cons, qS_asg, qS_par, qS_aug, qS_ife, qS_for, qS_forD, qS_while, qS_ret, qS_retN, qS_drop, qS_pass, qS_brk, qS_cont, qS_raise, qS_try, qS_pick, qSs_nil, qSs_cons, dv_int, dv_bl, dv_str, dv_non, List.getElem?_cons_zero, List.getElem?_cons_succ, List.set_cons_zero, List.set_cons_succ, List.length_cons, List.length_nil, Nat.reduceAdd, Nat.reduceLT, if_true, fin_rt, fin_nx, at_0, at_1, at_2, at_3, itemV_ref, itemV_tup, cmp_eq_int, cmp_ne_int, cmp_lt_int, cmp_le_int, cmp_gt_int, cmp_ge_int, bin_add, bin_sub, bi_int_int, e, e2]
  have cl : (cut xs none (some 2)).length ≤ xs.length := by
    unfold cut
    rw [List.length_take, List.length_drop]
    omega
  obtain ⟨vs, s1, e1, g1, l1, _, D1, K1⟩ := lc_draw (d := d) (K0 := k + 2) (t := .tup (.cons (.name 3) (.cons (.name 4) (.nil)))) (e := .tup (.cons (.slot 3) (.cons (.ix (.tup (.cons (.k (.int 1)) (.cons (.bin .sub (.k (.int 0)) (.k (.int 1))) (.cons (.k (.int 2)) (.nil))))) (.call 7 (.cons (.slot 0) (.cons (.k (.int 3)) (.nil))))) (.nil)))) (own := [3, 4]) (fun _ => True) hi D.more
    (fun s' K => K.cell cell_snoc (by have := D.lt; omega)) (by omega) (fun x hxm s' D' K' => by
      obtain ⟨v, rr, ns, rfl, _⟩ := hx x (List.mem_of_mem_drop (List.mem_of_mem_take hxm))
      obtain ⟨t, s2, e2, t0, t1, D2, K2⟩ := draw (k := k + 1) (many := 3) D' (by decide) (by decide)
      obtain ⟨f, hf⟩ := three t0 t1
      refine ⟨.tup [.int v, .int f], s2, ?_, D2, K2, trivial⟩
      simp -implicitDefEqProofs -dsimp only [↓bind_K, ↓out_K, ↓then_K, ↓optR_K, ↓cond_K, ↓forL_K, ↓lcL_K, ↓whileL_K, ↓catch_K, ↓catchK_nx, ↓catchK_rt, ↓catchK_exc, unset_rt, hush_rt, hush_nx, hush_ct, fin_exc, ↓bindK_ok, ↓outK_ok, ↓bindK_exc, ↓outK_exc, ↓thenK_nx, ↓thenK_rt, ↓thenK_exc, ↓thenK_bk, ↓thenK_ct, ↓optRK_some, ↓quiet_ok, ↓condK_t, ↓condK_f, ↓truth_bl, qE_slot, qE_isx, qE_k, qE_glob, qE_bin, qE_neg, qE_not, qE_and, qE_or, qE_cmp, qE_chain, qE_ife, qE_ix, qE_slc, qE_rev, qE_tup, qE_lst, qE_call, qE_bi, qE_isi, qE_meth, qE_lc, qE_smeth, qE_get2, qE_setd, qE_dnew, qEs_nil, qEs_cons, qAll_nil, qAll_cons, qO_no, qO_some, qI_seq, qI_range1, qI_range2, qI_range3, qI_zip, qI_enum, qI_rev, qT_name, qT_tup, qT_sub, qTs_nil, qTs_cons, qS_asg, qS_par, qS_aug, qS_ife, qS_for, qS_forD, qS_while, qS_ret, qS_retN, qS_drop, qS_pass, qS_brk, qS_cont, qS_raise, qS_try, qS_pick, qSs_nil, qSs_cons, dv_int, dv_bl, dv_str, dv_non, List.getElem?_cons_zero, List.getElem?_cons_succ, List.set_cons_zero, List.set_cons_succ, List.length_cons, List.length_nil, Nat.reduceAdd, Nat.reduceLT, if_true, fin_rt, fin_nx, at_0, at_1, at_2, at_3, itemV_ref, itemV_tup, cmp_eq_int, cmp_ne_int, cmp_lt_int, cmp_le_int, cmp_gt_int, cmp_ge_int, bin_add, bin_sub, bi_int_int, wipe, neg1, z3, e2, hf, z2])
  obtain ⟨r, s2, e2, D2, K2⟩ := signed_ok (k := k) (most := 2) D1 (by decide) (by decide)
  have c1' := cellL_of g1
  refine ⟨[.int r, .tup vs], s2, ?_, D2, (Kp.app.trans K1).trans K2⟩
  simp -implicitDefEqProofs -dsimp only [↓bind_K, ↓out_K, ↓then_K, ↓optR_K, ↓cond_K, ↓forL_K, ↓lcL_K, ↓whileL_K, ↓catch_K, ↓catchK_nx, ↓catchK_rt, ↓catchK_exc, unset_rt, hush_rt, hush_nx, hush_ct, fin_exc, ↓bindK_ok, ↓outK_ok, ↓bindK_exc, ↓outK_exc, ↓thenK_nx, ↓thenK_rt, ↓thenK_exc, ↓thenK_bk, ↓thenK_ct, ↓optRK_some, ↓quiet_ok, ↓condK_t, ↓condK_f, ↓truth_bl, qE_slot, qE_isx, qE_k, qE_glob, qE_bin, qE_neg, qE_not, qE_and, qE_or, qE_cmp, qE_chain, qE_ife, qE_ix, qE_slc, qE_rev, qE_tup, qE_lst, qE_call, qE_bi, qE_isi, qE_meth, qE_lc, qE_smeth, qE_get2, qE_setd, qE_dnew, qEs_nil, qEs_cons, qAll_nil, qAll_cons, qO_no, qO_some, qI_seq, qI_range1, qI_range2, qI_range3, qI_zip, qI_enum, qI_rev, qT_name, qT_tup, qT_sub, qTs_nil, qTs_cons, qS_asg, qS_par, qS_aug, qS_ife, qS_for, qS_forD, qS_while, qS_ret, qS_retN, qS_drop, qS_pass, qS_brk, qS_cont, qS_raise, qS_try, qS_pick, qSs_nil, qSs_cons, dv_int, dv_bl, dv_str, dv_non, List.getElem?_cons_zero, List.getElem?_cons_succ, List.set_cons_zero, List.set_cons_succ, List.length_cons, List.length_nil, Nat.reduceAdd, Nat.reduceLT, if_true, fin_rt, fin_nx, at_0, at_1, at_2, at_3, itemV_ref, itemV_tup, cmp_eq_int, cmp_ne_int, cmp_lt_int, cmp_le_int, cmp_gt_int, cmp_ge_int, bin_add, bin_sub, bi_int_int, call_10, b10, ↓e1, tuple_ref c1', e2, z2]
theorem info_ok {z : Str} (D : Dr s d) (hz : PyData.strOk z = true) : ∃ xs s', callAt Dt Gt subt (k + 3) 11 [.ref d, .str z] s = .ok (.tup xs) s' ∧ Dr s' d ∧ Kp d s s' := by
  have z2 := z_le 2 (by decide)
  have z1 := z_le 1 (by decide)
  have z0 := z_le 0 (by decide)
  have q1 := fun s => eq_str (s := s) hz (b := "clamp") (by decide +kernel)
  have q2 := fun s => eq_str (s := s) hz (b := "shift") (by decide +kernel)
  generalize decide (z = ("clamp" : Str)) = x1 at q1
  generalize decide (z = ("shift" : Str)) = x2 at q2
  cases x1 with
  | true =>
    obtain ⟨r, s1, e1, D1, K1⟩ := signed_ok (k := k) (most := 9) D (by decide) (by decide)
    obtain ⟨t, s2, e2, t0, t1, D2, K2⟩ := draw (k := k + 1) (many := 12) D1 (by decide) (by decide)
    refine ⟨[.int r, .int (r + t)], s2, ?_, D2, K1.trans K2⟩
    simp -implicitDefEqProofs -dsimp only [↓bind_K, ↓out_K, ↓then_K, ↓optR_K, ↓cond_K, ↓forL_K, ↓lcL_K, ↓whileL_K, ↓catch_K, ↓catchK_nx, ↓catchK_rt, ↓catchK_exc, unset_rt, hush_rt, hush_nx, hush_ct, fin_exc, ↓bindK_ok, ↓outK_ok, ↓bindK_exc, ↓outK_exc, ↓thenK_nx, ↓thenK_rt, ↓thenK_exc, ↓thenK_bk, ↓thenK_ct, ↓optRK_some, ↓quiet_ok, ↓condK_t, ↓condK_f, ↓truth_bl, qE_slot, qE_isx, qE_k, qE_glob, qE_bin, qE_neg, qE_not, qE_and, qE_or, qE_cmp, qE_chain, qE_ife, qE_ix, qE_slc, qE_rev, qE_tup, qE_lst, qE_call, qE_bi, qE_isi, qE_meth, qE_lc, qE_smeth, qE_get2, qE_setd, qE_dnew, qEs_nil, qEs_cons, qAll_nil, qAll_cons, qO_no, qO_some, qI_seq, qI_range1, qI_range2, qI_range3, qI_zip, qI_enum, qI_rev, qT_name, qT_tup, qT_sub, qTs_nil, qTs_cons, qS_asg, qS_par, qS_aug, qS_ife, qS_for, qS_forD, qS_while, qS_ret, qS_retN, qS_drop, qS_pass, qS_brk, qS_cont, qS_raise, qS_try, qS_pick, qSs_nil, qSs_cons, dv_int, dv_bl, dv_str, dv_non, List.getElem?_cons_zero, List.getElem?_cons_succ, List.set_cons_zero, List.set_cons_succ, List.length_cons, List.length_nil, Nat.reduceAdd, Nat.reduceLT, if_true, fin_rt, fin_nx, at_0, at_1, at_2, at_3, itemV_ref, itemV_tup, cmp_eq_int, cmp_ne_int, cmp_lt_int, cmp_le_int, cmp_gt_int, cmp_ge_int, bin_add, bin_sub, bi_int_int, call_11, b11, q1, e1, e2, z2]
  | false =>
    cases x2 with
    | true =>
      obtain ⟨t, s2, e2, t0, t1, D2, K2⟩ := draw (k := k + 1) (many := 3) D (by decide) (by decide)
      refine ⟨[.int (1 + t)], s2, ?_, D2, K2⟩
      simp -implicitDefEqProofs -dsimp only [↓bind_K, ↓out_K, ↓then_K, ↓optR_K, ↓cond_K, ↓forL_K, ↓lcL_K, ↓whileL_K, ↓catch_K, ↓catchK_nx, ↓catchK_rt, ↓catchK_exc, unset_rt, hush_rt, hush_nx, hush_ct, fin_exc, ↓bindK_ok, ↓outK_ok, ↓bindK_exc, ↓outK_exc, ↓thenK_nx, ↓thenK_rt, ↓thenK_exc, ↓thenK_bk, ↓thenK_ct, ↓optRK_some, ↓quiet_ok, ↓condK_t, ↓condK_f, ↓truth_bl, qE_slot, qE_isx, qE_k, qE_glob, qE_bin, qE_neg, qE_not, qE_and, qE_or, qE_cmp, qE_chain, qE_ife, qE_ix, qE_slc, qE_rev, qE_tup, qE_lst, qE_call, qE_bi, qE_isi, qE_meth, qE_lc, qE_smeth, qE_get2, qE_setd, qE_dnew, qEs_nil, qEs_cons, qAll_nil, qAll_cons, qO_no, qO_some, qI_seq, qI_range1, qI_range2, qI_range3, qI_zip, qI_enum, qI_rev, qT_name, qT_tup, qT_sub, qTs_nil, qTs_cons, qS_asg, qS_par, qS_aug, qS_ife, qS_for, qS_forD, qS_while, qS_ret, qS_retN, qS_drop, qS_pass, qS_brk, qS_cont, qS_raise, qS_try, qS_pick, qSs_nil, qSs_cons, dv_int, dv_bl, dv_str, dv_non, List.getElem?_cons_zero, List.getElem?_cons_succ, List.set_cons_zero, List.set_cons_succ, List.length_cons, List.length_nil, Nat.reduceAdd, Nat.reduceLT, if_true, fin_rt, fin_nx, at_0, at_1, at_2, at_3, itemV_ref, itemV_tup, cmp_eq_int, cmp_ne_int, cmp_lt_int, cmp_le_int, cmp_gt_int, cmp_ge_int, bin_add, bin_sub, bi_int_int, call_11, b11, q1, q2, e2, z1]
    | false =>
      refine ⟨[], s, ?_, D, Kp.refl⟩
      simp -implicitDefEqProofs -dsimp only [↓bind_K, ↓out_K, ↓then_K, ↓optR_K, ↓cond_K, ↓forL_K, ↓lcL_K, ↓whileL_K, ↓catch_K, ↓catchK_nx, ↓catchK_rt, ↓catchK_exc, unset_rt, hush_rt, hush_nx, hush_ct, fin_exc, ↓bindK_ok, ↓outK_ok, ↓bindK_exc, ↓outK_exc, ↓thenK_nx, ↓thenK_rt, ↓thenK_exc, ↓thenK_bk, ↓thenK_ct, ↓optRK_some, ↓quiet_ok, ↓condK_t, ↓condK_f, ↓truth_bl, qE_slot, qE_isx, qE_k, qE_glob, qE_bin, qE_neg, qE_not, qE_and, qE_or, qE_cmp, qE_chain, qE_ife, qE_ix, qE_slc, qE_rev, qE_tup, qE_lst, qE_call, qE_bi, qE_isi, qE_meth, qE_lc, qE_smeth, qE_get2, qE_setd, qE_dnew, qEs_nil, qEs_cons, qAll_nil, qAll_cons, qO_no, qO_some, qI_seq, qI_range1, qI_range2, qI_range3, qI_zip, qI_enum, qI_rev, qT_name, qT_tup, qT_sub, qTs_nil, qTs_cons, qS_asg, qS_par, qS_aug, qS_ife, qS_for, qS_forD, qS_while, qS_ret, qS_retN, qS_drop, qS_pass, qS_brk, qS_cont, qS_raise, qS_try, qS_pick, qSs_nil, qSs_cons, dv_int, dv_bl, dv_str, dv_non, List.getElem?_cons_zero, List.getElem?_cons_succ, List.set_cons_zero, List.set_cons_succ, List.length_cons, List.length_nil, Nat.reduceAdd, Nat.reduceLT, if_true, fin_rt, fin_nx, at_0, at_1, at_2, at_3, itemV_ref, itemV_tup, cmp_eq_int, cmp_ne_int, cmp_lt_int, cmp_le_int, cmp_gt_int, cmp_ge_int, bin_add, bin_sub, bi_int_int, call_11, b11, q1, q2, z0]
end
/-- the expressions that are made -/
inductive Ex where
  | num (x : Int) | idx (xs : List DV) | load (j : Int) (xs : List DV) | pick (j : Int) (xs : List DV) (y z : Int) (e : Ex) | guard (xs : List DV) (a b : Ex)
  | app1 (z : Str) (a : Ex) (xs : List DV) | app2 (z : Str) (a b : Ex) (xs : List DV) | app3 (z : Str) (a b c : Ex) (xs : List DV)
def Ex.tl : Ex → List DV
  | .num x => [.str "number", .int x]
  | .idx xs => [.str "index", .tup xs]
  | .load j xs => [.str "load", .int j, .tup xs]
  | .pick j xs y z e => [.str "pick", .int j, .tup xs, .int y, .int z, .tup e.tl]
  | .guard xs a b => [.str "guard", .tup xs, .tup a.tl, .tup b.tl]
  | .app1 z a xs => [.str "apply", .str z, .tup [.tup a.tl], .tup xs]
  | .app2 z a b xs => [.str "apply", .str z, .tup [.tup a.tl, .tup b.tl], .tup xs]
  | .app3 z a b c xs => [.str "apply", .str z, .tup [.tup a.tl, .tup b.tl, .tup c.tl], .tup xs]
def Ex.ht : Ex → Nat
  | .num _ => 2
  | .idx _ => 2
  | .load _ _ => 2
  | .pick _ _ _ _ e => e.ht + 1
  | .guard _ a b => max a.ht b.ht + 1
  | .app1 _ a _ => a.ht + 1
  | .app2 _ a b _ => max a.ht b.ht + 1
  | .app3 _ a b c _ => max a.ht (max b.ht c.ht) + 1
section
variable {k d : Nat} {s s' : Store}
/-- what holds of the buffers -/
def BsV (bs : List (Str × Int)) : Prop := bs ≠ [] ∧ bs.length ≤ 10 ∧ (∀ b ∈ bs, 1 ≤ b.2 ∧ b.2 ≤ 5 ∧ PyData.strOk b.1 = true) ∧ (∃ b ∈ bs, b.1 ≠ "near") ∧ ∃ b ∈ bs, b.1 ≠ "in"
theorem BsV.at_ {bs : List (Str × Int)} (h : BsV bs) {i : Int} (h0 : 0 ≤ i) (h1 : i < bs.length) : ∃ b, L2.atI bs i = some b ∧ 1 ≤ b.2 ∧ b.2 ≤ 5 ∧ PyData.strOk b.1 = true := by
  obtain ⟨b, e, hm⟩ := atI_ex h0 h1
  exact ⟨b, e, h.2.2.1 b hm⟩
theorem BsV.pos {bs : List (Str × Int)} (h : BsV bs) : (0 : Int) < bs.length := by
  have := List.length_pos_iff.mpr h.1
  omega
theorem kinds_at {r : Int} (h0 : 0 ≤ r) (h1 : r < 12) : ∃ z : Str, L2.atI [DV.str "add", .str "sub", .str "mul", .str "max", .str "min", .str "less", .str "equal", .str "neg", .str "clamp", .str "shift", .str "where", .str "add"] r = some (.str z) ∧ PyData.strOk z = true := by
  obtain ⟨j, rfl⟩ : ∃ j : Nat, r = (j : Int) := ⟨r.toNat, by omega⟩
  have hj : j < 12 := by omega
  match j, hj with
  | 0, _ => exact ⟨_, L2.atI_nat rfl, by decide +kernel⟩
  | 1, _ => exact ⟨_, L2.atI_nat rfl, by decide +kernel⟩
  | 2, _ => exact ⟨_, L2.atI_nat rfl, by decide +kernel⟩
  | 3, _ => exact ⟨_, L2.atI_nat rfl, by decide +kernel⟩
  | 4, _ => exact ⟨_, L2.atI_nat rfl, by decide +kernel⟩
  | 5, _ => exact ⟨_, L2.atI_nat rfl, by decide +kernel⟩
  | 6, _ => exact ⟨_, L2.atI_nat rfl, by decide +kernel⟩
  | 7, _ => exact ⟨_, L2.atI_nat rfl, by decide +kernel⟩
  | 8, _ => exact ⟨_, L2.atI_nat rfl, by decide +kernel⟩
  | 9, _ => exact ⟨_, L2.atI_nat rfl, by decide +kernel⟩
  | 10, _ => exact ⟨_, L2.atI_nat rfl, by decide +kernel⟩
  | 11, _ => exact ⟨_, L2.atI_nat rfl, by decide +kernel⟩
theorem three0 {r : Int} (h0 : 0 ≤ r) (h1 : r < 3) : ∃ f : Int, L2.atI [DV.int 1, .int 0, .int 2] r = some (.int f) ∧ 0 ≤ f ∧ f ≤ 2 := by
  have : r = 0 ∨ r = 1 ∨ r = 2 := by omega
  rcases this with rfl | rfl | rfl
  · exact ⟨1, at_0, by decide⟩
  · exact ⟨0, at_1, by decide⟩
  · exact ⟨2, at_2, by decide⟩
theorem in3 {z a b c : Str} {s : Store} : cmpV .in (.str z) (.tup [.str a, .str b, .str c]) s = .ok ([a, b, c].any fun y => decide (y = z)) s := rfl
/-- one more level -/
def ExGen (K : Nat) (lv : Int) (h : Nat) : Prop := ∀ (d : Nat) (s : Store) (B E : DV) (bs : List (Str × Int)), Dr s d → EnvV d s E 20 → BufV d s B bs → BsV bs →
  ∃ (e : Ex) (s' : Store), callAt Dt Gt subt K 12 [.ref d, B, E, .int lv] s = .ok (.tup e.tl) s' ∧ Dr s' d ∧ Kp d s s' ∧ e.ht ≤ h
theorem buf_or {B : DV} {bs : List (Str × Int)} (h : BufV d s B bs) : (∃ xs, B = .tup xs) ∨ ∃ r, B = .ref r := by
  rcases h with rfl | ⟨r, rfl, _⟩
  · exact .inl ⟨_, rfl⟩
  · exact .inr ⟨r, rfl⟩
theorem ex_step {lv : Int} {h : Nat} (hh : 2 ≤ h) (ih : lv < 3 → ExGen (k + 3) (lv + 1) h) : ExGen (k + 4) lv (h + 1) := by
  intro d s B E bs D hE hB hb
  obtain ⟨er, hEr⟩ : ∃ er, E = .ref er := by
    obtain ⟨er, _, e, _⟩ := hE
    exact ⟨er, e⟩
  have hBo := buf_or hB
  subst hEr
  have z2 := z_le 2 (by decide)
  have z3 := z_le 3 (by decide)
  have z4 := z_le 4 (by decide)
  have z6 := z_le 6 (by decide)
  have z12 := z_le 12 (by decide)
  obtain ⟨mn, s1, e1, m0, m9, D1, K1⟩ : ∃ mn s1, evE (callAt Dt Gt subt (k + 3)) Gt subt (.ife (.cmp .lt (.slot 3) (.k (.int 3))) (.call 7 (.cons (.slot 0) (.cons (.k (.int 9)) (.nil)))) (.call 7 (.cons (.slot 0) (.cons (.k (.int 4)) (.nil))))) [some (.ref d), some B, some (.ref er), some (.int lv), none, none, none, none, none, none, none, none, none, none, none] s = .ok (.int mn) s1 ∧ 0 ≤ mn ∧ (4 ≤ mn → lv < 3) ∧ Dr s1 d ∧ Kp d s s1 := by
    by_cases hl : lv < 3
    · have q : decide (lv < 3) = true := decide_eq_true hl
      obtain ⟨r, s1, e1, r0, r1, D1, K1⟩ := draw (k := k + 2) (many := 9) D (by decide) (by decide)
      refine ⟨r, s1, ?_, r0, fun _ => hl, D1, K1⟩
      simp -implicitDefEqProofs -dsimp only [↓bind_K, ↓out_K, ↓then_K, ↓optR_K, ↓cond_K, ↓forL_K, ↓lcL_K, ↓whileL_K, ↓catch_K, ↓catchK_nx, ↓catchK_rt, ↓catchK_exc, unset_rt, hush_rt, hush_nx, hush_ct, fin_exc, ↓bindK_ok, ↓outK_ok, ↓bindK_exc, ↓outK_exc, ↓thenK_nx, ↓thenK_rt, ↓thenK_exc, ↓thenK_bk, ↓thenK_ct, ↓optRK_some, ↓quiet_ok, ↓condK_t, ↓condK_f, ↓truth_bl, qE_slot, qE_isx, qE_k, qE_glob, qE_bin, qE_neg, qE_not, qE_and, qE_or, qE_cmp, qE_chain, qE_ife, qE_ix, qE_slc, qE_rev, qE_tup, qE_lst, qE_call, qE_bi, qE_isi, qE_meth, qE_lc, qE_smeth, qE_get2, qE_setd, qE_dnew, qEs_nil, qEs_cons, qAll_nil, qAll_cons, qO_no, qO_some, qI_seq, qI_range1, qI_range2, qI_range3, qI_zip, qI_enum, qI_rev, qT_name, qT_tup, qT_sub, qTs_nil, qTs_cons, qS_asg, qS_par, qS_aug, qS_ife, qS_for, qS_forD, qS_while, qS_ret, qS_retN, qS_drop, qS_pass, qS_brk, qS_cont, qS_raise, qS_try, qS_pick, qSs_nil, qSs_cons, dv_int, dv_bl, dv_str, dv_non, List.getElem?_cons_zero, List.getElem?_cons_succ, List.set_cons_zero, List.set_cons_succ, List.length_cons, List.length_nil, Nat.reduceAdd, Nat.reduceLT, if_true, fin_rt, fin_nx, at_0, at_1, at_2, at_3, itemV_ref, itemV_tup, cmp_eq_int, cmp_ne_int, cmp_lt_int, cmp_le_int, cmp_gt_int, cmp_ge_int, bin_add, bin_sub, bi_int_int, q, e1]
    · have q : decide (lv < 3) = false := decide_eq_false hl
      obtain ⟨r, s1, e1, r0, r1, D1, K1⟩ := draw (k := k + 2) (many := 4) D (by decide) (by decide)
      refine ⟨r, s1, ?_, r0, fun h => absurd h (by omega), D1, K1⟩
      simp -implicitDefEqProofs -dsimp only [↓bind_K, ↓out_K, ↓then_K, ↓optR_K, ↓cond_K, ↓forL_K, ↓lcL_K, ↓whileL_K, ↓catch_K, ↓catchK_nx, ↓catchK_rt, ↓catchK_exc, unset_rt, hush_rt, hush_nx, hush_ct, fin_exc, ↓bindK_ok, ↓outK_ok, ↓bindK_exc, ↓outK_exc, ↓thenK_nx, ↓thenK_rt, ↓thenK_exc, ↓thenK_bk, ↓thenK_ct, ↓optRK_some, ↓quiet_ok, ↓condK_t, ↓condK_f, ↓truth_bl, qE_slot, qE_isx, qE_k, qE_glob, qE_bin, qE_neg, qE_not, qE_and, qE_or, qE_cmp, qE_chain, qE_ife, qE_ix, qE_slc, qE_rev, qE_tup, qE_lst, qE_call, qE_bi, qE_isi, qE_meth, qE_lc, qE_smeth, qE_get2, qE_setd, qE_dnew, qEs_nil, qEs_cons, qAll_nil, qAll_cons, qO_no, qO_some, qI_seq, qI_range1, qI_range2, qI_range3, qI_zip, qI_enum, qI_rev, qT_name, qT_tup, qT_sub, qTs_nil, qTs_cons, qS_asg, qS_par, qS_aug, qS_ife, qS_for, qS_forD, qS_while, qS_ret, qS_retN, qS_drop, qS_pass, qS_brk, qS_cont, qS_raise, qS_try, qS_pick, qSs_nil, qSs_cons, dv_int, dv_bl, dv_str, dv_non, List.getElem?_cons_zero, List.getElem?_cons_succ, List.set_cons_zero, List.set_cons_succ, List.length_cons, List.length_nil, Nat.reduceAdd, Nat.reduceLT, if_true, fin_rt, fin_nx, at_0, at_1, at_2, at_3, itemV_ref, itemV_tup, cmp_eq_int, cmp_ne_int, cmp_lt_int, cmp_le_int, cmp_gt_int, cmp_ge_int, bin_add, bin_sub, bi_int_int, q, e1]
  have hE1 := hE.kp K1
  have hB1 := hB.kp K1
  by_cases c0 : mn = 0
  · have q0 : (mn == 0) = true := beq_iff_eq.mpr c0
    obtain ⟨r, s2, e2, D2, K2⟩ := signed_ok (k := k + 1) (most := 9) D1 (by decide) (by decide)
    refine ⟨.num r, s2, ?_, D2, K1.trans K2, by show 2 ≤ h + 1; omega⟩
    simp -implicitDefEqProofs -dsimp only [↓bind_K, ↓out_K, ↓then_K, ↓optR_K, ↓cond_K, ↓forL_K, ↓lcL_K, ↓whileL_K, ↓catch_K, ↓catchK_nx, ↓catchK_rt, ↓catchK_exc, unset_rt, hush_rt, hush_nx, hush_ct, fin_exc, ↓bindK_ok, ↓outK_ok, ↓bindK_exc, ↓outK_exc, ↓thenK_nx, ↓thenK_rt, ↓thenK_exc, ↓thenK_bk, ↓thenK_ct, ↓optRK_some, ↓quiet_ok, ↓condK_t, ↓condK_f, ↓truth_bl, qE_slot, qE_isx, qE_k, qE_glob, qE_bin, qE_neg, qE_not, qE_and, qE_or, qE_cmp, qE_chain, qE_ife, qE_ix, qE_slc, qE_rev, qE_tup, qE_lst, qE_call, qE_bi, qE_isi, qE_meth, qE_lc, qE_smeth, qE_get2, qE_setd, qE_dnew, qEs_nil, qEs_cons, qAll_nil, qAll_cons, qO_no, qO_some, qI_seq, qI_range1, qI_range2, qI_range3, qI_zip, qI_enum, qI_rev, qT_name, qT_tup, qT_sub, qTs_nil, qTs_cons, qS_asg, qS_par, qS_aug, qS_ife, qS_for, qS_forD, qS_while, qS_ret, qS_retN, qS_drop, qS_pass, qS_brk, qS_cont, qS_raise, qS_try, qS_pick, qSs_nil, qSs_cons, dv_int, dv_bl, dv_str, dv_non, List.getElem?_cons_zero, List.getElem?_cons_succ, List.set_cons_zero, List.set_cons_succ, List.length_cons, List.length_nil, Nat.reduceAdd, Nat.reduceLT, if_true, fin_rt, fin_nx, at_0, at_1, at_2, at_3, itemV_ref, itemV_tup, cmp_eq_int, cmp_ne_int, cmp_lt_int, cmp_le_int, cmp_gt_int, cmp_ge_int, bin_add, bin_sub, bi_int_int, call_12, b12, ↓e1, q0, e2, z2, Ex.tl]
  have q0 : (mn == 0) = false := beq_eq_false_iff_ne.mpr c0
  by_cases c1 : mn = 1
  · have q1 : (mn == 1) = true := beq_iff_eq.mpr c1
    obtain ⟨xs, s2, e2, D2, K2⟩ := test_ok (k := k) D1 hE1
    refine ⟨.idx xs, s2, ?_, D2, K1.trans K2, by show 2 ≤ h + 1; omega⟩
    simp -implicitDefEqProofs -dsimp only [↓bind_K, ↓out_K, ↓then_K, ↓optR_K, ↓cond_K, ↓forL_K, ↓lcL_K, ↓whileL_K, ↓catch_K, ↓catchK_nx, ↓catchK_rt, ↓catchK_exc, unset_rt, hush_rt, hush_nx, hush_ct, fin_exc, ↓bindK_ok, ↓outK_ok, ↓bindK_exc, ↓outK_exc, ↓thenK_nx, ↓thenK_rt, ↓thenK_exc, ↓thenK_bk, ↓thenK_ct, ↓optRK_some, ↓quiet_ok, ↓condK_t, ↓condK_f, ↓truth_bl, qE_slot, qE_isx, qE_k, qE_glob, qE_bin, qE_neg, qE_not, qE_and, qE_or, qE_cmp, qE_chain, qE_ife, qE_ix, qE_slc, qE_rev, qE_tup, qE_lst, qE_call, qE_bi, qE_isi, qE_meth, qE_lc, qE_smeth, qE_get2, qE_setd, qE_dnew, qEs_nil, qEs_cons, qAll_nil, qAll_cons, qO_no, qO_some, qI_seq, qI_range1, qI_range2, qI_range3, qI_zip, qI_enum, qI_rev, qT_name, qT_tup, qT_sub, qTs_nil, qTs_cons, qS_asg, qS_par, qS_aug, qS_ife, qS_for, qS_forD, qS_while, qS_ret, qS_retN, qS_drop, qS_pass, qS_brk, qS_cont, qS_raise, qS_try, qS_pick, qSs_nil, qSs_cons, dv_int, dv_bl, dv_str, dv_non, List.getElem?_cons_zero, List.getElem?_cons_succ, List.set_cons_zero, List.set_cons_succ, List.length_cons, List.length_nil, Nat.reduceAdd, Nat.reduceLT, if_true, fin_rt, fin_nx, at_0, at_1, at_2, at_3, itemV_ref, itemV_tup, cmp_eq_int, cmp_ne_int, cmp_lt_int, cmp_le_int, cmp_gt_int, cmp_ge_int, bin_add, bin_sub, bi_int_int, call_12, b12, ↓e1, q0, q1, e2, z2, Ex.tl]
  have q1 : (mn == 1) = false := beq_eq_false_iff_ne.mpr c1
  have hl1 := hB1.len
  obtain ⟨j, s2, e2, j0, j1, D2, K2⟩ := draw (k := k + 2) (many := (bs.length : Int)) D1 hb.pos (small_log (by omega) (by have := hb.2.1; omega))
  obtain ⟨b, hbi, b1, b2, _⟩ := hb.at_ j0 j1
  have K12 := K1.trans K2
  have hE2 := hE.kp K12
  have hB2 := hB.kp K12
  have i2 : itemV B (.int j) s2 = .ok (.tup [.str b.1, .int b.2]) s2 := hB2.at_ hbi
  by_cases c5 : mn < 5
  · have q5 : decide (mn < 5) = true := decide_eq_true c5
    obtain ⟨xs, s3, e3, D3, K3⟩ := form_ok (k := k + 1) (size := b.2) D2 hE2 b1 (by omega)
    refine ⟨.load j xs, s3, ?_, D3, K12.trans K3, by show 2 ≤ h + 1; omega⟩
    rcases hBo with ⟨_, rfl⟩ | ⟨_, rfl⟩ <;> simp -implicitDefEqProofs -dsimp only [↓bind_K, ↓out_K, ↓then_K, ↓optR_K, ↓cond_K, ↓forL_K, ↓lcL_K, ↓whileL_K, ↓catch_K, ↓catchK_nx, ↓catchK_rt, ↓catchK_exc, unset_rt, hush_rt, hush_nx, hush_ct, fin_exc, ↓bindK_ok, ↓outK_ok, ↓bindK_exc, ↓outK_exc, ↓thenK_nx, ↓thenK_rt, ↓thenK_exc, ↓thenK_bk, ↓thenK_ct, ↓optRK_some, ↓quiet_ok, ↓condK_t, ↓condK_f, ↓truth_bl, qE_slot, qE_isx, qE_k, qE_glob, qE_bin, qE_neg, qE_not, qE_and, qE_or, qE_cmp, qE_chain, qE_ife, qE_ix, qE_slc, qE_rev, qE_tup, qE_lst, qE_call, qE_bi, qE_isi, qE_meth, qE_lc, qE_smeth, qE_get2, qE_setd, qE_dnew, qEs_nil, qEs_cons, qAll_nil, qAll_cons, qO_no, qO_some, qI_seq, qI_range1, qI_range2, qI_range3, qI_zip, qI_enum, qI_rev, qT_name, qT_tup, qT_sub, qTs_nil, qTs_cons, qS_asg, qS_par, qS_aug, qS_ife, qS_for, qS_forD, qS_while, qS_ret, qS_retN, qS_drop, qS_pass, qS_brk, qS_cont, qS_raise, qS_try, qS_pick, qSs_nil, qSs_cons, dv_int, dv_bl, dv_str, dv_non, List.getElem?_cons_zero, List.getElem?_cons_succ, List.set_cons_zero, List.set_cons_succ, List.length_cons, List.length_nil, Nat.reduceAdd, Nat.reduceLT, if_true, fin_rt, fin_nx, at_0, at_1, at_2, at_3, itemV_ref, itemV_tup, cmp_eq_int, cmp_ne_int, cmp_lt_int, cmp_le_int, cmp_gt_int, cmp_ge_int, bin_add, bin_sub, bi_int_int, call_12, b12, ↓e1, q0, q1, hl1, e2, i2, q5, e3, z3, Ex.tl]
  have q5 : decide (mn < 5) = false := decide_eq_false c5
  have ih := ih (m9 (by omega))
  by_cases c6 : mn = 5
  · have q6 : (mn == 5) = true := beq_iff_eq.mpr c6
    obtain ⟨xs, s3, e3, D3, K3⟩ := test_ok (k := k) D2 hE2
    have K3' := K12.trans K3
    obtain ⟨x, s4, e4, D4, K4, x4⟩ := ih d s3 B (.ref er) bs D3 (hE.kp K3') (hB.kp K3') hb
    have K4' := K3'.trans K4
    obtain ⟨y, s5, e5, D5, K5, y5⟩ := ih d s4 B (.ref er) bs D4 (hE.kp K4') (hB.kp K4') hb
    refine ⟨.guard xs x y, s5, ?_, D5, K4'.trans K5, by show max x.ht y.ht + 1 ≤ h + 1; omega⟩
    rcases hBo with ⟨_, rfl⟩ | ⟨_, rfl⟩ <;> simp -implicitDefEqProofs -dsimp only [↓bind_K, ↓out_K, ↓then_K, ↓optR_K, ↓cond_K, ↓forL_K, ↓lcL_K, ↓whileL_K, ↓catch_K, ↓catchK_nx, ↓catchK_rt, ↓catchK_exc, unset_rt, hush_rt, hush_nx, hush_ct, fin_exc, ↓bindK_ok, ↓outK_ok, ↓bindK_exc, ↓outK_exc, ↓thenK_nx, ↓thenK_rt, ↓thenK_exc, ↓thenK_bk, ↓thenK_ct, ↓optRK_some, ↓quiet_ok, ↓condK_t, ↓condK_f, ↓truth_bl, qE_slot, qE_isx, qE_k, qE_glob, qE_bin, qE_neg, qE_not, qE_and, qE_or, qE_cmp, qE_chain, qE_ife, qE_ix, qE_slc, qE_rev, qE_tup, qE_lst, qE_call, qE_bi, qE_isi, qE_meth, qE_lc, qE_smeth, qE_get2, qE_setd, qE_dnew, qEs_nil, qEs_cons, qAll_nil, qAll_cons, qO_no, qO_some, qI_seq, qI_range1, qI_range2, qI_range3, qI_zip, qI_enum, qI_rev, qT_name, qT_tup, qT_sub, qTs_nil, qTs_cons, qS_asg, qS_par, qS_aug, qS_ife, qS_for, qS_forD, qS_while, qS_ret, qS_retN, qS_drop, qS_pass, qS_brk, qS_cont, qS_raise, qS_try, qS_pick, qSs_nil, qSs_cons, dv_int, dv_bl, dv_str, dv_non, List.getElem?_cons_zero, List.getElem?_cons_succ, List.set_cons_zero, List.set_cons_succ, List.length_cons, List.length_nil, Nat.reduceAdd, Nat.reduceLT, if_true, fin_rt, fin_nx, at_0, at_1, at_2, at_3, itemV_ref, itemV_tup, cmp_eq_int, cmp_ne_int, cmp_lt_int, cmp_le_int, cmp_gt_int, cmp_ge_int, bin_add, bin_sub, bi_int_int, call_12, b12, ↓e1, q0, q1, hl1, e2, i2, q5, q6, e3, e4, e5, z4, Ex.tl]
  have q6 : (mn == 5) = false := beq_eq_false_iff_ne.mpr c6
  by_cases c7 : mn = 6
  · have q7 : (mn == 6) = true := beq_iff_eq.mpr c7
    have mi : ∀ s, biV .min2 [.int 4, .int b.2] s = .ok (.int (if b.2 < 4 then b.2 else 4)) s := fun s => rfl
    obtain ⟨w, hw⟩ : ∃ w, w = (if b.2 < 4 then b.2 else 4) := ⟨_, rfl⟩
    have w1 : 1 ≤ w ∧ w ≤ 4 ∧ w ≤ b.2 := by rw [hw]; split <;> omega
    rw [← hw] at mi
    obtain ⟨t, s3, e3, t0, t1, D3, K3⟩ := draw (k := k + 2) (many := w) D2 (by omega) (small_log (by omega) (by omega))
    have K3' := K12.trans K3
    -- the stride
    obtain ⟨st, s4, e4, D4, K4, st0, stb⟩ : ∃ st s4, (∀ w8 w9 w10 w11 w12 w13 w14, evE (callAt Dt Gt subt (k + 3)) Gt subt (.ife (.cmp .lt (.bin .mul (.k (.int 2)) (.bin .sub (.slot 7) (.k (.int 1)))) (.slot 6)) (.ix (.tup (.cons (.k (.int 1)) (.cons (.k (.int 0)) (.cons (.k (.int 2)) (.nil))))) (.call 7 (.cons (.slot 0) (.cons (.k (.int 3)) (.nil))))) (.k (.int 1))) [some (.ref d), some B, some (.ref er), some (.int lv), some (.int mn), some (.int j), some (.int b.2), some (.int (1 + t)), w8, w9, w10, w11, w12, w13, w14] s3 = .ok (.int st) s4) ∧ Dr s4 d ∧ Kp d s3 s4 ∧ 0 ≤ st * (1 + t - 1) ∧ st * (1 + t - 1) < b.2 := by
      have m2 : ∀ s, binV .mul (.int 2) (.int (1 + t - 1)) s = .ok (.int (2 * (1 + t - 1))) s := fun s => bin_mul (mulOk_l (by decide))
      by_cases hs : 2 * (1 + t - 1) < b.2
      · have q : decide (2 * (1 + t - 1) < b.2) = true := decide_eq_true hs
        obtain ⟨u, s4, e4, u0, u1, D4, K4⟩ := draw (k := k + 2) (many := 3) D3 (by decide) (by decide)
        obtain ⟨f, hf, f0, f2⟩ := three0 u0 u1
        refine ⟨f, s4, fun _ _ _ _ _ _ _ => ?_, D4, K4, Int.mul_nonneg f0 (by omega), ?_⟩
        · simp -implicitDefEqProofs -dsimp only [↓bind_K, ↓out_K, ↓then_K, ↓optR_K, ↓cond_K, ↓forL_K, ↓lcL_K, ↓whileL_K, ↓catch_K, ↓catchK_nx, ↓catchK_rt, ↓catchK_exc, unset_rt, hush_rt, hush_nx, hush_ct, fin_exc, ↓bindK_ok, ↓outK_ok, ↓bindK_exc, ↓outK_exc, ↓thenK_nx, ↓thenK_rt, ↓thenK_exc, ↓thenK_bk, ↓thenK_ct, ↓optRK_some, ↓quiet_ok, ↓condK_t, ↓condK_f, ↓truth_bl, qE_slot, qE_isx, qE_k, qE_glob, qE_bin, qE_neg, qE_not, qE_and, qE_or, qE_cmp, qE_chain, qE_ife, qE_ix, qE_slc, qE_rev, qE_tup, qE_lst, qE_call, qE_bi, qE_isi, qE_meth, qE_lc, qE_smeth, qE_get2, qE_setd, qE_dnew, qEs_nil, qEs_cons, qAll_nil, qAll_cons, qO_no, qO_some, qI_seq, qI_range1, qI_range2, qI_range3, qI_zip, qI_enum, qI_rev, qT_name, qT_tup, qT_sub, qTs_nil, qTs_cons, qS_asg, qS_par, qS_aug, qS_ife, qS_for, qS_forD, qS_while, qS_ret, qS_retN, qS_drop, qS_pass, qS_brk, qS_cont, qS_raise, qS_try, qS_pick, qSs_nil, qSs_cons, dv_int, dv_bl, dv_str, dv_non, List.getElem?_cons_zero, List.getElem?_cons_succ, List.set_cons_zero, List.set_cons_succ, List.length_cons, List.length_nil, Nat.reduceAdd, Nat.reduceLT, if_true, fin_rt, fin_nx, at_0, at_1, at_2, at_3, itemV_ref, itemV_tup, cmp_eq_int, cmp_ne_int, cmp_lt_int, cmp_le_int, cmp_gt_int, cmp_ge_int, bin_add, bin_sub, bi_int_int, m2, q, z3, e4, hf]
        · have := Int.mul_le_mul_of_nonneg_right f2 (show 0 ≤ 1 + t - 1 by omega)
          omega
      · have q : decide (2 * (1 + t - 1) < b.2) = false := decide_eq_false hs
        refine ⟨1, s3, fun _ _ _ _ _ _ _ => ?_, D3, Kp.refl, by omega, by omega⟩
        simp -implicitDefEqProofs -dsimp only [↓bind_K, ↓out_K, ↓then_K, ↓optR_K, ↓cond_K, ↓forL_K, ↓lcL_K, ↓whileL_K, ↓catch_K, ↓catchK_nx, ↓catchK_rt, ↓catchK_exc, unset_rt, hush_rt, hush_nx, hush_ct, fin_exc, ↓bindK_ok, ↓outK_ok, ↓bindK_exc, ↓outK_exc, ↓thenK_nx, ↓thenK_rt, ↓thenK_exc, ↓thenK_bk, ↓thenK_ct, ↓optRK_some, ↓quiet_ok, ↓condK_t, ↓condK_f, ↓truth_bl, qE_slot, qE_isx, qE_k, qE_glob, qE_bin, qE_neg, qE_not, qE_and, qE_or, qE_cmp, qE_chain, qE_ife, qE_ix, qE_slc, qE_rev, qE_tup, qE_lst, qE_call, qE_bi, qE_isi, qE_meth, qE_lc, qE_smeth, qE_get2, qE_setd, qE_dnew, qEs_nil, qEs_cons, qAll_nil, qAll_cons, qO_no, qO_some, qI_seq, qI_range1, qI_range2, qI_range3, qI_zip, qI_enum, qI_rev, qT_name, qT_tup, qT_sub, qTs_nil, qTs_cons, qS_asg, qS_par, qS_aug, qS_ife, qS_for, qS_forD, qS_while, qS_ret, qS_retN, qS_drop, qS_pass, qS_brk, qS_cont, qS_raise, qS_try, qS_pick, qSs_nil, qSs_cons, dv_int, dv_bl, dv_str, dv_non, List.getElem?_cons_zero, List.getElem?_cons_succ, List.set_cons_zero, List.set_cons_succ, List.length_cons, List.length_nil, Nat.reduceAdd, Nat.reduceLT, if_true, fin_rt, fin_nx, at_0, at_1, at_2, at_3, itemV_ref, itemV_tup, cmp_eq_int, cmp_ne_int, cmp_lt_int, cmp_le_int, cmp_gt_int, cmp_ge_int, bin_add, bin_sub, bi_int_int, m2, q]
    have K4' := K3'.trans K4
    have m4 : ∀ s, binV .mul (.int st) (.int (1 + t - 1)) s = .ok (.int (st * (1 + t - 1))) s := fun s => bin_mul (mulOk_r (by
      have : (2 : Nat) ^ 64 = 18446744073709551616 := by decide
      omega))
    obtain ⟨xs, s5, e5, D5, K5⟩ := form_ok (k := k + 1) (size := b.2 - st * (1 + t - 1)) D4 (hE.kp K4') (by omega) (by omega)
    have K5' := K4'.trans K5
    obtain ⟨x, s6, e6, D6, K6, x6⟩ := ih d s5 B (.ref er) bs D5 (hE.kp K5') (hB.kp K5') hb
    refine ⟨.pick j xs st (1 + t) x, s6, ?_, D6, K5'.trans K6, by show x.ht + 1 ≤ h + 1; omega⟩
    rcases hBo with ⟨_, rfl⟩ | ⟨_, rfl⟩ <;> simp -implicitDefEqProofs -dsimp only [↓bind_K, ↓out_K, ↓then_K, ↓optR_K, ↓cond_K, ↓forL_K, ↓lcL_K, ↓whileL_K, ↓catch_K, ↓catchK_nx, ↓catchK_rt, ↓catchK_exc, unset_rt, hush_rt, hush_nx, hush_ct, fin_exc, ↓bindK_ok, ↓outK_ok, ↓bindK_exc, ↓outK_exc, ↓thenK_nx, ↓thenK_rt, ↓thenK_exc, ↓thenK_bk, ↓thenK_ct, ↓optRK_some, ↓quiet_ok, ↓condK_t, ↓condK_f, ↓truth_bl, qE_slot, qE_isx, qE_k, qE_glob, qE_bin, qE_neg, qE_not, qE_and, qE_or, qE_cmp, qE_chain, qE_ife, qE_ix, qE_slc, qE_rev, qE_tup, qE_lst, qE_call, qE_bi, qE_isi, qE_meth, qE_lc, qE_smeth, qE_get2, qE_setd, qE_dnew, qEs_nil, qEs_cons, qAll_nil, qAll_cons, qO_no, qO_some, qI_seq, qI_range1, qI_range2, qI_range3, qI_zip, qI_enum, qI_rev, qT_name, qT_tup, qT_sub, qTs_nil, qTs_cons, qS_asg, qS_par, qS_aug, qS_ife, qS_for, qS_forD, qS_while, qS_ret, qS_retN, qS_drop, qS_pass, qS_brk, qS_cont, qS_raise, qS_try, qS_pick, qSs_nil, qSs_cons, dv_int, dv_bl, dv_str, dv_non, List.getElem?_cons_zero, List.getElem?_cons_succ, List.set_cons_zero, List.set_cons_succ, List.length_cons, List.length_nil, Nat.reduceAdd, Nat.reduceLT, if_true, fin_rt, fin_nx, at_0, at_1, at_2, at_3, itemV_ref, itemV_tup, cmp_eq_int, cmp_ne_int, cmp_lt_int, cmp_le_int, cmp_gt_int, cmp_ge_int, bin_add, bin_sub, bi_int_int, call_12, b12, ↓e1, q0, q1, hl1, e2, i2, q5, q6, q7, mi, e3, ↓e4, m4, e5, e6, z6, Ex.tl]
  have q7 : (mn == 6) = false := beq_eq_false_iff_ne.mpr c7
  obtain ⟨t, s3, e3, t0, t1, D3, K3⟩ := draw (k := k + 2) (many := 12) D2 (by decide) (by decide)
  obtain ⟨z, hz, hzo⟩ := kinds_at t0 t1
  have K3' := K12.trans K3
  have i3 := fun s => in3 (s := s) (z := z) (a := "neg") (b := "clamp") (c := "shift")
  have w3 := fun s => eq_str (s := s) hzo (b := "where") (by decide +kernel)
  generalize ([("neg" : Str), "clamp", "shift"].any fun y => decide (y = z)) = x1 at i3
  generalize decide (z = ("where" : Str)) = x2 at w3
  obtain ⟨many, hm0, hm3, em⟩ : ∃ many : Nat, 1 ≤ many ∧ many ≤ 3 ∧ ∀ w12 w13 w14, evE (callAt Dt Gt subt (k + 3)) Gt subt (.ife (.cmp .«in» (.slot 11) (.tup (.cons (.k (.str "neg")) (.cons (.k (.str "clamp")) (.cons (.k (.str "shift")) (.nil)))))) (.k (.int 1)) (.ife (.cmp .eq (.slot 11) (.k (.str "where"))) (.k (.int 3)) (.k (.int 2))))
      [some (.ref d), some B, some (.ref er), some (.int lv), some (.int mn), some (.int j), some (.int b.2), none, none, none, some (.tup [.str "add", .str "sub", .str "mul", .str "max", .str "min", .str "less", .str "equal", .str "neg", .str "clamp", .str "shift", .str "where", .str "add"]), some (.str z), w12, w13, w14] s3 = .ok (.int (many : Int)) s3 := by
    cases x1 with
    | true =>
      refine ⟨1, by decide, by decide, fun _ _ _ => ?_⟩
      simp -implicitDefEqProofs -dsimp only [↓bind_K, ↓out_K, ↓then_K, ↓optR_K, ↓cond_K, ↓forL_K, ↓lcL_K, ↓whileL_K, ↓catch_K, ↓catchK_nx, ↓catchK_rt, ↓catchK_exc, unset_rt, hush_rt, hush_nx, hush_ct, fin_exc, ↓bindK_ok, ↓outK_ok, ↓bindK_exc, ↓outK_exc, ↓thenK_nx, ↓thenK_rt, ↓thenK_exc, ↓thenK_bk, ↓thenK_ct, ↓optRK_some, ↓quiet_ok, ↓condK_t, ↓condK_f, ↓truth_bl, qE_slot, qE_isx, qE_k, qE_glob, qE_bin, qE_neg, qE_not, qE_and, qE_or, qE_cmp, qE_chain, qE_ife, qE_ix, qE_slc, qE_rev, qE_tup, qE_lst, qE_call, qE_bi, qE_isi, qE_meth, qE_lc, qE_smeth, qE_get2, qE_setd, qE_dnew, qEs_nil, qEs_cons, qAll_nil, qAll_cons, qO_no, qO_some, qI_seq, qI_range1, qI_range2, qI_range3, qI_zip, qI_enum, qI_rev, qT_name, qT_tup, qT_sub, qTs_nil, qTs_cons, qS_asg, qS_par, qS_aug, qS_ife, qS_for, qS_forD, qS_while, qS_ret, qS_retN, qS_drop, qS_pass, qS_brk, qS_cont, qS_raise, qS_try, qS_pick, qSs_nil, qSs_cons, dv_int, dv_bl, dv_str, dv_non, List.getElem?_cons_zero, List.getElem?_cons_succ, List.set_cons_zero, List.set_cons_succ, List.length_cons, List.length_nil, Nat.reduceAdd, Nat.reduceLT, if_true, fin_rt, fin_nx, at_0, at_1, at_2, at_3, itemV_ref, itemV_tup, cmp_eq_int, cmp_ne_int, cmp_lt_int, cmp_le_int, cmp_gt_int, cmp_ge_int, bin_add, bin_sub, bi_int_int, z3, i3]
      rfl
    | false =>
      cases x2 with
      | true =>
        refine ⟨3, by decide, by decide, fun _ _ _ => ?_⟩
        simp -implicitDefEqProofs -dsimp only [↓bind_K, ↓out_K, ↓then_K, ↓optR_K, ↓cond_K, ↓forL_K, ↓lcL_K, ↓whileL_K, ↓catch_K, ↓catchK_nx, ↓catchK_rt, ↓catchK_exc, unset_rt, hush_rt, hush_nx, hush_ct, fin_exc, ↓bindK_ok, ↓outK_ok, ↓bindK_exc, ↓outK_exc, ↓thenK_nx, ↓thenK_rt, ↓thenK_exc, ↓thenK_bk, ↓thenK_ct, ↓optRK_some, ↓quiet_ok, ↓condK_t, ↓condK_f, ↓truth_bl, qE_slot, qE_isx, qE_k, qE_glob, qE_bin, qE_neg, qE_not, qE_and, qE_or, qE_cmp, qE_chain, qE_ife, qE_ix, qE_slc, qE_rev, qE_tup, qE_lst, qE_call, qE_bi, qE_isi, qE_meth, qE_lc, qE_smeth, qE_get2, qE_setd, qE_dnew, qEs_nil, qEs_cons, qAll_nil, qAll_cons, qO_no, qO_some, qI_seq, qI_range1, qI_range2, qI_range3, qI_zip, qI_enum, qI_rev, qT_name, qT_tup, qT_sub, qTs_nil, qTs_cons, qS_asg, qS_par, qS_aug, qS_ife, qS_for, qS_forD, qS_while, qS_ret, qS_retN, qS_drop, qS_pass, qS_brk, qS_cont, qS_raise, qS_try, qS_pick, qSs_nil, qSs_cons, dv_int, dv_bl, dv_str, dv_non, List.getElem?_cons_zero, List.getElem?_cons_succ, List.set_cons_zero, List.set_cons_succ, List.length_cons, List.length_nil, Nat.reduceAdd, Nat.reduceLT, if_true, fin_rt, fin_nx, at_0, at_1, at_2, at_3, itemV_ref, itemV_tup, cmp_eq_int, cmp_ne_int, cmp_lt_int, cmp_le_int, cmp_gt_int, cmp_ge_int, bin_add, bin_sub, bi_int_int, z3, i3, w3]
        rfl
      | false =>
        refine ⟨2, by decide, by decide, fun _ _ _ => ?_⟩
        simp -implicitDefEqProofs -dsimp only [↓bind_K, ↓out_K, ↓then_K, ↓optR_K, ↓cond_K, ↓forL_K, ↓lcL_K, ↓whileL_K, ↓catch_K, ↓catchK_nx, ↓catchK_rt, ↓catchK_exc, unset_rt, hush_rt, hush_nx, hush_ct, fin_exc, ↓bindK_ok, ↓outK_ok, ↓bindK_exc, ↓outK_exc, ↓thenK_nx, ↓thenK_rt, ↓thenK_exc, ↓thenK_bk, ↓thenK_ct, ↓optRK_some, ↓quiet_ok, ↓condK_t, ↓condK_f, ↓truth_bl, qE_slot, qE_isx, qE_k, qE_glob, qE_bin, qE_neg, qE_not, qE_and, qE_or, qE_cmp, qE_chain, qE_ife, qE_ix, qE_slc, qE_rev, qE_tup, qE_lst, qE_call, qE_bi, qE_isi, qE_meth, qE_lc, qE_smeth, qE_get2, qE_setd, qE_dnew, qEs_nil, qEs_cons, qAll_nil, qAll_cons, qO_no, qO_some, qI_seq, qI_range1, qI_range2, qI_range3, qI_zip, qI_enum, qI_rev, qT_name, qT_tup, qT_sub, qTs_nil, qTs_cons, qS_asg, qS_par, qS_aug, qS_ife, qS_for, qS_forD, qS_while, qS_ret, qS_retN, qS_drop, qS_pass, qS_brk, qS_cont, qS_raise, qS_try, qS_pick, qSs_nil, qSs_cons, dv_int, dv_bl, dv_str, dv_non, List.getElem?_cons_zero, List.getElem?_cons_succ, List.set_cons_zero, List.set_cons_succ, List.length_cons, List.length_nil, Nat.reduceAdd, Nat.reduceLT, if_true, fin_rt, fin_nx, at_0, at_1, at_2, at_3, itemV_ref, itemV_tup, cmp_eq_int, cmp_ne_int, cmp_lt_int, cmp_le_int, cmp_gt_int, cmp_ge_int, bin_add, bin_sub, bi_int_int, z3, i3, w3]
        rfl
  have rg : (-(2 ^ 62) ≤ (many : Int) ∧ (many : Int) < 2 ^ 62) = True := eq_true (by omega)
  obtain ⟨vs, s4, e4, c4, n4, g4, D4, K4⟩ := lc_draw (d := d) (K0 := k + 3) (t := .name 14) (it := .range1 (.slot 12)) (e := .call 12 (.cons (.slot 0) (.cons (.slot 1) (.cons (.slot 2) (.cons (.bin .add (.slot 3) (.k (.int 1))) (.nil)))))) (own := [14])
    (r := [some (.ref d), some B, some (.ref er), some (.int lv), some (.int mn), some (.int j), some (.int b.2), none, none, none, some (.tup [.str "add", .str "sub", .str "mul", .str "max", .str "min", .str "less", .str "equal", .str "neg", .str "clamp", .str "shift", .str "where", .str "add"]), some (.str z), some (.int (many : Int)), none, none]) (s := s3) (s1 := s3) (f := .free) (xs := (List.range many).map fun (i : Nat) => DV.int (0 + (i : Int)))
    (fun v => ∃ e : Ex, v = .tup e.tl ∧ e.ht ≤ h) (by
      simp -implicitDefEqProofs -dsimp only [↓bind_K, ↓out_K, ↓then_K, ↓optR_K, ↓cond_K, ↓forL_K, ↓lcL_K, ↓whileL_K, ↓catch_K, ↓catchK_nx, ↓catchK_rt, ↓catchK_exc, unset_rt, hush_rt, hush_nx, hush_ct, fin_exc, ↓bindK_ok, ↓outK_ok, ↓bindK_exc, ↓outK_exc, ↓thenK_nx, ↓thenK_rt, ↓thenK_exc, ↓thenK_bk, ↓thenK_ct, ↓optRK_some, ↓quiet_ok, ↓condK_t, ↓condK_f, ↓truth_bl, qE_slot, qE_isx, qE_k, qE_glob, qE_bin, qE_neg, qE_not, qE_and, qE_or, qE_cmp, qE_chain, qE_ife, qE_ix, qE_slc, qE_rev, qE_tup, qE_lst, qE_call, qE_bi, qE_isi, qE_meth, qE_lc, qE_smeth, qE_get2, qE_setd, qE_dnew, qEs_nil, qEs_cons, qAll_nil, qAll_cons, qO_no, qO_some, qI_seq, qI_range1, qI_range2, qI_range3, qI_zip, qI_enum, qI_rev, qT_name, qT_tup, qT_sub, qTs_nil, qTs_cons, qS_asg, qS_par, qS_aug, qS_ife, qS_for, qS_forD, qS_while, qS_ret, qS_retN, qS_drop, qS_pass, qS_brk, qS_cont, qS_raise, qS_try, qS_pick, qSs_nil, qSs_cons, dv_int, dv_bl, dv_str, dv_non, List.getElem?_cons_zero, List.getElem?_cons_succ, List.set_cons_zero, List.set_cons_succ, List.length_cons, List.length_nil, Nat.reduceAdd, Nat.reduceLT, if_true, fin_rt, fin_nx, at_0, at_1, at_2, at_3, itemV_ref, itemV_tup, cmp_eq_int, cmp_ne_int, cmp_lt_int, cmp_le_int, cmp_gt_int, cmp_ge_int, bin_add, bin_sub, bi_int_int, rg]
      rfl) D3 (fun _ _ => free_ok) (by rw [List.length_map, List.length_range]; omega) (fun x hx s' D' K' => by
      have Kx := K3'.trans K'
      obtain ⟨e, s5, e5, D5, K5, h5⟩ := ih d s' B (.ref er) bs D' (hE.kp Kx) (hB.kp Kx) hb
      refine ⟨_, s5, ?_, D5, K5, e, rfl, h5⟩
      rcases hBo with ⟨_, rfl⟩ | ⟨_, rfl⟩ <;> simp -implicitDefEqProofs -dsimp only [↓bind_K, ↓out_K, ↓then_K, ↓optR_K, ↓cond_K, ↓forL_K, ↓lcL_K, ↓whileL_K, ↓catch_K, ↓catchK_nx, ↓catchK_rt, ↓catchK_exc, unset_rt, hush_rt, hush_nx, hush_ct, fin_exc, ↓bindK_ok, ↓outK_ok, ↓bindK_exc, ↓outK_exc, ↓thenK_nx, ↓thenK_rt, ↓thenK_exc, ↓thenK_bk, ↓thenK_ct, ↓optRK_some, ↓quiet_ok, ↓condK_t, ↓condK_f, ↓truth_bl, qE_slot, qE_isx, qE_k, qE_glob, qE_bin, qE_neg, qE_not, qE_and, qE_or, qE_cmp, qE_chain, qE_ife, qE_ix, qE_slc, qE_rev, qE_tup, qE_lst, qE_call, qE_bi, qE_isi, qE_meth, qE_lc, qE_smeth, qE_get2, qE_setd, qE_dnew, qEs_nil, qEs_cons, qAll_nil, qAll_cons, qO_no, qO_some, qI_seq, qI_range1, qI_range2, qI_range3, qI_zip, qI_enum, qI_rev, qT_name, qT_tup, qT_sub, qTs_nil, qTs_cons, qS_asg, qS_par, qS_aug, qS_ife, qS_for, qS_forD, qS_while, qS_ret, qS_retN, qS_drop, qS_pass, qS_brk, qS_cont, qS_raise, qS_try, qS_pick, qSs_nil, qSs_cons, dv_int, dv_bl, dv_str, dv_non, List.getElem?_cons_zero, List.getElem?_cons_succ, List.set_cons_zero, List.set_cons_succ, List.length_cons, List.length_nil, Nat.reduceAdd, Nat.reduceLT, if_true, fin_rt, fin_nx, at_0, at_1, at_2, at_3, itemV_ref, itemV_tup, cmp_eq_int, cmp_ne_int, cmp_lt_int, cmp_le_int, cmp_gt_int, cmp_ge_int, bin_add, bin_sub, bi_int_int, wipe, e5])
  rw [List.length_map, List.length_range] at n4
  have K4' := K3'.trans K4
  obtain ⟨is, s5, e5, D5, K5⟩ := info_ok (k := k) (z := z) D4 hzo
  have c4' := cellL_of c4
  have fin : callAt Dt Gt subt (k + 4) 12 [.ref d, B, .ref er, .int lv] s = .ok (.tup [.str "apply", .str z, .tup vs, .tup is]) s5 := by
    rcases hBo with ⟨_, rfl⟩ | ⟨_, rfl⟩ <;> simp -implicitDefEqProofs -dsimp only [↓bind_K, ↓out_K, ↓then_K, ↓optR_K, ↓cond_K, ↓forL_K, ↓lcL_K, ↓whileL_K, ↓catch_K, ↓catchK_nx, ↓catchK_rt, ↓catchK_exc, unset_rt, hush_rt, hush_nx, hush_ct, fin_exc, ↓bindK_ok, ↓outK_ok, ↓bindK_exc, ↓outK_exc, ↓thenK_nx, ↓thenK_rt, ↓thenK_exc, ↓thenK_bk, ↓thenK_ct, ↓optRK_some, ↓quiet_ok, ↓condK_t, ↓condK_f, ↓truth_bl, qE_slot, qE_isx, qE_k, qE_glob, qE_bin, qE_neg, qE_not, qE_and, qE_or, qE_cmp, qE_chain, qE_ife, qE_ix, qE_slc, qE_rev, qE_tup, qE_lst, qE_call, qE_bi, qE_isi, qE_meth, qE_lc, qE_smeth, qE_get2, qE_setd, qE_dnew, qEs_nil, qEs_cons, qAll_nil, qAll_cons, qO_no, qO_some, qI_seq, qI_range1, qI_range2, qI_range3, qI_zip, qI_enum, qI_rev, qT_name, qT_tup, qT_sub, qTs_nil, qTs_cons, qS_asg, qS_par, qS_aug, qS_ife, qS_for, qS_forD, qS_while, qS_ret, qS_retN, qS_drop, qS_pass, qS_brk, qS_cont, qS_raise, qS_try, qS_pick, qSs_nil, qSs_cons, dv_int, dv_bl, dv_str, dv_non, List.getElem?_cons_zero, List.getElem?_cons_succ, List.set_cons_zero, List.set_cons_succ, List.length_cons, List.length_nil, Nat.reduceAdd, Nat.reduceLT, if_true, fin_rt, fin_nx, at_0, at_1, at_2, at_3, itemV_ref, itemV_tup, cmp_eq_int, cmp_ne_int, cmp_lt_int, cmp_le_int, cmp_gt_int, cmp_ge_int, bin_add, bin_sub, bi_int_int, call_12, b12, ↓e1, q0, q1, hl1, e2, i2, q5, q6, q7, z12, e3, hz, ↓em, ↓e4, tuple_ref c4', e5, z4]
  have K5' := K4'.trans K5
  have : many = 1 ∨ many = 2 ∨ many = 3 := by omega
  rcases this with rfl | rfl | rfl
  · match vs, n4 with
    | [v1], _ =>
      obtain ⟨x1, rfl, l1⟩ := g4 v1 (by simp)
      exact ⟨.app1 z x1 is, s5, fin, D5, K5', by show x1.ht + 1 ≤ h + 1; omega⟩
  · match vs, n4 with
    | [v1, v2], _ =>
      obtain ⟨x1, rfl, l1⟩ := g4 v1 (by simp)
      obtain ⟨x2, rfl, l2⟩ := g4 v2 (by simp)
      exact ⟨.app2 z x1 x2 is, s5, fin, D5, K5', by show max x1.ht x2.ht + 1 ≤ h + 1; omega⟩
  · match vs, n4 with
    | [v1, v2, v3], _ =>
      obtain ⟨x1, rfl, l1⟩ := g4 v1 (by simp)
      obtain ⟨x2, rfl, l2⟩ := g4 v2 (by simp)
      obtain ⟨x3, rfl, l3⟩ := g4 v3 (by simp)
      exact ⟨.app3 z x1 x2 x3 is, s5, fin, D5, K5', by show max x1.ht (max x2.ht x3.ht) + 1 ≤ h + 1; omega⟩
end
/-- the statements that are made -/
inductive Sn where
  | put (j : Int) (xs : List DV) (e : Ex) | copy (a : Int) (xs : List DV) (b : Int) (ys : List DV) (c : Int)
  | loop1 (v a b c : Int) (s : Sn) | loop2 (v a b c : Int) (s t : Sn) | when1 (xs : List DV) (s : Sn) | when2 (xs : List DV) (s t : Sn)
def Sn.tl : Sn → List DV
  | .put j xs e => [.str "put", .int j, .tup xs, .tup e.tl]
  | .copy a xs b ys c => [.str "copy", .int a, .tup xs, .int b, .tup ys, .int c]
  | .loop1 v a b c s => [.str "loop", .int v, .int a, .int b, .int c, .tup [.tup s.tl]]
  | .loop2 v a b c s t => [.str "loop", .int v, .int a, .int b, .int c, .tup [.tup s.tl, .tup t.tl]]
  | .when1 xs s => [.str "when", .tup xs, .tup [.tup s.tl]]
  | .when2 xs s t => [.str "when", .tup xs, .tup [.tup s.tl, .tup t.tl]]
def Sn.ht : Sn → Nat
  | .put _ _ e => e.ht + 1
  | .copy _ _ _ _ _ => 3
  | .loop1 _ _ _ _ s => s.ht + 1
  | .loop2 _ _ _ _ s t => max s.ht t.ht + 1
  | .when1 _ s => s.ht + 1
  | .when2 _ s t => max s.ht t.ht + 1
section
variable {k d : Nat} {s s' : Store}
theorem ex_any : ExGen (k + 6) 1 5 := by
  have e3 : ExGen (k + 4) 3 3 := ex_step (k := k) (h := 2) (by decide) fun h => absurd h (by decide)
  have e2 : ExGen (k + 5) 2 4 := ex_step (k := k + 1) (h := 3) (by decide) fun _ => e3
  exact ex_step (k := k + 2) (h := 4) (by decide) fun _ => e2
/-- the places of the buffers of which a test tells -/
def atB (p : Str → Bool) (bs : List (Str × Int)) (x : DV) : Option DV := match x with
  | .int i => match L2.atI bs i with
    | some b => if p b.1 then some (.int i) else none
    | none => none
  | _ => none
def spots (p : Str → Bool) (bs : List (Str × Int)) : List DV := ((List.range bs.length).map fun (i : Nat) => DV.int (0 + (i : Int))).filterMap (atB p bs)
theorem spots_mem {p : Str → Bool} {bs : List (Str × Int)} {x : DV} (h : x ∈ spots p bs) : ∃ i : Int, x = .int i ∧ 0 ≤ i ∧ i < bs.length := by
  obtain ⟨y, hy, e⟩ := List.mem_filterMap.mp h
  obtain ⟨j, hj, rfl⟩ := List.mem_map.mp hy
  rw [List.mem_range] at hj
  unfold atB at e
  simp only at e
  split at e
  · split at e
    · cases e
      exact ⟨_, rfl, by omega, by omega⟩
    · cases e
  · cases e
theorem spots_le {p : Str → Bool} {bs : List (Str × Int)} : (spots p bs).length ≤ bs.length := by
  unfold spots
  refine Nat.le_trans (List.length_filterMap_le _ _) ?_
  rw [List.length_map, List.length_range]
  exact Nat.le_refl _
theorem spots_pos {p : Str → Bool} {bs : List (Str × Int)} (h : ∃ b ∈ bs, p b.1 = true) : 0 < (spots p bs).length := by
  obtain ⟨b, hb, hp⟩ := h
  obtain ⟨j, hj, e⟩ := List.getElem_of_mem hb
  refine List.length_pos_iff.mpr fun z => ?_
  have m : DV.int (0 + (j : Int)) ∈ spots p bs := by
    refine List.mem_filterMap.mpr ⟨_, List.mem_map.mpr ⟨j, List.mem_range.mpr hj, rfl⟩, ?_⟩
    show (match L2.atI bs (0 + (j : Int)) with | some b => if p b.1 then some (DV.int (0 + (j : Int))) else none | none => none) = some (DV.int (0 + (j : Int)))
    rw [Int.zero_add, L2.atI_nat (List.getElem?_eq_getElem hj), e]
    exact if_pos hp
  rw [z] at m
  cases m
/-- where the buffers of a kind are -/
theorem spots_run {K0 : Nat} {op : COp} {role : Str} {p : Str → Bool} {B : DV} {bs : List (Str × Int)} {slot : Nat} {r : Ip.Loc} (hr1 : r[1]? = some (some B)) (hlt : slot < r.length) (hs1 : slot ≠ 1) (hB : BufV d s B bs) (hb : BsV bs) (hp : ∀ b ∈ bs, ∀ s, cmpV op (.str b.1) (.str role) s = .ok (p b.1) s) :
    evE (callAt Dt Gt subt K0) Gt subt (.lc (.name slot) (.range1 (.bi .len (.cons (.slot 1) (.nil)))) (.cons (.cmp op (.ix (.ix (.slot 1) (.slot slot)) (.k (.int 0))) (.k (.str role))) .nil) (.slot slot) [slot]) r s = .ok (.ref s.length) (s ++ [.lst (spots p bs)]) := by
  have hBo := buf_or hB
  have e1 : ∀ r s, r[1]? = some (some B) → evE (callAt Dt Gt subt K0) Gt subt (.slot 1) r s = .ok B s := fun r s h => by
    rw [qE_slot, h]
    rcases hBo with ⟨_, rfl⟩ | ⟨_, rfl⟩ <;> rfl
  have hl := hB.len
  have rg : (-(2 ^ 62) ≤ (bs.length : Int) ∧ (bs.length : Int) < 2 ^ 62) = True := eq_true (by have := hb.2.1; omega)
  refine lc_run (f := .free) (xs := (List.range bs.length).map fun (i : Nat) => DV.int (0 + (i : Int))) (atB p bs) ?_ (fun _ => free_ok) (fun x hx acc => ?_) (by rw [List.length_map, List.length_range]; exact Nat.le_trans hb.2.1 (by decide))
  · simp -implicitDefEqProofs -dsimp only [↓bind_K, ↓out_K, ↓then_K, ↓optR_K, ↓cond_K, ↓forL_K, ↓lcL_K, ↓whileL_K, ↓catch_K, ↓catchK_nx, ↓catchK_rt, ↓catchK_exc, unset_rt, hush_rt, hush_nx, hush_ct, fin_exc, ↓bindK_ok, ↓outK_ok, ↓bindK_exc, ↓outK_exc, ↓thenK_nx, ↓thenK_rt, ↓thenK_exc, ↓thenK_bk, ↓thenK_ct, ↓optRK_some, ↓quiet_ok, ↓condK_t, ↓condK_f, ↓truth_bl, qE_slot, qE_isx, qE_k, qE_glob, qE_bin, qE_neg, qE_not, qE_and, qE_or, qE_cmp, qE_chain, qE_ife, qE_ix, qE_slc, qE_rev, qE_tup, qE_lst, qE_call, qE_bi, qE_isi, qE_meth, qE_lc, qE_smeth, qE_get2, qE_setd, qE_dnew, qEs_nil, qEs_cons, qAll_nil, qAll_cons, qO_no, qO_some, qI_seq, qI_range1, qI_range2, qI_range3, qI_zip, qI_enum, qI_rev, qT_name, qT_tup, qT_sub, qTs_nil, qTs_cons, qS_asg, qS_par, qS_aug, qS_ife, qS_for, qS_forD, qS_while, qS_ret, qS_retN, qS_drop, qS_pass, qS_brk, qS_cont, qS_raise, qS_try, qS_pick, qSs_nil, qSs_cons, dv_int, dv_bl, dv_str, dv_non, List.getElem?_cons_zero, List.getElem?_cons_succ, List.set_cons_zero, List.set_cons_succ, List.length_cons, List.length_nil, Nat.reduceAdd, Nat.reduceLT, if_true, fin_rt, fin_nx, at_0, at_1, at_2, at_3, itemV_ref, itemV_tup, cmp_eq_int, cmp_ne_int, cmp_lt_int, cmp_le_int, cmp_gt_int, cmp_ge_int, bin_add, bin_sub, bi_int_int, e1 r s hr1, hl, rg]
    rfl
  · obtain ⟨j, hj, rfl⟩ := List.mem_map.mp hx
    rw [List.mem_range] at hj
    obtain ⟨b, hbi, _⟩ := hb.at_ (i := 0 + (j : Int)) (by omega) (by omega)
    have hbm : b ∈ bs := by
      obtain ⟨b', e', m'⟩ := atI_ex (l := bs) (i := 0 + (j : Int)) (by omega) (by omega)
      rw [hbi] at e'
      cases e'
      exact m'
    have hB' : BufV d (s ++ [Cell.lst acc]) B bs := hB.kp Kp.app
    have i2 : itemV B (.int (0 + (j : Int))) (s ++ [Cell.lst acc]) = .ok (.tup [.str b.1, .int b.2]) (s ++ [Cell.lst acc]) := hB'.at_ hbi
    have w : wipe r [slot] = r.set slot none := rfl
    have lt' : slot < (r.set slot none).length := by rw [List.length_set]; exact hlt
    have g1 : ((r.set slot none).set slot (some (.int (0 + (j : Int)))))[1]? = some (some B) := by rw [get_set_ne hs1, get_set_ne hs1]; exact hr1
    have g2 : ((r.set slot none).set slot (some (DV.int (0 + (j : Int)))))[slot]? = some (some (.int (0 + (j : Int)))) := List.getElem?_set_self lt'
    have e2 : evE (callAt Dt Gt subt K0) Gt subt (.slot slot) ((r.set slot none).set slot (some (.int (0 + (j : Int))))) (s ++ [Cell.lst acc]) = .ok (.int (0 + (j : Int))) (s ++ [Cell.lst acc]) := by
      rw [qE_slot, g2]
    have at' : atB p bs (.int (0 + (j : Int))) = if p b.1 then some (.int (0 + (j : Int))) else none := by
      unfold atB
      simp only
      rw [hbi]
    have hq := hp b hbm (s ++ [Cell.lst acc])
    rw [at', w]
    have t : evT (callAt Dt Gt subt K0) Gt subt (.name slot) (.int (0 + (j : Int))) (r.set slot none) (s ++ [Cell.lst acc]) = .ok ((r.set slot none).set slot (some (.int (0 + (j : Int))))) (s ++ [Cell.lst acc]) := by
      rw [qT_name, if_pos lt']
    have tst : evE (callAt Dt Gt subt K0) Gt subt (.cmp op (.ix (.ix (.slot 1) (.slot slot)) (.k (.int 0))) (.k (.str role))) ((r.set slot none).set slot (some (.int (0 + (j : Int))))) (s ++ [Cell.lst acc]) = .ok (.bl (p b.1)) (s ++ [Cell.lst acc]) := by
      simp -implicitDefEqProofs -dsimp only [↓bind_K, ↓out_K, ↓then_K, ↓optR_K, ↓cond_K, ↓forL_K, ↓lcL_K, ↓whileL_K, ↓catch_K, ↓catchK_nx, ↓catchK_rt, ↓catchK_exc, unset_rt, hush_rt, hush_nx, hush_ct, fin_exc, ↓bindK_ok, ↓outK_ok, ↓bindK_exc, ↓outK_exc, ↓thenK_nx, ↓thenK_rt, ↓thenK_exc, ↓thenK_bk, ↓thenK_ct, ↓optRK_some, ↓quiet_ok, ↓condK_t, ↓condK_f, ↓truth_bl, qE_slot, qE_isx, qE_k, qE_glob, qE_bin, qE_neg, qE_not, qE_and, qE_or, qE_cmp, qE_chain, qE_ife, qE_ix, qE_slc, qE_rev, qE_tup, qE_lst, qE_call, qE_bi, qE_isi, qE_meth, qE_lc, qE_smeth, qE_get2, qE_setd, qE_dnew, qEs_nil, qEs_cons, qAll_nil, qAll_cons, qO_no, qO_some, qI_seq, qI_range1, qI_range2, qI_range3, qI_zip, qI_enum, qI_rev, qT_name, qT_tup, qT_sub, qTs_nil, qTs_cons, qS_asg, qS_par, qS_aug, qS_ife, qS_for, qS_forD, qS_while, qS_ret, qS_retN, qS_drop, qS_pass, qS_brk, qS_cont, qS_raise, qS_try, qS_pick, qSs_nil, qSs_cons, dv_int, dv_bl, dv_str, dv_non, List.getElem?_cons_zero, List.getElem?_cons_succ, List.set_cons_zero, List.set_cons_succ, List.length_cons, List.length_nil, Nat.reduceAdd, Nat.reduceLT, if_true, fin_rt, fin_nx, at_0, at_1, at_2, at_3, itemV_ref, itemV_tup, cmp_eq_int, cmp_ne_int, cmp_lt_int, cmp_le_int, cmp_gt_int, cmp_ge_int, bin_add, bin_sub, bi_int_int, ↓e1 _ _ g1, ↓e2, i2, hq]
    generalize p b.1 = pb at tst
    cases pb with
    | true => simp -implicitDefEqProofs -dsimp only [↓bind_K, ↓out_K, ↓then_K, ↓optR_K, ↓cond_K, ↓forL_K, ↓lcL_K, ↓whileL_K, ↓catch_K, ↓catchK_nx, ↓catchK_rt, ↓catchK_exc, unset_rt, hush_rt, hush_nx, hush_ct, fin_exc, ↓bindK_ok, ↓outK_ok, ↓bindK_exc, ↓outK_exc, ↓thenK_nx, ↓thenK_rt, ↓thenK_exc, ↓thenK_bk, ↓thenK_ct, ↓optRK_some, ↓quiet_ok, ↓condK_t, ↓condK_f, ↓truth_bl, qE_slot, qE_isx, qE_k, qE_glob, qE_bin, qE_neg, qE_not, qE_and, qE_or, qE_cmp, qE_chain, qE_ife, qE_ix, qE_slc, qE_rev, qE_tup, qE_lst, qE_call, qE_bi, qE_isi, qE_meth, qE_lc, qE_smeth, qE_get2, qE_setd, qE_dnew, qEs_nil, qEs_cons, qAll_nil, qAll_cons, qO_no, qO_some, qI_seq, qI_range1, qI_range2, qI_range3, qI_zip, qI_enum, qI_rev, qT_name, qT_tup, qT_sub, qTs_nil, qTs_cons, qS_asg, qS_par, qS_aug, qS_ife, qS_for, qS_forD, qS_while, qS_ret, qS_retN, qS_drop, qS_pass, qS_brk, qS_cont, qS_raise, qS_try, qS_pick, qSs_nil, qSs_cons, dv_int, dv_bl, dv_str, dv_non, List.getElem?_cons_zero, List.getElem?_cons_succ, List.set_cons_zero, List.set_cons_succ, List.length_cons, List.length_nil, Nat.reduceAdd, Nat.reduceLT, if_true, fin_rt, fin_nx, at_0, at_1, at_2, at_3, itemV_ref, itemV_tup, cmp_eq_int, cmp_ne_int, cmp_lt_int, cmp_le_int, cmp_gt_int, cmp_ge_int, bin_add, bin_sub, bi_int_int, t, ↓tst, ↓e2]
    | false =>
      simp -implicitDefEqProofs -dsimp only [↓bind_K, ↓out_K, ↓then_K, ↓optR_K, ↓cond_K, ↓forL_K, ↓lcL_K, ↓whileL_K, ↓catch_K, ↓catchK_nx, ↓catchK_rt, ↓catchK_exc, unset_rt, hush_rt, hush_nx, hush_ct, fin_exc, ↓bindK_ok, ↓outK_ok, ↓bindK_exc, ↓outK_exc, ↓thenK_nx, ↓thenK_rt, ↓thenK_exc, ↓thenK_bk, ↓thenK_ct, ↓optRK_some, ↓quiet_ok, ↓condK_t, ↓condK_f, ↓truth_bl, qE_slot, qE_isx, qE_k, qE_glob, qE_bin, qE_neg, qE_not, qE_and, qE_or, qE_cmp, qE_chain, qE_ife, qE_ix, qE_slc, qE_rev, qE_tup, qE_lst, qE_call, qE_bi, qE_isi, qE_meth, qE_lc, qE_smeth, qE_get2, qE_setd, qE_dnew, qEs_nil, qEs_cons, qAll_nil, qAll_cons, qO_no, qO_some, qI_seq, qI_range1, qI_range2, qI_range3, qI_zip, qI_enum, qI_rev, qT_name, qT_tup, qT_sub, qTs_nil, qTs_cons, qS_asg, qS_par, qS_aug, qS_ife, qS_for, qS_forD, qS_while, qS_ret, qS_retN, qS_drop, qS_pass, qS_brk, qS_cont, qS_raise, qS_try, qS_pick, qSs_nil, qSs_cons, dv_int, dv_bl, dv_str, dv_non, List.getElem?_cons_zero, List.getElem?_cons_succ, List.set_cons_zero, List.set_cons_succ, List.length_cons, List.length_nil, Nat.reduceAdd, Nat.reduceLT, if_true, fin_rt, fin_nx, at_0, at_1, at_2, at_3, itemV_ref, itemV_tup, cmp_eq_int, cmp_ne_int, cmp_lt_int, cmp_le_int, cmp_gt_int, cmp_ge_int, bin_add, bin_sub, bi_int_int, t, ↓tst]
      rfl
theorem pick_spot {xs : List DV} {t : Int} {n : Nat} (hx : ∀ x ∈ xs, ∃ i : Int, x = .int i ∧ 0 ≤ i ∧ i < (n : Int)) (t0 : 0 ≤ t) (t1 : t < xs.length) : ∃ i : Int, L2.atI xs t = some (.int i) ∧ 0 ≤ i ∧ i < (n : Int) := by
  obtain ⟨a, e, m⟩ := atI_ex t0 t1
  obtain ⟨i, rfl, i0, i1⟩ := hx a m
  exact ⟨i, e, i0, i1⟩
theorem copy_ok {B E : DV} {bs : List (Str × Int)} (D : Dr s d) (hE : EnvV d s E 20) (hB : BufV d s B bs) (hb : BsV bs) : ∃ v s', callAt Dt Gt subt (k + 4) 13 [.ref d, B, E] s = .ok v s' ∧ (v = .non ∨ ∃ a xs b ys c, v = .tup [.str "copy", .int a, .tup xs, .int b, .tup ys, .int c]) ∧ Dr s' d ∧ Kp d s s' := by
  have hBo := buf_or hB
  obtain ⟨er, hEr⟩ : ∃ er, E = .ref er := by
    obtain ⟨er, _, e, _⟩ := hE
    exact ⟨er, e⟩
  subst hEr
  have l1 := fun r s (h1 : r[1]? = some (some B)) (h2 : 10 < r.length) (hB : BufV d s B bs) => spots_run (K0 := k + 3) (d := d) (s := s) (op := .eq) (role := "near") (p := fun z => decide (z = ("near" : Str))) (slot := 10) (r := r) h1 h2 (by decide) hB hb (fun b hbm s => eq_str (hb.2.2.1 b hbm).2.2 (by decide +kernel))
  have l2 := fun r s (h1 : r[1]? = some (some B)) (h2 : 10 < r.length) (hB : BufV d s B bs) => spots_run (K0 := k + 3) (d := d) (s := s) (op := .ne) (role := "near") (p := fun z => !decide (z = ("near" : Str))) (slot := 10) (r := r) h1 h2 (by decide) hB hb (fun b hbm s => ne_str (hb.2.2.1 b hbm).2.2 (by decide +kernel))
  obtain ⟨L1, hL1⟩ : ∃ L, L = spots (fun z => decide (z = ("near" : Str))) bs := ⟨_, rfl⟩
  obtain ⟨L2', hL2⟩ : ∃ L, L = spots (fun z => !decide (z = ("near" : Str))) bs := ⟨_, rfl⟩
  have m1 : ∀ x ∈ L1, ∃ i : Int, x = .int i ∧ 0 ≤ i ∧ i < (bs.length : Int) := fun x hx => spots_mem (hL1 ▸ hx)
  have m2 : ∀ x ∈ L2', ∃ i : Int, x = .int i ∧ 0 ≤ i ∧ i < (bs.length : Int) := fun x hx => spots_mem (hL2 ▸ hx)
  have n1 : L1.length ≤ 10 := by rw [hL1]; exact Nat.le_trans spots_le hb.2.1
  have n2 : L2'.length ≤ 10 := by rw [hL2]; exact Nat.le_trans spots_le hb.2.1
  have p2 : 0 < L2'.length := by
    rw [hL2]
    refine spots_pos ?_
    obtain ⟨b, h1, h2⟩ := hb.2.2.2.1
    exact ⟨b, h1, by rw [decide_eq_false h2]; rfl⟩
  rw [← hL1] at l1
  rw [← hL2] at l2
  clear hL1 hL2
  have hBs : BufV d (s ++ [Cell.lst L1]) B bs := hB.kp Kp.app
  have z6 := z_le 6 (by decide)
  -- the two lists
  have a1 := l1 [some (.ref d), some B, some (.ref er), none, none, none, none, none, none, none, none] s rfl (show 10 < 11 by decide) hB
  have a2 := l2 [some (.ref d), some B, some (.ref er), some (.ref s.length), none, none, none, none, none, none, none] (s ++ [.lst L1]) rfl (show 10 < 11 by decide) hBs
  obtain ⟨S2, hS2⟩ : ∃ S, S = s ++ [Cell.lst L1] ++ [Cell.lst L2'] := ⟨_, rfl⟩
  have g1 : cellL S2 s.length = some L1 := by rw [hS2]; exact cell_app cell_snoc
  have g2 : cellL S2 (s ++ [Cell.lst L1]).length = some L2' := by rw [hS2]; exact cell_snoc
  have K2 : Kp d s S2 := by rw [hS2]; exact Kp.app.trans Kp.app
  have D2 : Dr S2 d := by rw [hS2]; exact D.more.more
  have dlt := D.lt
  have q1 : s.length ≠ d := by omega
  have q2 : (s ++ [Cell.lst L1]).length ≠ d := by rw [List.length_append]; omega
  generalize (s ++ [Cell.lst L1]).length = r2 at *
  rw [← hS2] at a2
  have len1 := len_ref (s := S2) g1
  by_cases h0 : L1.length = 0
  · have t0 : ((L1.length : Int) == 0) = true := beq_iff_eq.mpr (by omega)
    refine ⟨.non, S2, ?_, .inl rfl, D2, K2⟩
    rcases hBo with ⟨_, rfl⟩ | ⟨_, rfl⟩ <;> simp -implicitDefEqProofs -dsimp only [↓bind_K, ↓out_K, ↓then_K, ↓optR_K, ↓cond_K, ↓forL_K, ↓lcL_K, ↓whileL_K, ↓catch_K, ↓catchK_nx, ↓catchK_rt, ↓catchK_exc, unset_rt, hush_rt, hush_nx, hush_ct, fin_exc, ↓bindK_ok, ↓outK_ok, ↓bindK_exc, ↓outK_exc, ↓thenK_nx, ↓thenK_rt, ↓thenK_exc, ↓thenK_bk, ↓thenK_ct, ↓optRK_some, ↓quiet_ok, ↓condK_t, ↓condK_f, ↓truth_bl, qE_slot, qE_isx, qE_k, qE_glob, qE_bin, qE_neg, qE_not, qE_and, qE_or, qE_cmp, qE_chain, qE_ife, qE_ix, qE_slc, qE_rev, qE_tup, qE_lst, qE_call, qE_bi, qE_isi, qE_meth, qE_lc, qE_smeth, qE_get2, qE_setd, qE_dnew, qEs_nil, qEs_cons, qAll_nil, qAll_cons, qO_no, qO_some, qI_seq, qI_range1, qI_range2, qI_range3, qI_zip, qI_enum, qI_rev, qT_name, qT_tup, qT_sub, qTs_nil, qTs_cons, qS_asg, qS_par, qS_aug, qS_ife, qS_for, qS_forD, qS_while, qS_ret, qS_retN, qS_drop, qS_pass, qS_brk, qS_cont, qS_raise, qS_try, qS_pick, qSs_nil, qSs_cons, dv_int, dv_bl, dv_str, dv_non, List.getElem?_cons_zero, List.getElem?_cons_succ, List.set_cons_zero, List.set_cons_succ, List.length_cons, List.length_nil, Nat.reduceAdd, Nat.reduceLT, if_true, fin_rt, fin_nx, at_0, at_1, at_2, at_3, itemV_ref, itemV_tup, cmp_eq_int, cmp_ne_int, cmp_lt_int, cmp_le_int, cmp_gt_int, cmp_ge_int, bin_add, bin_sub, bi_int_int, call_13, b13, ↓a1, ↓a2, len1, t0]
  have t0 : ((L1.length : Int) == 0) = false := beq_eq_false_iff_ne.mpr (by omega)
  obtain ⟨u1, s3, e3, u10, u11, D3, K3⟩ := draw (k := k + 2) (many := (L1.length : Int)) D2 (by omega) (small_log (by omega) (by omega))
  obtain ⟨i1, hi1, i10, i11⟩ := pick_spot m1 u10 u11
  have g1' := K3.cell g1 q1
  have g2' := K3.cell g2 q2
  have len2 := len_ref (s := s3) g2'
  obtain ⟨u2, s4, e4, u20, u21, D4, K4⟩ := draw (k := k + 2) (many := (L2'.length : Int)) D3 (by omega) (small_log (by omega) (by omega))
  obtain ⟨i2, hi2, i20, i21⟩ := pick_spot m2 u20 u21
  have g1'' := K4.cell g1' q1
  have g2'' := K4.cell g2' q2
  have it1 := item_ref g1' hi1
  have it1 := item_ref (s := s3) g1' hi1
  have it2 := item_ref (s := s4) g2'' hi2
  obtain ⟨c1, hc1, c11, c12, c13⟩ := hb.at_ i10 i11
  obtain ⟨c2, hc2, c21, c22, c23⟩ := hb.at_ i20 i21
  have K4' := (K2.trans K3).trans K4
  have B1 : ∀ s', Kp d s s' → itemV B (.int i1) s' = .ok (.tup [.str c1.1, .int c1.2]) s' := fun s' K => (hB.kp K).at_ hc1
  have B2 : ∀ s', Kp d s s' → itemV B (.int i2) s' = .ok (.tup [.str c2.1, .int c2.2]) s' := fun s' K => (hB.kp K).at_ hc2
  have mi : ∀ s, biV .min2 [.int c1.2, .int c2.2] s = .ok (.int (if c2.2 < c1.2 then c2.2 else c1.2)) s := fun s => rfl
  obtain ⟨w, hw⟩ : ∃ w, w = (if c2.2 < c1.2 then c2.2 else c1.2) := ⟨_, rfl⟩
  have w1 : 1 ≤ w ∧ w ≤ c1.2 ∧ w ≤ c2.2 := by rw [hw]; split <;> omega
  rw [← hw] at mi
  obtain ⟨t, s5, e5, t1, t2, D5, K5⟩ := draw (k := k + 2) (many := w) D4 (by omega) (small_log (by omega) (by omega))
  have K5' := K4'.trans K5
  obtain ⟨f1, s6, e6, D6, K6⟩ := form_ok (k := k + 1) (size := c1.2 - (1 + t) + 1) D5 (hE.kp K5') (by omega) (by omega)
  have K6' := K5'.trans K6
  obtain ⟨f2, s7, e7, D7, K7⟩ := form_ok (k := k + 1) (size := c2.2 - (1 + t) + 1) D6 (hE.kp K6') (by omega) (by omega)
  have K7' := K6'.trans K7
  have im := eq_str (s := s7) c23 (b := "main") (by decide +kernel)
  generalize decide (c2.1 = ("main" : Str)) = x1 at im
  have x4 := B1 _ K4'
  have y4 := B2 _ K4'
  have x5 := B1 _ K5'
  have y6 := B2 _ K6'
  have y7 := B2 _ K7'
  cases x1 with
  | false =>
    refine ⟨.tup [.str "copy", .int i1, .tup f1, .int i2, .tup f2, .int (1 + t)], s7, ?_, .inr ⟨_, _, _, _, _, rfl⟩, D7, K7'⟩
    rcases hBo with ⟨_, rfl⟩ | ⟨_, rfl⟩ <;> simp -implicitDefEqProofs -dsimp only [↓bind_K, ↓out_K, ↓then_K, ↓optR_K, ↓cond_K, ↓forL_K, ↓lcL_K, ↓whileL_K, ↓catch_K, ↓catchK_nx, ↓catchK_rt, ↓catchK_exc, unset_rt, hush_rt, hush_nx, hush_ct, fin_exc, ↓bindK_ok, ↓outK_ok, ↓bindK_exc, ↓outK_exc, ↓thenK_nx, ↓thenK_rt, ↓thenK_exc, ↓thenK_bk, ↓thenK_ct, ↓optRK_some, ↓quiet_ok, ↓condK_t, ↓condK_f, ↓truth_bl, qE_slot, qE_isx, qE_k, qE_glob, qE_bin, qE_neg, qE_not, qE_and, qE_or, qE_cmp, qE_chain, qE_ife, qE_ix, qE_slc, qE_rev, qE_tup, qE_lst, qE_call, qE_bi, qE_isi, qE_meth, qE_lc, qE_smeth, qE_get2, qE_setd, qE_dnew, qEs_nil, qEs_cons, qAll_nil, qAll_cons, qO_no, qO_some, qI_seq, qI_range1, qI_range2, qI_range3, qI_zip, qI_enum, qI_rev, qT_name, qT_tup, qT_sub, qTs_nil, qTs_cons, qS_asg, qS_par, qS_aug, qS_ife, qS_for, qS_forD, qS_while, qS_ret, qS_retN, qS_drop, qS_pass, qS_brk, qS_cont, qS_raise, qS_try, qS_pick, qSs_nil, qSs_cons, dv_int, dv_bl, dv_str, dv_non, List.getElem?_cons_zero, List.getElem?_cons_succ, List.set_cons_zero, List.set_cons_succ, List.length_cons, List.length_nil, Nat.reduceAdd, Nat.reduceLT, if_true, fin_rt, fin_nx, at_0, at_1, at_2, at_3, itemV_ref, itemV_tup, cmp_eq_int, cmp_ne_int, cmp_lt_int, cmp_le_int, cmp_gt_int, cmp_ge_int, bin_add, bin_sub, bi_int_int, call_13, b13, ↓a1, ↓a2, len1, t0, e3, it1, g1', hi1, len2, e4, g2'', hi2, it2, x4, y4, mi, e5, x5, e6, y6, e7, y7, im, z6]
  | true =>
    obtain ⟨v, s8, e8, v0, v1, D8, K8⟩ := draw (k := k + 2) (many := 2) D7 (by decide) (by decide)
    by_cases hv : v = 1
    · have qv : (v == 1) = true := beq_iff_eq.mpr hv
      refine ⟨.tup [.str "copy", .int i2, .tup f2, .int i1, .tup f1, .int (1 + t)], s8, ?_, .inr ⟨_, _, _, _, _, rfl⟩, D8, K7'.trans K8⟩
      rcases hBo with ⟨_, rfl⟩ | ⟨_, rfl⟩ <;> simp -implicitDefEqProofs -dsimp only [↓bind_K, ↓out_K, ↓then_K, ↓optR_K, ↓cond_K, ↓forL_K, ↓lcL_K, ↓whileL_K, ↓catch_K, ↓catchK_nx, ↓catchK_rt, ↓catchK_exc, unset_rt, hush_rt, hush_nx, hush_ct, fin_exc, ↓bindK_ok, ↓outK_ok, ↓bindK_exc, ↓outK_exc, ↓thenK_nx, ↓thenK_rt, ↓thenK_exc, ↓thenK_bk, ↓thenK_ct, ↓optRK_some, ↓quiet_ok, ↓condK_t, ↓condK_f, ↓truth_bl, qE_slot, qE_isx, qE_k, qE_glob, qE_bin, qE_neg, qE_not, qE_and, qE_or, qE_cmp, qE_chain, qE_ife, qE_ix, qE_slc, qE_rev, qE_tup, qE_lst, qE_call, qE_bi, qE_isi, qE_meth, qE_lc, qE_smeth, qE_get2, qE_setd, qE_dnew, qEs_nil, qEs_cons, qAll_nil, qAll_cons, qO_no, qO_some, qI_seq, qI_range1, qI_range2, qI_range3, qI_zip, qI_enum, qI_rev, qT_name, qT_tup, qT_sub, qTs_nil, qTs_cons, qS_asg, qS_par, qS_aug, qS_ife, qS_for, qS_forD, qS_while, qS_ret, qS_retN, qS_drop, qS_pass, qS_brk, qS_cont, qS_raise, qS_try, qS_pick, qSs_nil, qSs_cons, dv_int, dv_bl, dv_str, dv_non, List.getElem?_cons_zero, List.getElem?_cons_succ, List.set_cons_zero, List.set_cons_succ, List.length_cons, List.length_nil, Nat.reduceAdd, Nat.reduceLT, if_true, fin_rt, fin_nx, at_0, at_1, at_2, at_3, itemV_ref, itemV_tup, cmp_eq_int, cmp_ne_int, cmp_lt_int, cmp_le_int, cmp_gt_int, cmp_ge_int, bin_add, bin_sub, bi_int_int, call_13, b13, ↓a1, ↓a2, len1, t0, e3, it1, g1', hi1, len2, e4, g2'', hi2, it2, x4, y4, mi, e5, x5, e6, y6, e7, y7, im, e8, qv, z6]
    · have qv : (v == 1) = false := beq_eq_false_iff_ne.mpr hv
      refine ⟨.tup [.str "copy", .int i1, .tup f1, .int i2, .tup f2, .int (1 + t)], s8, ?_, .inr ⟨_, _, _, _, _, rfl⟩, D8, K7'.trans K8⟩
      rcases hBo with ⟨_, rfl⟩ | ⟨_, rfl⟩ <;> simp -implicitDefEqProofs -dsimp only [↓bind_K, ↓out_K, ↓then_K, ↓optR_K, ↓cond_K, ↓forL_K, ↓lcL_K, ↓whileL_K, ↓catch_K, ↓catchK_nx, ↓catchK_rt, ↓catchK_exc, unset_rt, hush_rt, hush_nx, hush_ct, fin_exc, ↓bindK_ok, ↓outK_ok, ↓bindK_exc, ↓outK_exc, ↓thenK_nx, ↓thenK_rt, ↓thenK_exc, ↓thenK_bk, ↓thenK_ct, ↓optRK_some, ↓quiet_ok, ↓condK_t, ↓condK_f, ↓truth_bl, qE_slot, qE_isx, qE_k, qE_glob, qE_bin, qE_neg, qE_not, qE_and, qE_or, qE_cmp, qE_chain, qE_ife, qE_ix, qE_slc, qE_rev, qE_tup, qE_lst, qE_call, qE_bi, qE_isi, qE_meth, qE_lc, qE_smeth, qE_get2, qE_setd, qE_dnew, qEs_nil, qEs_cons, qAll_nil, qAll_cons, qO_no, qO_some, qI_seq, qI_range1, qI_range2, qI_range3, qI_zip, qI_enum, qI_rev, qT_name, qT_tup, qT_sub, qTs_nil, qTs_cons, qS_asg, qS_par, qS_aug, qS_ife, qS_for, qS_forD, qS_while, qS_ret, qS_retN, qS_drop, qS_pass, qS_brk, qS_cont, qS_raise, qS_try, qS_pick, qSs_nil, qSs_cons, dv_int, dv_bl, dv_str, dv_non, List.getElem?_cons_zero, List.getElem?_cons_succ, List.set_cons_zero, List.set_cons_succ, List.length_cons, List.length_nil, Nat.reduceAdd, Nat.reduceLT, if_true, fin_rt, fin_nx, at_0, at_1, at_2, at_3, itemV_ref, itemV_tup, cmp_eq_int, cmp_ne_int, cmp_lt_int, cmp_le_int, cmp_gt_int, cmp_ge_int, bin_add, bin_sub, bi_int_int, call_13, b13, ↓a1, ↓a2, len1, t0, e3, it1, g1', hi1, len2, e4, g2'', hi2, it2, x4, y4, mi, e5, x5, e6, y6, e7, y7, im, e8, qv, z6]
end
section
variable {k d : Nat} {s s' : Store}
theorem map_of {f : Sn → DV} {P : Sn → Prop} : ∀ vs : List DV, (∀ v ∈ vs, ∃ t, v = f t ∧ P t) → ∃ ts : List Sn, vs = ts.map f ∧ ∀ t ∈ ts, P t
  | [], _ => ⟨[], rfl, fun _ h => by cases h⟩
  | v :: vs, h => by
    obtain ⟨ts, rfl, h2⟩ := map_of vs fun w hw => h w (List.mem_cons_of_mem _ hw)
    obtain ⟨t, rfl, ht⟩ := h v List.mem_cons_self
    exact ⟨t :: ts, rfl, fun u hu => by
      rcases List.mem_cons.mp hu with rfl | hu
      · exact ht
      · exact h2 u hu⟩
def snD (t : Sn) : DV := .tup t.tl
def BodyGen (K : Nat) (dp : Int) (m h : Nat) : Prop := ∀ (d : Nat) (s : Store) (B E : DV) (bs : List (Str × Int)) (many : Nat), Dr s d → EnvV d s E m → BufV d s B bs → BsV bs → 1 ≤ many → many ≤ 5 →
  ∃ (ts : List Sn) (s' : Store), callAt Dt Gt subt K 15 [.ref d, B, E, .int dp, .int (many : Int)] s = .ok (.tup (ts.map snD)) s' ∧ ts.length = many ∧ (∀ t ∈ ts, t.ht ≤ h) ∧ Dr s' d ∧ Kp d s s'
def SnGen (K : Nat) (dp : Int) (m h : Nat) : Prop := ∀ (d : Nat) (s : Store) (B E : DV) (bs : List (Str × Int)), Dr s d → EnvV d s E m → BufV d s B bs → BsV bs →
  ∃ (t : Sn) (s' : Store), callAt Dt Gt subt K 14 [.ref d, B, E, .int dp] s = .ok (snD t) s' ∧ t.ht ≤ h ∧ Dr s' d ∧ Kp d s s'
theorem body_step {K m h : Nat} {dp : Int} (H : SnGen K dp m h) : BodyGen (K + 1) dp m h := by
  intro d s B E bs many D hE hB hb h1 h3
  have hBo := buf_or hB
  obtain ⟨er, hEr⟩ : ∃ er, E = .ref er := by
    obtain ⟨er, _, e, _⟩ := hE
    exact ⟨er, e⟩
  subst hEr
  have rg : (-(2 ^ 62) ≤ (many : Int) ∧ (many : Int) < 2 ^ 62) = True := eq_true (by omega)
  obtain ⟨vs, s1, e1, c1, n1, g1, D1, K1⟩ := lc_draw (d := d) (K0 := K) (t := .name 5) (it := .range1 (.slot 4)) (e := .call 14 (.cons (.slot 0) (.cons (.slot 1) (.cons (.slot 2) (.cons (.slot 3) (.nil)))))) (own := [5]) (r := [some (.ref d), some B, some (.ref er), some (.int dp), some (.int (many : Int)), none]) (s := s) (s1 := s) (f := .free) (xs := (List.range many).map fun (i : Nat) => DV.int (0 + (i : Int)))
    (fun v => ∃ t : Sn, v = snD t ∧ t.ht ≤ h) (by
      simp -implicitDefEqProofs -dsimp only [↓bind_K, ↓out_K, ↓then_K, ↓optR_K, ↓cond_K, ↓forL_K, ↓lcL_K, ↓whileL_K, ↓catch_K, ↓catchK_nx, ↓catchK_rt, ↓catchK_exc, unset_rt, hush_rt, hush_nx, hush_ct, fin_exc, ↓bindK_ok, ↓outK_ok, ↓bindK_exc, ↓outK_exc, ↓thenK_nx, ↓thenK_rt, ↓thenK_exc, ↓thenK_bk, ↓thenK_ct, ↓optRK_some, ↓quiet_ok, ↓condK_t, ↓condK_f, ↓truth_bl, qE_slot, qE_isx, qE_k, qE_glob, qE_bin, qE_neg, qE_not, qE_and, qE_or, qE_cmp, qE_chain, qE_ife, qE_ix, qE_slc, qE_rev, qE_tup, qE_lst, qE_call, qE_bi, qE_isi, qE_meth, qE_lc, qE_smeth, qE_get2, qE_setd, qE_dnew, qEs_nil, qEs_cons, qAll_nil, qAll_cons, qO_no, qO_some, qI_seq, qI_range1, qI_range2, qI_range3, qI_zip, qI_enum, qI_rev, qT_name, qT_tup, qT_sub, qTs_nil, qTs_cons, qS_asg, qS_par, qS_aug, qS_ife, qS_for, qS_forD, qS_while, qS_ret, qS_retN, qS_drop, qS_pass, qS_brk, qS_cont, qS_raise, qS_try, qS_pick, qSs_nil, qSs_cons, dv_int, dv_bl, dv_str, dv_non, List.getElem?_cons_zero, List.getElem?_cons_succ, List.set_cons_zero, List.set_cons_succ, List.length_cons, List.length_nil, Nat.reduceAdd, Nat.reduceLT, if_true, fin_rt, fin_nx, at_0, at_1, at_2, at_3, itemV_ref, itemV_tup, cmp_eq_int, cmp_ne_int, cmp_lt_int, cmp_le_int, cmp_gt_int, cmp_ge_int, bin_add, bin_sub, bi_int_int, rg]
      rfl) D (fun _ _ => free_ok) (by rw [List.length_map, List.length_range]; omega) (fun x hx s' D' K' => by
      obtain ⟨t, s2, e2, h2, D2, K2⟩ := H d s' B (.ref er) bs D' (hE.kp K') (hB.kp K') hb
      refine ⟨_, s2, ?_, D2, K2, t, rfl, h2⟩
      rcases hBo with ⟨_, rfl⟩ | ⟨_, rfl⟩ <;> simp -implicitDefEqProofs -dsimp only [↓bind_K, ↓out_K, ↓then_K, ↓optR_K, ↓cond_K, ↓forL_K, ↓lcL_K, ↓whileL_K, ↓catch_K, ↓catchK_nx, ↓catchK_rt, ↓catchK_exc, unset_rt, hush_rt, hush_nx, hush_ct, fin_exc, ↓bindK_ok, ↓outK_ok, ↓bindK_exc, ↓outK_exc, ↓thenK_nx, ↓thenK_rt, ↓thenK_exc, ↓thenK_bk, ↓thenK_ct, ↓optRK_some, ↓quiet_ok, ↓condK_t, ↓condK_f, ↓truth_bl, qE_slot, qE_isx, qE_k, qE_glob, qE_bin, qE_neg, qE_not, qE_and, qE_or, qE_cmp, qE_chain, qE_ife, qE_ix, qE_slc, qE_rev, qE_tup, qE_lst, qE_call, qE_bi, qE_isi, qE_meth, qE_lc, qE_smeth, qE_get2, qE_setd, qE_dnew, qEs_nil, qEs_cons, qAll_nil, qAll_cons, qO_no, qO_some, qI_seq, qI_range1, qI_range2, qI_range3, qI_zip, qI_enum, qI_rev, qT_name, qT_tup, qT_sub, qTs_nil, qTs_cons, qS_asg, qS_par, qS_aug, qS_ife, qS_for, qS_forD, qS_while, qS_ret, qS_retN, qS_drop, qS_pass, qS_brk, qS_cont, qS_raise, qS_try, qS_pick, qSs_nil, qSs_cons, dv_int, dv_bl, dv_str, dv_non, List.getElem?_cons_zero, List.getElem?_cons_succ, List.set_cons_zero, List.set_cons_succ, List.length_cons, List.length_nil, Nat.reduceAdd, Nat.reduceLT, if_true, fin_rt, fin_nx, at_0, at_1, at_2, at_3, itemV_ref, itemV_tup, cmp_eq_int, cmp_ne_int, cmp_lt_int, cmp_le_int, cmp_gt_int, cmp_ge_int, bin_add, bin_sub, bi_int_int, wipe, e2])
  obtain ⟨ts, rfl, ht⟩ := map_of vs g1
  rw [List.length_map, List.length_map, List.length_range] at n1
  have c1' := cellL_of c1
  refine ⟨ts, s1, ?_, n1, ht, D1, K1⟩
  rcases hBo with ⟨_, rfl⟩ | ⟨_, rfl⟩ <;> simp -implicitDefEqProofs -dsimp only [↓bind_K, ↓out_K, ↓then_K, ↓optR_K, ↓cond_K, ↓forL_K, ↓lcL_K, ↓whileL_K, ↓catch_K, ↓catchK_nx, ↓catchK_rt, ↓catchK_exc, unset_rt, hush_rt, hush_nx, hush_ct, fin_exc, ↓bindK_ok, ↓outK_ok, ↓bindK_exc, ↓outK_exc, ↓thenK_nx, ↓thenK_rt, ↓thenK_exc, ↓thenK_bk, ↓thenK_ct, ↓optRK_some, ↓quiet_ok, ↓condK_t, ↓condK_f, ↓truth_bl, qE_slot, qE_isx, qE_k, qE_glob, qE_bin, qE_neg, qE_not, qE_and, qE_or, qE_cmp, qE_chain, qE_ife, qE_ix, qE_slc, qE_rev, qE_tup, qE_lst, qE_call, qE_bi, qE_isi, qE_meth, qE_lc, qE_smeth, qE_get2, qE_setd, qE_dnew, qEs_nil, qEs_cons, qAll_nil, qAll_cons, qO_no, qO_some, qI_seq, qI_range1, qI_range2, qI_range3, qI_zip, qI_enum, qI_rev, qT_name, qT_tup, qT_sub, qTs_nil, qTs_cons, qS_asg, qS_par, qS_aug, qS_ife, qS_for, qS_forD, qS_while, qS_ret, qS_retN, qS_drop, qS_pass, qS_brk, qS_cont, qS_raise, qS_try, qS_pick, qSs_nil, qSs_cons, dv_int, dv_bl, dv_str, dv_non, List.getElem?_cons_zero, List.getElem?_cons_succ, List.set_cons_zero, List.set_cons_succ, List.length_cons, List.length_nil, Nat.reduceAdd, Nat.reduceLT, if_true, fin_rt, fin_nx, at_0, at_1, at_2, at_3, itemV_ref, itemV_tup, cmp_eq_int, cmp_ne_int, cmp_lt_int, cmp_le_int, cmp_gt_int, cmp_ge_int, bin_add, bin_sub, bi_int_int, call_15, b15, ↓e1, tuple_ref c1']
theorem inner_vals (a b : Int) (n : Nat) : ((List.range n).map fun (i : Nat) => DV.int (0 + (i : Int))).filterMap (fun x => match x with | .int v => some (DV.int (a + b * v)) | _ => none) = List.map DV.int ((List.range n).map fun (i : Nat) => a + b * (0 + (i : Int))) := by
  rw [List.filterMap_map, List.map_map]
  show (List.range n).filterMap (fun (i : Nat) => some (DV.int (a + b * (0 + (i : Int))))) = _
  rw [List.filterMap_eq_map']
  rfl
theorem sn_step {m h : Nat} {dp : Int} (hd0 : 0 ≤ dp) (hd3 : dp ≤ 3) (hm : m ≤ 10) (hh : 5 ≤ h) (ih : dp < 3 → BodyGen (k + 6) (dp + 1) (m + 1) h) : SnGen (k + 7) dp m (h + 1) := by
  intro d s B E bs D hE hB hb
  have hBo := buf_or hB
  obtain ⟨er, ex, rfl, n1, c1, n2, hx⟩ := id hE
  have z1 := z_le 1 (by decide)
  have z2 := z_le 2 (by decide)
  have z3 := z_le 3 (by decide)
  have z4 := z_le 4 (by decide)
  have z6 := z_le 6 (by decide)
  obtain ⟨mn, s1, e1, m0, m1, D1, K1⟩ := draw (k := k + 5) (many := 6) D (by decide) (by decide)
  have hE1 := hE.kp K1
  have hB1 := hB.kp K1
  have m3p : ∀ s, binV .mul (.int 3) (.int dp) s = .ok (.int (3 * dp)) s := fun s => bin_mul (mulOk_l (by decide))
  by_cases hl : mn < 3 ∧ dp < 3
  · have q1 : decide (mn < 3) = true := decide_eq_true hl.1
    have q2 : decide (dp < 3) = true := decide_eq_true hl.2
    obtain ⟨v, s2, e2, v0, v1, D2, K2⟩ := draw (k := k + 5) (many := 3) D1 (by decide) (by decide)
    obtain ⟨c, s3, e3, c0, c3, D3, K3⟩ := draw (k := k + 5) (many := 3) D2 (by decide) (by decide)
    obtain ⟨st, s4, e4, D4, K4⟩ := signed_ok (k := k + 4) (most := 2) D3 (by decide) (by decide)
    obtain ⟨t, s5, e5, t0, t4, D5, K5⟩ := draw (k := k + 5) (many := 4) D4 (by decide) (by decide)
    obtain ⟨f, hf, hfs⟩ := four t0 t4
    have K15 := (((K1.trans K2).trans K3).trans K4).trans K5
    obtain ⟨n, hn⟩ : ∃ n : Nat, 1 + c = (n : Int) := ⟨(1 + c).toNat, by omega⟩
    have hn1 : 1 ≤ n := by omega
    have hn3 : n ≤ 3 := by omega
    have rg : (-(2 ^ 62) ≤ (n : Int) ∧ (n : Int) < 2 ^ 62) = True := eq_true (by omega)
    -- the values
    have lc : ∀ w10 w11 w12 w9, evE (callAt Dt Gt subt (k + 6)) Gt subt (.lc (.name 9) (.range1 (.slot 6)) (.nil) (.bin .add (.slot 7) (.bin .mul (.slot 8) (.slot 9))) [9]) [some (.ref d), some B, some (.ref er), some (.int dp), some (.int mn), some (.int (3 * dp + v)), some (.int (n : Int)), some (.int st), some (.int f), w9, w10, w11, w12] s5 = .ok (.ref s5.length) (s5 ++ [.lst (List.map DV.int ((List.range n).map fun (i : Nat) => st + f * (0 + (i : Int))))]) := fun w10 w11 w12 w9 => by
      rw [← inner_vals]
      refine lc_run _ (f := .free) (by
        simp -implicitDefEqProofs -dsimp only [↓bind_K, ↓out_K, ↓then_K, ↓optR_K, ↓cond_K, ↓forL_K, ↓lcL_K, ↓whileL_K, ↓catch_K, ↓catchK_nx, ↓catchK_rt, ↓catchK_exc, unset_rt, hush_rt, hush_nx, hush_ct, fin_exc, ↓bindK_ok, ↓outK_ok, ↓bindK_exc, ↓outK_exc, ↓thenK_nx, ↓thenK_rt, ↓thenK_exc, ↓thenK_bk, ↓thenK_ct, ↓optRK_some, ↓quiet_ok, ↓condK_t, ↓condK_f, ↓truth_bl, qE_slot, qE_isx, qE_k, qE_glob, qE_bin, qE_neg, qE_not, qE_and, qE_or, qE_cmp, qE_chain, qE_ife, qE_ix, qE_slc, qE_rev, qE_tup, qE_lst, qE_call, qE_bi, qE_isi, qE_meth, qE_lc, qE_smeth, qE_get2, qE_setd, qE_dnew, qEs_nil, qEs_cons, qAll_nil, qAll_cons, qO_no, qO_some, qI_seq, qI_range1, qI_range2, qI_range3, qI_zip, qI_enum, qI_rev, qT_name, qT_tup, qT_sub, qTs_nil, qTs_cons, qS_asg, qS_par, qS_aug, qS_ife, qS_for, qS_forD, qS_while, qS_ret, qS_retN, qS_drop, qS_pass, qS_brk, qS_cont, qS_raise, qS_try, qS_pick, qSs_nil, qSs_cons, dv_int, dv_bl, dv_str, dv_non, List.getElem?_cons_zero, List.getElem?_cons_succ, List.set_cons_zero, List.set_cons_succ, List.length_cons, List.length_nil, Nat.reduceAdd, Nat.reduceLT, if_true, fin_rt, fin_nx, at_0, at_1, at_2, at_3, itemV_ref, itemV_tup, cmp_eq_int, cmp_ne_int, cmp_lt_int, cmp_le_int, cmp_gt_int, cmp_ge_int, bin_add, bin_sub, bi_int_int, rg]
        rfl) (fun acc => free_ok) (fun x hx acc => ?_) (by rw [List.length_map, List.length_range]; exact Nat.le_trans hn3 (by decide))
      obtain ⟨j, _, rfl⟩ := List.mem_map.mp hx
      simp -implicitDefEqProofs -dsimp only [↓bind_K, ↓out_K, ↓then_K, ↓optR_K, ↓cond_K, ↓forL_K, ↓lcL_K, ↓whileL_K, ↓catch_K, ↓catchK_nx, ↓catchK_rt, ↓catchK_exc, unset_rt, hush_rt, hush_nx, hush_ct, fin_exc, ↓bindK_ok, ↓outK_ok, ↓bindK_exc, ↓outK_exc, ↓thenK_nx, ↓thenK_rt, ↓thenK_exc, ↓thenK_bk, ↓thenK_ct, ↓optRK_some, ↓quiet_ok, ↓condK_t, ↓condK_f, ↓truth_bl, qE_slot, qE_isx, qE_k, qE_glob, qE_bin, qE_neg, qE_not, qE_and, qE_or, qE_cmp, qE_chain, qE_ife, qE_ix, qE_slc, qE_rev, qE_tup, qE_lst, qE_call, qE_bi, qE_isi, qE_meth, qE_lc, qE_smeth, qE_get2, qE_setd, qE_dnew, qEs_nil, qEs_cons, qAll_nil, qAll_cons, qO_no, qO_some, qI_seq, qI_range1, qI_range2, qI_range3, qI_zip, qI_enum, qI_rev, qT_name, qT_tup, qT_sub, qTs_nil, qTs_cons, qS_asg, qS_par, qS_aug, qS_ife, qS_for, qS_forD, qS_while, qS_ret, qS_retN, qS_drop, qS_pass, qS_brk, qS_cont, qS_raise, qS_try, qS_pick, qSs_nil, qSs_cons, dv_int, dv_bl, dv_str, dv_non, List.getElem?_cons_zero, List.getElem?_cons_succ, List.set_cons_zero, List.set_cons_succ, List.length_cons, List.length_nil, Nat.reduceAdd, Nat.reduceLT, if_true, fin_rt, fin_nx, at_0, at_1, at_2, at_3, itemV_ref, itemV_tup, cmp_eq_int, cmp_ne_int, cmp_lt_int, cmp_le_int, cmp_gt_int, cmp_ge_int, bin_add, bin_sub, bi_int_int, wipe, qAll_nil, bin_mul (mulOk_l (j := 0 + (j : Int)) hfs)]
    obtain ⟨ns, hns⟩ : ∃ ns, ns = (List.range n).map fun (i : Nat) => st + f * (0 + (i : Int)) := ⟨_, rfl⟩
    have hnsl : ns.length = n := by rw [hns, List.length_map, List.length_range]
    rw [← hns] at lc
    clear hns
    -- the new list
    obtain ⟨S6, hS6⟩ : ∃ S, S = s5 ++ [Cell.lst (List.map DV.int ns)] ++ [Cell.lst [.tup [.int (3 * dp + v), .ref s5.length]]] := ⟨_, rfl⟩
    have K16 : Kp d s S6 := by rw [hS6]; exact K15.trans (Kp.app.trans Kp.app)
    have gE : S6[er]? = some (.lst ex) := K16.get c1 n1
    have gN : S6[(s5 ++ [Cell.lst (List.map DV.int ns)]).length]? = some (.lst [.tup [.int (3 * dp + v), .ref s5.length]]) := by rw [hS6]; exact get_snoc
    have gV : cellL S6 s5.length = some (List.map DV.int ns) := by rw [hS6]; exact cell_app cell_snoc
    have cat : binV .add (.ref er) (.ref (s5 ++ [Cell.lst (List.map DV.int ns)]).length) S6 = .ok (.ref S6.length) (S6 ++ [.lst (ex ++ [.tup [.int (3 * dp + v), .ref s5.length]])]) := by
      simp only [binV, gE, gN]
      rw [if_pos (by rw [List.length_singleton]; exact Nat.le_trans (show ex.length + 1 ≤ 1000 by omega) (by decide))]
    have D6 : Dr S6 d := by rw [hS6]; exact D5.more.more
    have dlt := D5.lt
    have hEn : EnvV d (S6 ++ [Cell.lst (ex ++ [.tup [.int (3 * dp + v), .ref s5.length]])]) (.ref S6.length) (m + 1) := by
      refine ⟨_, _, rfl, by have := D6.lt; omega, get_snoc, by rw [List.length_append, List.length_singleton]; omega, fun x hxm => ?_⟩
      rcases List.mem_append.mp hxm with hxm | hxm
      · obtain ⟨v', rr, ns', rfl, p1, p2, p3⟩ := hx x hxm
        exact ⟨v', rr, ns', rfl, p1, (K16.trans Kp.app).cell p2 p1, p3⟩
      · rw [List.mem_singleton] at hxm
        subst hxm
        exact ⟨_, s5.length, ns, rfl, by omega, cell_app gV, fun z => by rw [z] at hnsl; simp at hnsl; omega, by omega⟩
    obtain ⟨u, s7, e7, u0, u2, D7, K7⟩ := draw (k := k + 5) (many := 2) (s := S6 ++ [Cell.lst (ex ++ [.tup [.int (3 * dp + v), .ref s5.length]])]) D6.more (by decide) (by decide)
    obtain ⟨u', hu⟩ : ∃ u' : Nat, 1 + u = (u' : Int) := ⟨(1 + u).toNat, by omega⟩
    obtain ⟨ts, s8, e8, l8, h8, D8, K8⟩ := ih hl.2 d s7 B (.ref S6.length) bs u' D7 (hEn.kp K7) (hB.kp ((K16.trans Kp.app).trans K7)) hb (by omega) (by omega)
    have Kf := ((K16.trans Kp.app).trans K7).trans K8
    have run : callAt Dt Gt subt (k + 7) 14 [.ref d, B, .ref er, .int dp] s = .ok (.tup [.str "loop", .int (3 * dp + v), .int st, .int f, .int (n : Int), .tup (ts.map snD)]) s8 := by
      rcases hBo with ⟨_, rfl⟩ | ⟨_, rfl⟩ <;> simp -implicitDefEqProofs -dsimp only [↓bind_K, ↓out_K, ↓then_K, ↓optR_K, ↓cond_K, ↓forL_K, ↓lcL_K, ↓whileL_K, ↓catch_K, ↓catchK_nx, ↓catchK_rt, ↓catchK_exc, unset_rt, hush_rt, hush_nx, hush_ct, fin_exc, ↓bindK_ok, ↓outK_ok, ↓bindK_exc, ↓outK_exc, ↓thenK_nx, ↓thenK_rt, ↓thenK_exc, ↓thenK_bk, ↓thenK_ct, ↓optRK_some, ↓quiet_ok, ↓condK_t, ↓condK_f, ↓truth_bl, qE_slot, qE_isx, qE_k, qE_glob, qE_bin, qE_neg, qE_not, qE_and, qE_or, qE_cmp, qE_chain, qE_ife, qE_ix, qE_slc, qE_rev, qE_tup, qE_lst, qE_call, qE_bi, qE_isi, qE_meth, qE_lc, qE_smeth, qE_get2, qE_setd, qE_dnew, qEs_nil, qEs_cons, qAll_nil, qAll_cons, qO_no, qO_some, qI_seq, qI_range1, qI_range2, qI_range3, qI_zip, qI_enum, qI_rev, qT_name, qT_tup, qT_sub, qTs_nil, qTs_cons, qS_asg, qS_par, qS_aug, qS_ife, qS_for, qS_forD, qS_while, qS_ret, qS_retN, qS_drop, qS_pass, qS_brk, qS_cont, qS_raise, qS_try, qS_pick, qSs_nil, qSs_cons, dv_int, dv_bl, dv_str, dv_non, List.getElem?_cons_zero, List.getElem?_cons_succ, List.set_cons_zero, List.set_cons_succ, List.length_cons, List.length_nil, Nat.reduceAdd, Nat.reduceLT, if_true, fin_rt, fin_nx, at_0, at_1, at_2, at_3, itemV_ref, itemV_tup, cmp_eq_int, cmp_ne_int, cmp_lt_int, cmp_le_int, cmp_gt_int, cmp_ge_int, bin_add, bin_sub, bi_int_int, call_14, b14, e1, q1, q2, m3p, e2, e3, hn, e4, neg1, z4, e5, hf, ↓lc, z2, z1, ← hS6, cat, e7, hu, e8, z6]
    have : u' = 1 ∨ u' = 2 := by omega
    rcases this with rfl | rfl
    · match ts, l8 with
      | [x], _ => exact ⟨.loop1 _ _ _ _ x, s8, run, by have := h8 x (by simp); show x.ht + 1 ≤ h + 1; omega, D8, Kf⟩
    · match ts, l8 with
      | [x, y], _ => exact ⟨.loop2 _ _ _ _ x y, s8, run, by have := h8 x (by simp); have := h8 y (by simp); show max x.ht y.ht + 1 ≤ h + 1; omega, D8, Kf⟩
  -- no loop
  have noloop : ∀ w5 w6 w7 w8 w9 w10 w11 w12, evE (callAt Dt Gt subt (k + 6)) Gt subt (.and (.cmp .lt (.slot 4) (.k (.int 3))) (.cmp .lt (.slot 3) (.k (.int 3)))) [some (.ref d), some B, some (.ref er), some (.int dp), some (.int mn), w5, w6, w7, w8, w9, w10, w11, w12] s1 = .ok (.bl false) s1 := fun _ _ _ _ _ _ _ _ => by
    by_cases q1 : mn < 3
    · have q2 : decide (dp < 3) = false := decide_eq_false fun z => hl ⟨q1, z⟩
      simp -implicitDefEqProofs -dsimp only [↓bind_K, ↓out_K, ↓then_K, ↓optR_K, ↓cond_K, ↓forL_K, ↓lcL_K, ↓whileL_K, ↓catch_K, ↓catchK_nx, ↓catchK_rt, ↓catchK_exc, unset_rt, hush_rt, hush_nx, hush_ct, fin_exc, ↓bindK_ok, ↓outK_ok, ↓bindK_exc, ↓outK_exc, ↓thenK_nx, ↓thenK_rt, ↓thenK_exc, ↓thenK_bk, ↓thenK_ct, ↓optRK_some, ↓quiet_ok, ↓condK_t, ↓condK_f, ↓truth_bl, qE_slot, qE_isx, qE_k, qE_glob, qE_bin, qE_neg, qE_not, qE_and, qE_or, qE_cmp, qE_chain, qE_ife, qE_ix, qE_slc, qE_rev, qE_tup, qE_lst, qE_call, qE_bi, qE_isi, qE_meth, qE_lc, qE_smeth, qE_get2, qE_setd, qE_dnew, qEs_nil, qEs_cons, qAll_nil, qAll_cons, qO_no, qO_some, qI_seq, qI_range1, qI_range2, qI_range3, qI_zip, qI_enum, qI_rev, qT_name, qT_tup, qT_sub, qTs_nil, qTs_cons, qS_asg, qS_par, qS_aug, qS_ife, qS_for, qS_forD, qS_while, qS_ret, qS_retN, qS_drop, qS_pass, qS_brk, qS_cont, qS_raise, qS_try, qS_pick, qSs_nil, qSs_cons, dv_int, dv_bl, dv_str, dv_non, List.getElem?_cons_zero, List.getElem?_cons_succ, List.set_cons_zero, List.set_cons_succ, List.length_cons, List.length_nil, Nat.reduceAdd, Nat.reduceLT, if_true, fin_rt, fin_nx, at_0, at_1, at_2, at_3, itemV_ref, itemV_tup, cmp_eq_int, cmp_ne_int, cmp_lt_int, cmp_le_int, cmp_gt_int, cmp_ge_int, bin_add, bin_sub, bi_int_int, decide_eq_true q1, q2]
    · simp -implicitDefEqProofs -dsimp only [↓bind_K, ↓out_K, ↓then_K, ↓optR_K, ↓cond_K, ↓forL_K, ↓lcL_K, ↓whileL_K, ↓catch_K, ↓catchK_nx, ↓catchK_rt, ↓catchK_exc, unset_rt, hush_rt, hush_nx, hush_ct, fin_exc, ↓bindK_ok, ↓outK_ok, ↓bindK_exc, ↓outK_exc, ↓thenK_nx, ↓thenK_rt, ↓thenK_exc, ↓thenK_bk, ↓thenK_ct, ↓optRK_some, ↓quiet_ok, ↓condK_t, ↓condK_f, ↓truth_bl, qE_slot, qE_isx, qE_k, qE_glob, qE_bin, qE_neg, qE_not, qE_and, qE_or, qE_cmp, qE_chain, qE_ife, qE_ix, qE_slc, qE_rev, qE_tup, qE_lst, qE_call, qE_bi, qE_isi, qE_meth, qE_lc, qE_smeth, qE_get2, qE_setd, qE_dnew, qEs_nil, qEs_cons, qAll_nil, qAll_cons, qO_no, qO_some, qI_seq, qI_range1, qI_range2, qI_range3, qI_zip, qI_enum, qI_rev, qT_name, qT_tup, qT_sub, qTs_nil, qTs_cons, qS_asg, qS_par, qS_aug, qS_ife, qS_for, qS_forD, qS_while, qS_ret, qS_retN, qS_drop, qS_pass, qS_brk, qS_cont, qS_raise, qS_try, qS_pick, qSs_nil, qSs_cons, dv_int, dv_bl, dv_str, dv_non, List.getElem?_cons_zero, List.getElem?_cons_succ, List.set_cons_zero, List.set_cons_succ, List.length_cons, List.length_nil, Nat.reduceAdd, Nat.reduceLT, if_true, fin_rt, fin_nx, at_0, at_1, at_2, at_3, itemV_ref, itemV_tup, cmp_eq_int, cmp_ne_int, cmp_lt_int, cmp_le_int, cmp_gt_int, cmp_ge_int, bin_add, bin_sub, bi_int_int, decide_eq_false q1]
  by_cases hw : mn = 3 ∧ dp < 3
  · have q3 : (mn == 3) = true := beq_iff_eq.mpr hw.1
    have q2 : decide (dp < 3) = true := decide_eq_true hw.2
    obtain ⟨xs, s2, e2, D2, K2⟩ := test_ok (k := k + 3) D1 (hE1.le (by omega))
    have K12 := K1.trans K2
    obtain ⟨u, s3, e3, u0, u2, D3, K3⟩ := draw (k := k + 5) (many := 2) D2 (by decide) (by decide)
    have K13 := K12.trans K3
    obtain ⟨u', hu⟩ : ∃ u' : Nat, 1 + u = (u' : Int) := ⟨(1 + u).toNat, by omega⟩
    obtain ⟨ts, s4, e4, l4, h4, D4, K4⟩ := ih hw.2 d s3 B (.ref er) bs u' D3 ((hE.kp K13).le (by omega)) (hB.kp K13) hb (by omega) (by omega)
    have run : callAt Dt Gt subt (k + 7) 14 [.ref d, B, .ref er, .int dp] s = .ok (.tup [.str "when", .tup xs, .tup (ts.map snD)]) s4 := by
      rcases hBo with ⟨_, rfl⟩ | ⟨_, rfl⟩ <;> simp -implicitDefEqProofs -dsimp only [↓bind_K, ↓out_K, ↓then_K, ↓optR_K, ↓cond_K, ↓forL_K, ↓lcL_K, ↓whileL_K, ↓catch_K, ↓catchK_nx, ↓catchK_rt, ↓catchK_exc, unset_rt, hush_rt, hush_nx, hush_ct, fin_exc, ↓bindK_ok, ↓outK_ok, ↓bindK_exc, ↓outK_exc, ↓thenK_nx, ↓thenK_rt, ↓thenK_exc, ↓thenK_bk, ↓thenK_ct, ↓optRK_some, ↓quiet_ok, ↓condK_t, ↓condK_f, ↓truth_bl, qE_slot, qE_isx, qE_k, qE_glob, qE_bin, qE_neg, qE_not, qE_and, qE_or, qE_cmp, qE_chain, qE_ife, qE_ix, qE_slc, qE_rev, qE_tup, qE_lst, qE_call, qE_bi, qE_isi, qE_meth, qE_lc, qE_smeth, qE_get2, qE_setd, qE_dnew, qEs_nil, qEs_cons, qAll_nil, qAll_cons, qO_no, qO_some, qI_seq, qI_range1, qI_range2, qI_range3, qI_zip, qI_enum, qI_rev, qT_name, qT_tup, qT_sub, qTs_nil, qTs_cons, qS_asg, qS_par, qS_aug, qS_ife, qS_for, qS_forD, qS_while, qS_ret, qS_retN, qS_drop, qS_pass, qS_brk, qS_cont, qS_raise, qS_try, qS_pick, qSs_nil, qSs_cons, dv_int, dv_bl, dv_str, dv_non, List.getElem?_cons_zero, List.getElem?_cons_succ, List.set_cons_zero, List.set_cons_succ, List.length_cons, List.length_nil, Nat.reduceAdd, Nat.reduceLT, if_true, fin_rt, fin_nx, at_0, at_1, at_2, at_3, itemV_ref, itemV_tup, cmp_eq_int, cmp_ne_int, cmp_lt_int, cmp_le_int, cmp_gt_int, cmp_ge_int, bin_add, bin_sub, bi_int_int, call_14, b14, e1, ↓noloop, q3, q2, e2, e3, hu, e4, z3]
    have : u' = 1 ∨ u' = 2 := by omega
    rcases this with rfl | rfl
    · match ts, l4 with
      | [x], _ => exact ⟨.when1 _ x, s4, run, by have := h4 x (by simp); show x.ht + 1 ≤ h + 1; omega, D4, K13.trans K4⟩
    · match ts, l4 with
      | [x, y], _ => exact ⟨.when2 _ x y, s4, run, by have := h4 x (by simp); have := h4 y (by simp); show max x.ht y.ht + 1 ≤ h + 1; omega, D4, K13.trans K4⟩
  have nowhen : ∀ w5 w6 w7 w8 w9 w10 w11 w12, evE (callAt Dt Gt subt (k + 6)) Gt subt (.and (.cmp .eq (.slot 4) (.k (.int 3))) (.cmp .lt (.slot 3) (.k (.int 3)))) [some (.ref d), some B, some (.ref er), some (.int dp), some (.int mn), w5, w6, w7, w8, w9, w10, w11, w12] s1 = .ok (.bl false) s1 := fun _ _ _ _ _ _ _ _ => by
    by_cases q1 : mn = 3
    · have q2 : decide (dp < 3) = false := decide_eq_false fun z => hw ⟨q1, z⟩
      have q1 : (mn == 3) = true := beq_iff_eq.mpr q1
      simp -implicitDefEqProofs -dsimp only [↓bind_K, ↓out_K, ↓then_K, ↓optR_K, ↓cond_K, ↓forL_K, ↓lcL_K, ↓whileL_K, ↓catch_K, ↓catchK_nx, ↓catchK_rt, ↓catchK_exc, unset_rt, hush_rt, hush_nx, hush_ct, fin_exc, ↓bindK_ok, ↓outK_ok, ↓bindK_exc, ↓outK_exc, ↓thenK_nx, ↓thenK_rt, ↓thenK_exc, ↓thenK_bk, ↓thenK_ct, ↓optRK_some, ↓quiet_ok, ↓condK_t, ↓condK_f, ↓truth_bl, qE_slot, qE_isx, qE_k, qE_glob, qE_bin, qE_neg, qE_not, qE_and, qE_or, qE_cmp, qE_chain, qE_ife, qE_ix, qE_slc, qE_rev, qE_tup, qE_lst, qE_call, qE_bi, qE_isi, qE_meth, qE_lc, qE_smeth, qE_get2, qE_setd, qE_dnew, qEs_nil, qEs_cons, qAll_nil, qAll_cons, qO_no, qO_some, qI_seq, qI_range1, qI_range2, qI_range3, qI_zip, qI_enum, qI_rev, qT_name, qT_tup, qT_sub, qTs_nil, qTs_cons, qS_asg, qS_par, qS_aug, qS_ife, qS_for, qS_forD, qS_while, qS_ret, qS_retN, qS_drop, qS_pass, qS_brk, qS_cont, qS_raise, qS_try, qS_pick, qSs_nil, qSs_cons, dv_int, dv_bl, dv_str, dv_non, List.getElem?_cons_zero, List.getElem?_cons_succ, List.set_cons_zero, List.set_cons_succ, List.length_cons, List.length_nil, Nat.reduceAdd, Nat.reduceLT, if_true, fin_rt, fin_nx, at_0, at_1, at_2, at_3, itemV_ref, itemV_tup, cmp_eq_int, cmp_ne_int, cmp_lt_int, cmp_le_int, cmp_gt_int, cmp_ge_int, bin_add, bin_sub, bi_int_int, q1, q2]
    · have q1 : (mn == 3) = false := beq_eq_false_iff_ne.mpr q1
      simp -implicitDefEqProofs -dsimp only [↓bind_K, ↓out_K, ↓then_K, ↓optR_K, ↓cond_K, ↓forL_K, ↓lcL_K, ↓whileL_K, ↓catch_K, ↓catchK_nx, ↓catchK_rt, ↓catchK_exc, unset_rt, hush_rt, hush_nx, hush_ct, fin_exc, ↓bindK_ok, ↓outK_ok, ↓bindK_exc, ↓outK_exc, ↓thenK_nx, ↓thenK_rt, ↓thenK_exc, ↓thenK_bk, ↓thenK_ct, ↓optRK_some, ↓quiet_ok, ↓condK_t, ↓condK_f, ↓truth_bl, qE_slot, qE_isx, qE_k, qE_glob, qE_bin, qE_neg, qE_not, qE_and, qE_or, qE_cmp, qE_chain, qE_ife, qE_ix, qE_slc, qE_rev, qE_tup, qE_lst, qE_call, qE_bi, qE_isi, qE_meth, qE_lc, qE_smeth, qE_get2, qE_setd, qE_dnew, qEs_nil, qEs_cons, qAll_nil, qAll_cons, qO_no, qO_some, qI_seq, qI_range1, qI_range2, qI_range3, qI_zip, qI_enum, qI_rev, qT_name, qT_tup, qT_sub, qTs_nil, qTs_cons, qS_asg, qS_par, qS_aug, qS_ife, qS_for, qS_forD, qS_while, qS_ret, qS_retN, qS_drop, qS_pass, qS_brk, qS_cont, qS_raise, qS_try, qS_pick, qSs_nil, qSs_cons, dv_int, dv_bl, dv_str, dv_non, List.getElem?_cons_zero, List.getElem?_cons_succ, List.set_cons_zero, List.set_cons_succ, List.length_cons, List.length_nil, Nat.reduceAdd, Nat.reduceLT, if_true, fin_rt, fin_nx, at_0, at_1, at_2, at_3, itemV_ref, itemV_tup, cmp_eq_int, cmp_ne_int, cmp_lt_int, cmp_le_int, cmp_gt_int, cmp_ge_int, bin_add, bin_sub, bi_int_int, q1]
  -- a put, from any store behind
  have put : ∀ s2 w11, Dr s2 d → Kp d s s2 → ∃ (t : Sn) (s' : Store), (evSs (callAt Dt Gt subt (k + 6)) Gt subt (.cons (.asg (.name 12) (.lc (.name 9) (.range1 (.bi .len (.cons (.slot 1) (.nil)))) (.cons (.cmp .ne (.ix (.ix (.slot 1) (.slot 9)) (.k (.int 0))) (.k (.str "in"))) .nil) (.slot 9) [9])) (.cons (.asg (.name 9) (.ix (.slot 12) (.call 7 (.cons (.slot 0) (.cons (.bi .len (.cons (.slot 12) (.nil))) (.nil)))))) (.cons (.ret (.tup (.cons (.k (.str "put")) (.cons (.slot 9) (.cons (.call 9 (.cons (.slot 0) (.cons (.slot 2) (.cons (.ix (.ix (.slot 1) (.slot 9)) (.k (.int 1))) (.nil))))) (.cons (.call 12 (.cons (.slot 0) (.cons (.slot 1) (.cons (.slot 2) (.cons (.k (.int 1)) (.nil)))))) (.nil))))))) (.nil)))) [some (.ref d), some B, some (.ref er), some (.int dp), some (.int mn), none, none, none, none, none, none, w11, none] s2) = .rt (snD t) s' ∧ t.ht ≤ h + 1 ∧ Dr s' d ∧ Kp d s2 s' := by
    intro s2 w11 D2 K2
    have l1 := spots_run (K0 := k + 6) (d := d) (s := s2) (op := .ne) (role := "in") (p := fun z => !decide (z = ("in" : Str))) (slot := 9) (r := [some (.ref d), some B, some (.ref er), some (.int dp), some (.int mn), none, none, none, none, none, none, w11, none]) rfl (show 9 < 13 by decide) (by decide) (hB.kp K2) hb (fun b hbm s => ne_str (hb.2.2.1 b hbm).2.2 (by decide +kernel))
    obtain ⟨L, hL⟩ : ∃ L, L = spots (fun z => !decide (z = ("in" : Str))) bs := ⟨_, rfl⟩
    have mL : ∀ x ∈ L, ∃ i : Int, x = .int i ∧ 0 ≤ i ∧ i < (bs.length : Int) := fun x hx => spots_mem (hL ▸ hx)
    have nL : L.length ≤ 10 := by rw [hL]; exact Nat.le_trans spots_le hb.2.1
    have pL : 0 < L.length := by
      rw [hL]
      refine spots_pos ?_
      obtain ⟨b, g1, g2⟩ := hb.2.2.2.2
      exact ⟨b, g1, by rw [decide_eq_false g2]; rfl⟩
    rw [← hL] at l1
    clear hL
    have cL : cellL (s2 ++ [Cell.lst L]) s2.length = some L := cell_snoc
    have ln := len_ref cL
    obtain ⟨u, s3, e3, u0, u1, D3, K3⟩ := draw (k := k + 5) (many := (L.length : Int)) (s := s2 ++ [Cell.lst L]) D2.more (by omega) (small_log (by omega) (by omega))
    obtain ⟨i, hi, i0, i1⟩ := pick_spot mL u0 u1
    have it := item_ref (K3.cell cL (by have := D2.lt; omega)) hi
    have it := item_ref (s := s3) (K3.cell cL (by have := D2.lt; omega)) hi
    have cL3 := K3.cell cL (by have := D2.lt; omega)
    obtain ⟨b, hbi, b1, b2, _⟩ := hb.at_ i0 i1
    have K3' := (K2.trans Kp.app).trans K3
    have x3 : itemV B (.int i) s3 = .ok (.tup [.str b.1, .int b.2]) s3 := (hB.kp K3').at_ hbi
    obtain ⟨xs, s4, e4, D4, K4⟩ := form_ok (k := k + 4) (size := b.2) D3 ((hE.kp K3').le (by omega)) b1 (by omega)
    have K4' := K3'.trans K4
    obtain ⟨x, s5, e5, D5, K5, h5⟩ := ex_any (k := k) d s4 B (.ref er) bs D4 ((hE.kp K4').le (by omega)) (hB.kp K4') hb
    refine ⟨.put i xs x, s5, ?_, by show x.ht + 1 ≤ h + 1; omega, D5, (Kp.app.trans K3).trans (K4.trans K5)⟩
    show _ = Out.rt (.tup [.str "put", .int i, .tup xs, .tup x.tl]) s5
    rcases hBo with ⟨_, rfl⟩ | ⟨_, rfl⟩ <;> simp -implicitDefEqProofs -dsimp only [↓bind_K, ↓out_K, ↓then_K, ↓optR_K, ↓cond_K, ↓forL_K, ↓lcL_K, ↓whileL_K, ↓catch_K, ↓catchK_nx, ↓catchK_rt, ↓catchK_exc, unset_rt, hush_rt, hush_nx, hush_ct, fin_exc, ↓bindK_ok, ↓outK_ok, ↓bindK_exc, ↓outK_exc, ↓thenK_nx, ↓thenK_rt, ↓thenK_exc, ↓thenK_bk, ↓thenK_ct, ↓optRK_some, ↓quiet_ok, ↓condK_t, ↓condK_f, ↓truth_bl, qE_slot, qE_isx, qE_k, qE_glob, qE_bin, qE_neg, qE_not, qE_and, qE_or, qE_cmp, qE_chain, qE_ife, qE_ix, qE_slc, qE_rev, qE_tup, qE_lst, qE_call, qE_bi, qE_isi, qE_meth, qE_lc, qE_smeth, qE_get2, qE_setd, qE_dnew, qEs_nil, qEs_cons, qAll_nil, qAll_cons, qO_no, qO_some, qI_seq, qI_range1, qI_range2, qI_range3, qI_zip, qI_enum, qI_rev, qT_name, qT_tup, qT_sub, qTs_nil, qTs_cons, qS_asg, qS_par, qS_aug, qS_ife, qS_for, qS_forD, qS_while, qS_ret, qS_retN, qS_drop, qS_pass, qS_brk, qS_cont, qS_raise, qS_try, qS_pick, qSs_nil, qSs_cons, dv_int, dv_bl, dv_str, dv_non, List.getElem?_cons_zero, List.getElem?_cons_succ, List.set_cons_zero, List.set_cons_succ, List.length_cons, List.length_nil, Nat.reduceAdd, Nat.reduceLT, if_true, fin_rt, fin_nx, at_0, at_1, at_2, at_3, itemV_ref, itemV_tup, cmp_eq_int, cmp_ne_int, cmp_lt_int, cmp_le_int, cmp_gt_int, cmp_ge_int, bin_add, bin_sub, bi_int_int, ↓l1, ln, e3, it, cL3, hi, x3, e4, e5, z4]
  by_cases h4 : mn = 4
  · have q4 : (mn == 4) = true := beq_iff_eq.mpr h4
    obtain ⟨v, s2, e2, hv, D2, K2⟩ := copy_ok (k := k + 2) D1 (hE1.le (by omega)) hB1 hb
    have K12 := K1.trans K2
    rcases hv with rfl | ⟨ca, cx, cb, cy, cc, rfl⟩
    · obtain ⟨t, s3, e3, h3, D3, K3⟩ := put s2 (some .non) D2 K12
      refine ⟨t, s3, ?_, h3, D3, K12.trans K3⟩
      have nn : ∀ s, cmpV .isNot .non .non s = .ok false s := fun s => rfl
      rcases hBo with ⟨_, rfl⟩ | ⟨_, rfl⟩ <;> simp -implicitDefEqProofs -dsimp only [↓bind_K, ↓out_K, ↓then_K, ↓optR_K, ↓cond_K, ↓forL_K, ↓lcL_K, ↓whileL_K, ↓catch_K, ↓catchK_nx, ↓catchK_rt, ↓catchK_exc, unset_rt, hush_rt, hush_nx, hush_ct, fin_exc, ↓bindK_ok, ↓outK_ok, ↓bindK_exc, ↓outK_exc, ↓thenK_nx, ↓thenK_rt, ↓thenK_exc, ↓thenK_bk, ↓thenK_ct, ↓optRK_some, ↓quiet_ok, ↓condK_t, ↓condK_f, ↓truth_bl, qE_slot, qE_isx, qE_k, qE_glob, qE_bin, qE_neg, qE_not, qE_and, qE_or, qE_cmp, qE_chain, qE_ife, qE_ix, qE_slc, qE_rev, qE_tup, qE_lst, qE_call, qE_bi, qE_isi, qE_meth, qE_lc, qE_smeth, qE_get2, qE_setd, qE_dnew, qEs_nil, qEs_cons, qAll_nil, qAll_cons, qO_no, qO_some, qI_seq, qI_range1, qI_range2, qI_range3, qI_zip, qI_enum, qI_rev, qT_name, qT_tup, qT_sub, qTs_nil, qTs_cons, qS_asg, qS_par, qS_aug, qS_ife, qS_for, qS_forD, qS_while, qS_ret, qS_retN, qS_drop, qS_pass, qS_brk, qS_cont, qS_raise, qS_try, qS_pick, qSs_nil, qSs_cons, dv_int, dv_bl, dv_str, dv_non, List.getElem?_cons_zero, List.getElem?_cons_succ, List.set_cons_zero, List.set_cons_succ, List.length_cons, List.length_nil, Nat.reduceAdd, Nat.reduceLT, if_true, fin_rt, fin_nx, at_0, at_1, at_2, at_3, itemV_ref, itemV_tup, cmp_eq_int, cmp_ne_int, cmp_lt_int, cmp_le_int, cmp_gt_int, cmp_ge_int, bin_add, bin_sub, bi_int_int, call_14, b14, e1, ↓noloop, ↓nowhen, q4, e2, nn, ↓e3]
    · refine ⟨.copy ca cx cb cy cc, s2, ?_, by show 3 ≤ h + 1; omega, D2, K12⟩
      have nn : ∀ xs s, cmpV .isNot (.tup xs) .non s = .ok true s := fun _ s => rfl
      show _ = Res.ok (DV.tup [.str "copy", .int ca, .tup cx, .int cb, .tup cy, .int cc]) s2
      rcases hBo with ⟨_, rfl⟩ | ⟨_, rfl⟩ <;> simp -implicitDefEqProofs -dsimp only [↓bind_K, ↓out_K, ↓then_K, ↓optR_K, ↓cond_K, ↓forL_K, ↓lcL_K, ↓whileL_K, ↓catch_K, ↓catchK_nx, ↓catchK_rt, ↓catchK_exc, unset_rt, hush_rt, hush_nx, hush_ct, fin_exc, ↓bindK_ok, ↓outK_ok, ↓bindK_exc, ↓outK_exc, ↓thenK_nx, ↓thenK_rt, ↓thenK_exc, ↓thenK_bk, ↓thenK_ct, ↓optRK_some, ↓quiet_ok, ↓condK_t, ↓condK_f, ↓truth_bl, qE_slot, qE_isx, qE_k, qE_glob, qE_bin, qE_neg, qE_not, qE_and, qE_or, qE_cmp, qE_chain, qE_ife, qE_ix, qE_slc, qE_rev, qE_tup, qE_lst, qE_call, qE_bi, qE_isi, qE_meth, qE_lc, qE_smeth, qE_get2, qE_setd, qE_dnew, qEs_nil, qEs_cons, qAll_nil, qAll_cons, qO_no, qO_some, qI_seq, qI_range1, qI_range2, qI_range3, qI_zip, qI_enum, qI_rev, qT_name, qT_tup, qT_sub, qTs_nil, qTs_cons, qS_asg, qS_par, qS_aug, qS_ife, qS_for, qS_forD, qS_while, qS_ret, qS_retN, qS_drop, qS_pass, qS_brk, qS_cont, qS_raise, qS_try, qS_pick, qSs_nil, qSs_cons, dv_int, dv_bl, dv_str, dv_non, List.getElem?_cons_zero, List.getElem?_cons_succ, List.set_cons_zero, List.set_cons_succ, List.length_cons, List.length_nil, Nat.reduceAdd, Nat.reduceLT, if_true, fin_rt, fin_nx, at_0, at_1, at_2, at_3, itemV_ref, itemV_tup, cmp_eq_int, cmp_ne_int, cmp_lt_int, cmp_le_int, cmp_gt_int, cmp_ge_int, bin_add, bin_sub, bi_int_int, call_14, b14, e1, ↓noloop, ↓nowhen, q4, e2, nn]
  · have q4 : (mn == 4) = false := beq_eq_false_iff_ne.mpr h4
    obtain ⟨t, s3, e3, h3, D3, K3⟩ := put s1 none D1 K1
    refine ⟨t, s3, ?_, h3, D3, K1.trans K3⟩
    rcases hBo with ⟨_, rfl⟩ | ⟨_, rfl⟩ <;> simp -implicitDefEqProofs -dsimp only [↓bind_K, ↓out_K, ↓then_K, ↓optR_K, ↓cond_K, ↓forL_K, ↓lcL_K, ↓whileL_K, ↓catch_K, ↓catchK_nx, ↓catchK_rt, ↓catchK_exc, unset_rt, hush_rt, hush_nx, hush_ct, fin_exc, ↓bindK_ok, ↓outK_ok, ↓bindK_exc, ↓outK_exc, ↓thenK_nx, ↓thenK_rt, ↓thenK_exc, ↓thenK_bk, ↓thenK_ct, ↓optRK_some, ↓quiet_ok, ↓condK_t, ↓condK_f, ↓truth_bl, qE_slot, qE_isx, qE_k, qE_glob, qE_bin, qE_neg, qE_not, qE_and, qE_or, qE_cmp, qE_chain, qE_ife, qE_ix, qE_slc, qE_rev, qE_tup, qE_lst, qE_call, qE_bi, qE_isi, qE_meth, qE_lc, qE_smeth, qE_get2, qE_setd, qE_dnew, qEs_nil, qEs_cons, qAll_nil, qAll_cons, qO_no, qO_some, qI_seq, qI_range1, qI_range2, qI_range3, qI_zip, qI_enum, qI_rev, qT_name, qT_tup, qT_sub, qTs_nil, qTs_cons, qS_asg, qS_par, qS_aug, qS_ife, qS_for, qS_forD, qS_while, qS_ret, qS_retN, qS_drop, qS_pass, qS_brk, qS_cont, qS_raise, qS_try, qS_pick, qSs_nil, qSs_cons, dv_int, dv_bl, dv_str, dv_non, List.getElem?_cons_zero, List.getElem?_cons_succ, List.set_cons_zero, List.set_cons_succ, List.length_cons, List.length_nil, Nat.reduceAdd, Nat.reduceLT, if_true, fin_rt, fin_nx, at_0, at_1, at_2, at_3, itemV_ref, itemV_tup, cmp_eq_int, cmp_ne_int, cmp_lt_int, cmp_le_int, cmp_gt_int, cmp_ge_int, bin_add, bin_sub, bi_int_int, call_14, b14, e1, ↓noloop, ↓nowhen, q4, ↓e3]
theorem body_any : BodyGen (k + 14) 0 1 9 := by
  have a3 : BodyGen (k + 8) 3 4 6 := body_step (sn_step (k := k) (h := 5) (by decide) (by decide) (by decide) (by decide) fun h => absurd h (by decide))
  have a2 : BodyGen (k + 10) 2 3 7 := body_step (sn_step (k := k + 2) (h := 6) (by decide) (by decide) (by decide) (by decide) fun _ => a3)
  have a1 : BodyGen (k + 12) 1 2 8 := body_step (sn_step (k := k + 4) (h := 7) (by decide) (by decide) (by decide) (by decide) fun _ => a2)
  exact body_step (sn_step (k := k + 6) (h := 8) (by decide) (by decide) (by decide) (by decide) fun _ => a1)
end
section
variable {k d : Nat} {s s' : Store}
theorem roles_at {r : Int} (h0 : 0 ≤ r) (h1 : r < 4) : ∃ z : Str, L2.atI [DV.str "near", .str "main", .str "in", .str "near"] r = some (.str z) ∧ PyData.strOk z = true := by
  have : r = 0 ∨ r = 1 ∨ r = 2 ∨ r = 3 := by omega
  rcases this with rfl | rfl | rfl | rfl
  · exact ⟨_, at_0, by decide +kernel⟩
  · exact ⟨_, at_1, by decide +kernel⟩
  · exact ⟨_, at_2, by decide +kernel⟩
  · exact ⟨_, at_3, by decide +kernel⟩
theorem BsV.more {bs : List (Str × Int)} (h : BsV bs) {z : Str} {x : Int} (hl : bs.length < 10) (h1 : 1 ≤ x) (h5 : x ≤ 5) (hz : PyData.strOk z = true) : BsV (bs ++ [(z, x)]) := by
  refine ⟨fun e => by simp at e, by rw [List.length_append, List.length_singleton]; omega, fun b hb => ?_, ?_, ?_⟩
  · rcases List.mem_append.mp hb with hb | hb
    · exact h.2.2.1 b hb
    · rw [List.mem_singleton] at hb
      subst hb
      exact ⟨h1, h5, hz⟩
  · obtain ⟨b, h1, h2⟩ := h.2.2.2.1
    exact ⟨b, List.mem_append_left _ h1, h2⟩
  · obtain ⟨b, h1, h2⟩ := h.2.2.2.2
    exact ⟨b, List.mem_append_left _ h1, h2⟩
theorem bs_two {x y : Int} (h1 : 1 ≤ x) (h5 : x ≤ 5) (h1' : 1 ≤ y) (h5' : y ≤ 5) : BsV [("in", x), ("main", y)] := by
  refine ⟨fun e => (by cases e), by simp, fun b hb => ?_, ⟨("in", x), by simp, show ("in" : Str) ≠ "near" by decide +kernel⟩, ⟨("main", y), by simp, show ("main" : Str) ≠ "in" by decide +kernel⟩⟩
  rcases List.mem_cons.mp hb with rfl | hb
  · exact ⟨h1, h5, show PyData.strOk ("in" : Str) = true by decide +kernel⟩
  · rw [List.mem_singleton] at hb
    subst hb
    exact ⟨h1', h5', show PyData.strOk ("main" : Str) = true by decide +kernel⟩
noncomputable def P1 (k : Nat) : DV → Ip.Loc → Store → Out := fun x r s => (evT (callAt Dt Gt subt (k + 14)) Gt subt (.name 3) x r s).out r fun r s => evSs (callAt Dt Gt subt (k + 14)) Gt subt b16l1 r s
noncomputable def P0 (k : Nat) : DV → Ip.Loc → Store → Out := fun x r s => (evT (callAt Dt Gt subt (k + 14)) Gt subt (.name 3) x r s).out r fun r s => evSs (callAt Dt Gt subt (k + 14)) Gt subt b16l0 r s
theorem prog_buf {s0 : Store} {n : Nat} {bs : List (Str × Int)} {x w1 w4 w5 w3 : Option DV} {y : DV} (D : Dr s d) (K : Kp d s0 s) (hn : s0.length ≤ n) (hdn : d < n) (hc : s[n]? = some (.lst (bs.map bD))) (hb : BsV bs) (hl : bs.length < 10) :
    ∃ (bs' : List (Str × Int)) (s' : Store), P1 k y [some (.ref d), w1, some (.ref n), w3, w4, w5] s = .nx [some (.ref d), w1, some (.ref n), some y, w4, w5] s' ∧ Dr s' d ∧ Kp d s0 s' ∧ s'[n]? = some (.lst (bs'.map bD)) ∧ BsV bs' ∧ bs'.length = bs.length + 1 := by
  obtain ⟨t, s1, e1, t0, t1, D1, K1⟩ := draw (k := k + 13) (many := 4) D (by decide) (by decide)
  obtain ⟨z, hz, hzo⟩ := roles_at t0 t1
  obtain ⟨u, s2, e2, u0, u1, D2, K2⟩ := draw (k := k + 13) (many := 5) D1 (by decide) (by decide)
  have c2 := (K1.trans K2).get hc (by omega)
  have c0 := cellL_of hc
  have ap := fun v => append_ok (v := v) c2 (by rw [List.length_map]; exact Nat.lt_of_lt_of_le hl (by decide))
  have z4 := z_le 4 (by decide)
  have z2 := z_le 2 (by decide)
  have e : bs.map bD ++ [DV.tup [.str z, .int (1 + u)]] = (bs ++ [(z, 1 + u)]).map bD := by rw [List.map_append]; rfl
  refine ⟨bs ++ [(z, 1 + u)], s2.set n (.lst (bs.map bD ++ [.tup [.str z, .int (1 + u)]])), ?_, D2.up hdn, kp_up (K.trans (K1.trans K2)) hn, (get_set c2).trans (by rw [e]), hb.more hl (by omega) (by omega) hzo, by rw [List.length_append]; rfl⟩
  simp -implicitDefEqProofs -dsimp only [↓bind_K, ↓out_K, ↓then_K, ↓optR_K, ↓cond_K, ↓forL_K, ↓lcL_K, ↓whileL_K, ↓catch_K, ↓catchK_nx, ↓catchK_rt, ↓catchK_exc, unset_rt, hush_rt, hush_nx, hush_ct, fin_exc, ↓bindK_ok, ↓outK_ok, ↓bindK_exc, ↓outK_exc, ↓thenK_nx, ↓thenK_rt, ↓thenK_exc, ↓thenK_bk, ↓thenK_ct, ↓optRK_some, ↓quiet_ok, ↓condK_t, ↓condK_f, ↓truth_bl, qE_slot, qE_isx, qE_k, qE_glob, qE_bin, qE_neg, qE_not, qE_and, qE_or, qE_cmp, qE_chain, qE_ife, qE_ix, qE_slc, qE_rev, qE_tup, qE_lst, qE_call, qE_bi, qE_isi, qE_meth, qE_lc, qE_smeth, qE_get2, qE_setd, qE_dnew, qEs_nil, qEs_cons, qAll_nil, qAll_cons, qO_no, qO_some, qI_seq, qI_range1, qI_range2, qI_range3, qI_zip, qI_enum, qI_rev, qT_name, qT_tup, qT_sub, qTs_nil, qTs_cons, qS_asg, qS_par, qS_aug, qS_ife, qS_for, qS_forD, qS_while, qS_ret, qS_retN, qS_drop, qS_pass, qS_brk, qS_cont, qS_raise, qS_try, qS_pick, qSs_nil, qSs_cons, dv_int, dv_bl, dv_str, dv_non, List.getElem?_cons_zero, List.getElem?_cons_succ, List.set_cons_zero, List.set_cons_succ, List.length_cons, List.length_nil, Nat.reduceAdd, Nat.reduceLT, if_true, fin_rt, fin_nx, at_0, at_1, at_2, at_3, itemV_ref, itemV_tup, cmp_eq_int, cmp_ne_int, cmp_lt_int, cmp_le_int, cmp_gt_int, cmp_ge_int, bin_add, bin_sub, bi_int_int, P1, b16l1, c0, z4, e1, hz, e2, z2, ap]
theorem prog_put {s0 : Store} {n m : Nat} {bs : List (Str × Int)} {ts : List Sn} {w3 w5 : Option DV} {x : Bool} {j : Nat} (D : Dr s d) (K : Kp d s0 s) (hn : s0.length ≤ m) (hdm : d < m) (hnm : n ≠ m) (hnd : n ≠ d) (hc : s[n]? = some (.lst (bs.map bD))) (hm : s[m]? = some (.lst (ts.map snD))) (hb : BsV bs) (hj : j < bs.length) (ht : ∀ t ∈ ts, t.ht ≤ 9) (hl : ts.length ≤ 20) :
    ∃ (ts' : List Sn) (w5' : Option DV) (s' : Store), P0 k (.int (0 + (j : Int))) [some (.ref d), some (.bl x), some (.ref n), w3, some (.ref m), w5] s = .nx [some (.ref d), some (.bl x), some (.ref n), some (.int (0 + (j : Int))), some (.ref m), w5'] s' ∧ Dr s' d ∧ Kp d s0 s' ∧ s'[n]? = some (.lst (bs.map bD)) ∧ s'[m]? = some (.lst (ts'.map snD)) ∧ (∀ t ∈ ts', t.ht ≤ 9) ∧ ts'.length ≤ ts.length + 1 := by
  obtain ⟨b, hbi, b1, b2, b3⟩ := hb.at_ (i := 0 + (j : Int)) (by omega) (by omega)
  have hB : ∀ s', s'[n]? = some (.lst (bs.map bD)) → BufV d s' (.ref n) bs := fun s' h => .inr ⟨n, rfl, hnd, cellL_of h⟩
  have i1 : itemV (.ref n) (.int (0 + (j : Int))) s = .ok (.tup [.str b.1, .int b.2]) s := (hB s hc).at_ hbi
  have cn := cellL_of hc
  have q := ne_str (s := s) b3 (b := "in") (by decide +kernel)
  generalize (!decide (b.1 = ("in" : Str))) = x1 at q
  have a1 : L2.atI (bs.map bD) (0 + (j : Int)) = some (.tup [.str b.1, .int b.2]) := by
    rw [Int.zero_add] at hbi ⊢
    refine L2.atI_nat ?_
    rw [List.getElem?_map]
    have g := List.getElem?_eq_getElem hj
    have g2 := L2.atI_nat g
    rw [hbi] at g2
    have hbi : bs[j]? = some b := g.trans g2.symm
    rw [hbi]
    rfl
  cases x1 with
  | false =>
    refine ⟨ts, w5, s, ?_, D, K, hc, hm, ht, by omega⟩
    simp -implicitDefEqProofs -dsimp only [↓bind_K, ↓out_K, ↓then_K, ↓optR_K, ↓cond_K, ↓forL_K, ↓lcL_K, ↓whileL_K, ↓catch_K, ↓catchK_nx, ↓catchK_rt, ↓catchK_exc, unset_rt, hush_rt, hush_nx, hush_ct, fin_exc, ↓bindK_ok, ↓outK_ok, ↓bindK_exc, ↓outK_exc, ↓thenK_nx, ↓thenK_rt, ↓thenK_exc, ↓thenK_bk, ↓thenK_ct, ↓optRK_some, ↓quiet_ok, ↓condK_t, ↓condK_f, ↓truth_bl, qE_slot, qE_isx, qE_k, qE_glob, qE_bin, qE_neg, qE_not, qE_and, qE_or, qE_cmp, qE_chain, qE_ife, qE_ix, qE_slc, qE_rev, qE_tup, qE_lst, qE_call, qE_bi, qE_isi, qE_meth, qE_lc, qE_smeth, qE_get2, qE_setd, qE_dnew, qEs_nil, qEs_cons, qAll_nil, qAll_cons, qO_no, qO_some, qI_seq, qI_range1, qI_range2, qI_range3, qI_zip, qI_enum, qI_rev, qT_name, qT_tup, qT_sub, qTs_nil, qTs_cons, qS_asg, qS_par, qS_aug, qS_ife, qS_for, qS_forD, qS_while, qS_ret, qS_retN, qS_drop, qS_pass, qS_brk, qS_cont, qS_raise, qS_try, qS_pick, qSs_nil, qSs_cons, dv_int, dv_bl, dv_str, dv_non, List.getElem?_cons_zero, List.getElem?_cons_succ, List.set_cons_zero, List.set_cons_succ, List.length_cons, List.length_nil, Nat.reduceAdd, Nat.reduceLT, if_true, fin_rt, fin_nx, at_0, at_1, at_2, at_3, itemV_ref, itemV_tup, cmp_eq_int, cmp_ne_int, cmp_lt_int, cmp_le_int, cmp_gt_int, cmp_ge_int, bin_add, bin_sub, bi_int_int, P0, b16l0, cn, a1, q]
  | true =>
    cases x with
    | false =>
      refine ⟨ts, w5, s, ?_, D, K, hc, hm, ht, by omega⟩
      simp -implicitDefEqProofs -dsimp only [↓bind_K, ↓out_K, ↓then_K, ↓optR_K, ↓cond_K, ↓forL_K, ↓lcL_K, ↓whileL_K, ↓catch_K, ↓catchK_nx, ↓catchK_rt, ↓catchK_exc, unset_rt, hush_rt, hush_nx, hush_ct, fin_exc, ↓bindK_ok, ↓outK_ok, ↓bindK_exc, ↓outK_exc, ↓thenK_nx, ↓thenK_rt, ↓thenK_exc, ↓thenK_bk, ↓thenK_ct, ↓optRK_some, ↓quiet_ok, ↓condK_t, ↓condK_f, ↓truth_bl, qE_slot, qE_isx, qE_k, qE_glob, qE_bin, qE_neg, qE_not, qE_and, qE_or, qE_cmp, qE_chain, qE_ife, qE_ix, qE_slc, qE_rev, qE_tup, qE_lst, qE_call, qE_bi, qE_isi, qE_meth, qE_lc, qE_smeth, qE_get2, qE_setd, qE_dnew, qEs_nil, qEs_cons, qAll_nil, qAll_cons, qO_no, qO_some, qI_seq, qI_range1, qI_range2, qI_range3, qI_zip, qI_enum, qI_rev, qT_name, qT_tup, qT_sub, qTs_nil, qTs_cons, qS_asg, qS_par, qS_aug, qS_ife, qS_for, qS_forD, qS_while, qS_ret, qS_retN, qS_drop, qS_pass, qS_brk, qS_cont, qS_raise, qS_try, qS_pick, qSs_nil, qSs_cons, dv_int, dv_bl, dv_str, dv_non, List.getElem?_cons_zero, List.getElem?_cons_succ, List.set_cons_zero, List.set_cons_succ, List.length_cons, List.length_nil, Nat.reduceAdd, Nat.reduceLT, if_true, fin_rt, fin_nx, at_0, at_1, at_2, at_3, itemV_ref, itemV_tup, cmp_eq_int, cmp_ne_int, cmp_lt_int, cmp_le_int, cmp_gt_int, cmp_ge_int, bin_add, bin_sub, bi_int_int, P0, b16l0, cn, a1, q]
    | true =>
      obtain ⟨r, s1, e1, D1, K1⟩ := signed_ok (k := k + 12) (most := 9) D (by decide) (by decide)
      have c1 := K1.get hm (by omega)
      have n1 := K1.get hc hnd
      have cn1 := cellL_of n1
      have cm1 := cellL_of c1
      have ap := fun v => append_ok (v := v) c1 (by rw [List.length_map]; exact Nat.lt_of_le_of_lt hl (by decide))
      have z1 := z_le 1 (by decide)
      have z2 := z_le 2 (by decide)
      have z4 := z_le 4 (by decide)
      have z6 := z_le 6 (by decide)
      let t : Sn := .loop1 0 0 1 b.2 (.put (0 + (j : Int)) [.int 0, .tup [.tup [.int 0, .int 1]]] (.idx [.int r, .tup [.tup [.int 0, .int 2]]]))
      have e : ts.map snD ++ [DV.tup [.str "loop", .int 0, .int 0, .int 1, .int b.2, .tup [.tup [.str "put", .int (0 + (j : Int)), .tup [.int 0, .tup [.tup [.int 0, .int 1]]], .tup [.str "index", .tup [.int r, .tup [.tup [.int 0, .int 2]]]]]]]] = (ts ++ [t]).map snD := by
        rw [List.map_append]
        rfl
      refine ⟨ts ++ [t], some (.tup [.str "put", .int (0 + (j : Int)), .tup [.int 0, .tup [.tup [.int 0, .int 1]]], .tup [.str "index", .tup [.int r, .tup [.tup [.int 0, .int 2]]]]]), s1.set m (.lst (ts.map snD ++ [.tup [.str "loop", .int 0, .int 0, .int 1, .int b.2, .tup [.tup [.str "put", .int (0 + (j : Int)), .tup [.int 0, .tup [.tup [.int 0, .int 1]]], .tup [.str "index", .tup [.int r, .tup [.tup [.int 0, .int 2]]]]]]]])), ?_, D1.up hdm, kp_up (K.trans K1) hn, (get_set_ne (Ne.symm hnm)).trans n1, (get_set c1).trans (by rw [e]), fun u hu => ?_, by rw [List.length_append]; exact Nat.le_refl _⟩
      · simp -implicitDefEqProofs -dsimp only [↓bind_K, ↓out_K, ↓then_K, ↓optR_K, ↓cond_K, ↓forL_K, ↓lcL_K, ↓whileL_K, ↓catch_K, ↓catchK_nx, ↓catchK_rt, ↓catchK_exc, unset_rt, hush_rt, hush_nx, hush_ct, fin_exc, ↓bindK_ok, ↓outK_ok, ↓bindK_exc, ↓outK_exc, ↓thenK_nx, ↓thenK_rt, ↓thenK_exc, ↓thenK_bk, ↓thenK_ct, ↓optRK_some, ↓quiet_ok, ↓condK_t, ↓condK_f, ↓truth_bl, qE_slot, qE_isx, qE_k, qE_glob, qE_bin, qE_neg, qE_not, qE_and, qE_or, qE_cmp, qE_chain, qE_ife, qE_ix, qE_slc, qE_rev, qE_tup, qE_lst, qE_call, qE_bi, qE_isi, qE_meth, qE_lc, qE_smeth, qE_get2, qE_setd, qE_dnew, qEs_nil, qEs_cons, qAll_nil, qAll_cons, qO_no, qO_some, qI_seq, qI_range1, qI_range2, qI_range3, qI_zip, qI_enum, qI_rev, qT_name, qT_tup, qT_sub, qTs_nil, qTs_cons, qS_asg, qS_par, qS_aug, qS_ife, qS_for, qS_forD, qS_while, qS_ret, qS_retN, qS_drop, qS_pass, qS_brk, qS_cont, qS_raise, qS_try, qS_pick, qSs_nil, qSs_cons, dv_int, dv_bl, dv_str, dv_non, List.getElem?_cons_zero, List.getElem?_cons_succ, List.set_cons_zero, List.set_cons_succ, List.length_cons, List.length_nil, Nat.reduceAdd, Nat.reduceLT, if_true, fin_rt, fin_nx, at_0, at_1, at_2, at_3, itemV_ref, itemV_tup, cmp_eq_int, cmp_ne_int, cmp_lt_int, cmp_le_int, cmp_gt_int, cmp_ge_int, bin_add, bin_sub, bi_int_int, P0, b16l0, cn, cn1, a1, q, z1, z2, z4, z6, e1, cm1, ap]
      · rcases List.mem_append.mp hu with hu | hu
        · exact ht u hu
        · rw [List.mem_singleton] at hu
          subst hu
          show 2 + 1 + 1 ≤ 9
          omega
theorem program_ok {x : Bool} (D : Dr s d) : ∃ (bs : List (Str × Int)) (ts : List Sn) (s' : Store), callAt Dt Gt subt (k + 15) 16 [.ref d, .bl x] s = .ok (.tup [.tup (bs.map bD), .tup (ts.map snD)]) s' ∧ BsV bs ∧ (∀ t ∈ ts, t.ht ≤ 9) ∧ ts.length ≤ 30 ∧ Dr s' d ∧ Kp d s s' := by
  have z2 := z_le 2 (by decide)
  have z0 := z_le 0 (by decide)
  have dlt := D.lt
  obtain ⟨u, s1, e1, u0, u1, D1, K1⟩ := draw (k := k + 13) (many := 5) D (by decide) (by decide)
  obtain ⟨v, s2, e2, v0, v1, D2, K2⟩ := draw (k := k + 13) (many := 5) D1 (by decide) (by decide)
  have K12 := K1.trans K2
  have l2 : s.length ≤ s2.length := K12.1
  obtain ⟨w, s3, e3, w0, w1, D3, K3⟩ := draw (k := k + 13) (many := 3) (s := s2 ++ [.lst [.tup [.str "in", .int (1 + u)], .tup [.str "main", .int (1 + v)]]]) D2.more (by decide) (by decide)
  obtain ⟨n, hn⟩ : ∃ n : Nat, w = (n : Int) := ⟨w.toNat, by omega⟩
  have rg : (-(2 ^ 62) ≤ w ∧ w < 2 ^ 62) = True := eq_true (by omega)
  have c3 : s3[s2.length]? = some (.lst (List.map bD [("in", 1 + u), ("main", 1 + v)])) := K3.get get_snoc (by omega)
  have K03 : Kp d s s3 := (K12.trans Kp.app).trans K3
  have key1 := for_word (f := .free) (body := P1 k) (all := (List.range w.toNat).map fun (i : Nat) => DV.int (0 + (i : Int))) (r := [some (.ref d), some (.bl x), some (.ref s2.length), none, none, none]) (s := s3)
    (fun dn r s' => ∃ (w3 : Option DV) (bs : List (Str × Int)), r = [some (.ref d), some (.bl x), some (.ref s2.length), w3, none, none] ∧ Dr s' d ∧ Kp d s s' ∧ s'[s2.length]? = some (.lst (bs.map bD)) ∧ BsV bs ∧ bs.length = 2 + dn.length)
    ⟨none, _, rfl, D3, K03, c3, bs_two (by omega) (by omega) (by omega) (by omega), rfl⟩ (fun _ _ _ _ => free_ok)
    (fun dn y e r s' he h => by
      obtain ⟨w3, bs, rfl, D', K', c', hb, hl⟩ := h
      have ll := congrArg List.length he
      rw [List.length_map, List.length_range, List.length_append, List.length_cons] at ll
      obtain ⟨bs', s4, e4, D4, K4, c4, hb4, l4⟩ := prog_buf (k := k) (w1 := some (.bl x)) (w3 := w3) (w4 := none) (w5 := none) (x := none) (y := y) D' K' l2 (by omega) c' hb (by omega)
      exact ⟨_, s4, .inl e4, some y, bs', rfl, D4, K4, c4, hb4, by rw [l4, hl, List.length_append]; rfl⟩)
  obtain ⟨r4, s4, f1, w3, bs, rfl, D4, K4, c4, hb, hbl⟩ := key1
  have cF1 : evS (callAt Dt Gt subt (k + 14)) Gt subt (.for_ (.name 3) (.range1 (.call 7 (.cons (.slot 0) (.cons (.k (.int 3)) (.nil))))) b16l1) [some (.ref d), some (.bl x), some (.ref s2.length), none, none, none] (s2 ++ [.lst [.tup [.str "in", .int (1 + u)], .tup [.str "main", .int (1 + v)]]]) = _ := evS_for (by
    simp -implicitDefEqProofs -dsimp only [↓bind_K, ↓out_K, ↓then_K, ↓optR_K, ↓cond_K, ↓forL_K, ↓lcL_K, ↓whileL_K, ↓catch_K, ↓catchK_nx, ↓catchK_rt, ↓catchK_exc, unset_rt, hush_rt, hush_nx, hush_ct, fin_exc, ↓bindK_ok, ↓outK_ok, ↓bindK_exc, ↓outK_exc, ↓thenK_nx, ↓thenK_rt, ↓thenK_exc, ↓thenK_bk, ↓thenK_ct, ↓optRK_some, ↓quiet_ok, ↓condK_t, ↓condK_f, ↓truth_bl, qE_slot, qE_isx, qE_k, qE_glob, qE_bin, qE_neg, qE_not, qE_and, qE_or, qE_cmp, qE_chain, qE_ife, qE_ix, qE_slc, qE_rev, qE_tup, qE_lst, qE_call, qE_bi, qE_isi, qE_meth, qE_lc, qE_smeth, qE_get2, qE_setd, qE_dnew, qEs_nil, qEs_cons, qAll_nil, qAll_cons, qO_no, qO_some, qI_seq, qI_range1, qI_range2, qI_range3, qI_zip, qI_enum, qI_rev, qT_name, qT_tup, qT_sub, qTs_nil, qTs_cons, qS_asg, qS_par, qS_aug, qS_ife, qS_for, qS_forD, qS_while, qS_ret, qS_retN, qS_drop, qS_pass, qS_brk, qS_cont, qS_raise, qS_try, qS_pick, qSs_nil, qSs_cons, dv_int, dv_bl, dv_str, dv_non, List.getElem?_cons_zero, List.getElem?_cons_succ, List.set_cons_zero, List.set_cons_succ, List.length_cons, List.length_nil, Nat.reduceAdd, Nat.reduceLT, if_true, fin_rt, fin_nx, at_0, at_1, at_2, at_3, itemV_ref, itemV_tup, cmp_eq_int, cmp_ne_int, cmp_lt_int, cmp_le_int, cmp_gt_int, cmp_ge_int, bin_add, bin_sub, bi_int_int, e3, rg]) f1
  have lt4 : s2.length < s4.length := lt_of_get c4
  have bl10 := hb.2.1
  have rg2 : (-(2 ^ 62) ≤ (bs.length : Int) ∧ (bs.length : Int) < 2 ^ 62) = True := eq_true (by omega)
  have c4' : (s4 ++ [Cell.lst []])[s2.length]? = some (.lst (bs.map bD)) := get_more c4
  have key2 := for_word (f := .free) (body := P0 k) (all := (List.range bs.length).map fun (i : Nat) => DV.int (0 + (i : Int))) (r := [some (.ref d), some (.bl x), some (.ref s2.length), w3, some (.ref s4.length), none]) (s := s4 ++ [.lst []])
    (fun dn r s' => ∃ (w3 w5 : Option DV) (ts : List Sn), r = [some (.ref d), some (.bl x), some (.ref s2.length), w3, some (.ref s4.length), w5] ∧ Dr s' d ∧ Kp d s s' ∧ s'[s2.length]? = some (.lst (bs.map bD)) ∧ s'[s4.length]? = some (.lst (List.map snD ts)) ∧ (∀ t ∈ ts, t.ht ≤ 9) ∧ ts.length ≤ dn.length)
    ⟨w3, none, [], rfl, D4.more, K4.trans Kp.app, c4', get_snoc, fun t h => (by cases h), Nat.le_refl _⟩ (fun _ _ _ _ => free_ok)
    (fun dn y e r s' he h => by
      obtain ⟨w3, w5, ts, rfl, D', K', c', m', ht, hl⟩ := h
      have ll := congrArg List.length he
      rw [List.length_map, List.length_range, List.length_append, List.length_cons] at ll
      obtain ⟨j, hj, rfl⟩ := List.mem_map.mp (show y ∈ (List.range bs.length).map fun (i : Nat) => DV.int (0 + (i : Int)) from by rw [he]; simp)
      obtain ⟨ts', w5', s5, e5, D5, K5, c5, m5, ht5, l5⟩ := prog_put (k := k) (x := x) (w3 := w3) (w5 := w5) (j := j) D' K' (by omega) (by omega) (by omega) (by omega) c' m' hb (List.mem_range.mp hj) ht (by omega)
      exact ⟨_, s5, .inl e5, _, w5', ts', rfl, D5, K5, c5, m5, ht5, by rw [List.length_append, List.length_singleton]; omega⟩)
  obtain ⟨r5, s5, f2, w3', w5, ts, rfl, D5, K5, c5, m5, ht, htl⟩ := key2
  rw [List.length_map, List.length_range] at htl
  have lenb : biV .len [.ref s2.length] (s4 ++ [Cell.lst []]) = .ok (.int (bs.length : Int)) (s4 ++ [Cell.lst []]) := by
    rw [len_ref (cellL_of c4'), List.length_map]
  have cF2 : evS (callAt Dt Gt subt (k + 14)) Gt subt (.for_ (.name 3) (.range1 (.bi .len (.cons (.slot 2) (.nil)))) b16l0) [some (.ref d), some (.bl x), some (.ref s2.length), w3, some (.ref s4.length), none] (s4 ++ [.lst []]) = _ := evS_for (by
    simp -implicitDefEqProofs -dsimp only [↓bind_K, ↓out_K, ↓then_K, ↓optR_K, ↓cond_K, ↓forL_K, ↓lcL_K, ↓whileL_K, ↓catch_K, ↓catchK_nx, ↓catchK_rt, ↓catchK_exc, unset_rt, hush_rt, hush_nx, hush_ct, fin_exc, ↓bindK_ok, ↓outK_ok, ↓bindK_exc, ↓outK_exc, ↓thenK_nx, ↓thenK_rt, ↓thenK_exc, ↓thenK_bk, ↓thenK_ct, ↓optRK_some, ↓quiet_ok, ↓condK_t, ↓condK_f, ↓truth_bl, qE_slot, qE_isx, qE_k, qE_glob, qE_bin, qE_neg, qE_not, qE_and, qE_or, qE_cmp, qE_chain, qE_ife, qE_ix, qE_slc, qE_rev, qE_tup, qE_lst, qE_call, qE_bi, qE_isi, qE_meth, qE_lc, qE_smeth, qE_get2, qE_setd, qE_dnew, qEs_nil, qEs_cons, qAll_nil, qAll_cons, qO_no, qO_some, qI_seq, qI_range1, qI_range2, qI_range3, qI_zip, qI_enum, qI_rev, qT_name, qT_tup, qT_sub, qTs_nil, qTs_cons, qS_asg, qS_par, qS_aug, qS_ife, qS_for, qS_forD, qS_while, qS_ret, qS_retN, qS_drop, qS_pass, qS_brk, qS_cont, qS_raise, qS_try, qS_pick, qSs_nil, qSs_cons, dv_int, dv_bl, dv_str, dv_non, List.getElem?_cons_zero, List.getElem?_cons_succ, List.set_cons_zero, List.set_cons_succ, List.length_cons, List.length_nil, Nat.reduceAdd, Nat.reduceLT, if_true, fin_rt, fin_nx, at_0, at_1, at_2, at_3, itemV_ref, itemV_tup, cmp_eq_int, cmp_ne_int, cmp_lt_int, cmp_le_int, cmp_gt_int, cmp_ge_int, bin_add, bin_sub, bi_int_int, lenb, rg2]
    rfl) f2
  -- the rest of the body
  have D5m : Dr (s5 ++ [Cell.lst []]) d := D5.more
  have lt5 : s4.length < s5.length := lt_of_get m5
  obtain ⟨t, s6, e6, t0, t1, D6, K6⟩ := draw (k := k + 13) (many := 3) D5m (by decide) (by decide)
  obtain ⟨n', hn'⟩ : ∃ n' : Nat, 1 + t = (n' : Int) := ⟨(1 + t).toNat, by omega⟩
  have hE : EnvV d s6 (.ref s5.length) 1 := by
    refine EnvV.kp ?_ K6
    exact ⟨_, [], rfl, by omega, get_snoc, by decide, fun x h => by cases h⟩
  have hB : BufV d s6 (.ref s2.length) bs := BufV.kp (.inr ⟨_, rfl, by omega, cellL_of (get_more c5)⟩) K6
  obtain ⟨us, s7, e7, l7, h7, D7, K7⟩ := body_any (k := k) d s6 (.ref s2.length) (.ref s5.length) bs n' D6 hE hB hb (by omega) (by omega)
  have K57 : Kp d s5 s7 := (Kp.app.trans K6).trans K7
  have m7 := K57.get m5 (by omega)
  have c7 := K57.get c5 (by omega)
  have m8 : (s7 ++ [Cell.lst (us.map snD)])[s4.length]? = some (.lst (ts.map snD)) := get_more m7
  have g8 : (s7 ++ [Cell.lst (us.map snD)])[s7.length]? = some (.lst (us.map snD)) := get_snoc
  have cat : binV .add (.ref s4.length) (.ref s7.length) (s7 ++ [Cell.lst (us.map snD)]) = .ok (.ref (s7 ++ [Cell.lst (us.map snD)]).length) (s7 ++ [Cell.lst (us.map snD)] ++ [.lst ((ts ++ us).map snD)]) := by
    simp only [binV, m8, g8]
    rw [if_pos (by rw [List.length_map, List.length_map]; exact Nat.le_trans (show ts.length + us.length ≤ 1000 by omega) (by decide)), List.map_append]
  have lst : biV .list [.tup (us.map snD)] s7 = .ok (.ref s7.length) (s7 ++ [.lst (us.map snD)]) := rfl
  have c9 : cellL (s7 ++ [Cell.lst (us.map snD)] ++ [Cell.lst ((ts ++ us).map snD)]) s2.length = some (bs.map bD) := cellL_of (get_more (get_more c7))
  have b9 : cellL (s7 ++ [Cell.lst (us.map snD)] ++ [Cell.lst ((ts ++ us).map snD)]) (s7 ++ [Cell.lst (us.map snD)]).length = some ((ts ++ us).map snD) := cell_snoc
  refine ⟨bs, ts ++ us, s7 ++ [Cell.lst (us.map snD)] ++ [Cell.lst ((ts ++ us).map snD)], ?_, hb, fun t ht' => ?_, by rw [List.length_append]; omega, D7.more.more, K5.trans (K57.trans (Kp.app.trans Kp.app))⟩
  · simp -implicitDefEqProofs -dsimp only [↓bind_K, ↓out_K, ↓then_K, ↓optR_K, ↓cond_K, ↓forL_K, ↓lcL_K, ↓whileL_K, ↓catch_K, ↓catchK_nx, ↓catchK_rt, ↓catchK_exc, unset_rt, hush_rt, hush_nx, hush_ct, fin_exc, ↓bindK_ok, ↓outK_ok, ↓bindK_exc, ↓outK_exc, ↓thenK_nx, ↓thenK_rt, ↓thenK_exc, ↓thenK_bk, ↓thenK_ct, ↓optRK_some, ↓quiet_ok, ↓condK_t, ↓condK_f, ↓truth_bl, qE_slot, qE_isx, qE_k, qE_glob, qE_bin, qE_neg, qE_not, qE_and, qE_or, qE_cmp, qE_chain, qE_ife, qE_ix, qE_slc, qE_rev, qE_tup, qE_lst, qE_call, qE_bi, qE_isi, qE_meth, qE_lc, qE_smeth, qE_get2, qE_setd, qE_dnew, qEs_nil, qEs_cons, qAll_nil, qAll_cons, qO_no, qO_some, qI_seq, qI_range1, qI_range2, qI_range3, qI_zip, qI_enum, qI_rev, qT_name, qT_tup, qT_sub, qTs_nil, qTs_cons, qS_asg, qS_par, qS_aug, qS_ife, qS_for, qS_forD, qS_while, qS_ret, qS_retN, qS_drop, qS_pass, qS_brk, qS_cont, qS_raise, qS_try, qS_pick, qSs_nil, qSs_cons, dv_int, dv_bl, dv_str, dv_non, List.getElem?_cons_zero, List.getElem?_cons_succ, List.set_cons_zero, List.set_cons_succ, List.length_cons, List.length_nil, Nat.reduceAdd, Nat.reduceLT, if_true, fin_rt, fin_nx, at_0, at_1, at_2, at_3, itemV_ref, itemV_tup, cmp_eq_int, cmp_ne_int, cmp_lt_int, cmp_le_int, cmp_gt_int, cmp_ge_int, bin_add, bin_sub, bi_int_int, call_16, b16, e1, e2, z2, ↓cF1, z0, ↓cF2, e6, hn', e7, lst, cat, tuple_ref c9, tuple_ref b9]
  · rcases List.mem_append.mp ht' with h | h
    · exact ht t h
    · exact h7 t h
end
section
theorem q_number_load : ∀ s, cmpV .eq (.str "number") (.str "load") s = .ok false s := eqs (by decide +kernel) (by decide +kernel) (by decide +kernel)
theorem q_number_pick : ∀ s, cmpV .eq (.str "number") (.str "pick") s = .ok false s := eqs (by decide +kernel) (by decide +kernel) (by decide +kernel)
theorem q_number_guard : ∀ s, cmpV .eq (.str "number") (.str "guard") s = .ok false s := eqs (by decide +kernel) (by decide +kernel) (by decide +kernel)
theorem q_number_apply : ∀ s, cmpV .eq (.str "number") (.str "apply") s = .ok false s := eqs (by decide +kernel) (by decide +kernel) (by decide +kernel)
theorem q_number_put : ∀ s, cmpV .eq (.str "number") (.str "put") s = .ok false s := eqs (by decide +kernel) (by decide +kernel) (by decide +kernel)
theorem q_number_copy : ∀ s, cmpV .eq (.str "number") (.str "copy") s = .ok false s := eqs (by decide +kernel) (by decide +kernel) (by decide +kernel)
theorem q_number_loop : ∀ s, cmpV .eq (.str "number") (.str "loop") s = .ok false s := eqs (by decide +kernel) (by decide +kernel) (by decide +kernel)
theorem q_number_when : ∀ s, cmpV .eq (.str "number") (.str "when") s = .ok false s := eqs (by decide +kernel) (by decide +kernel) (by decide +kernel)
theorem q_index_load : ∀ s, cmpV .eq (.str "index") (.str "load") s = .ok false s := eqs (by decide +kernel) (by decide +kernel) (by decide +kernel)
theorem q_index_pick : ∀ s, cmpV .eq (.str "index") (.str "pick") s = .ok false s := eqs (by decide +kernel) (by decide +kernel) (by decide +kernel)
theorem q_index_guard : ∀ s, cmpV .eq (.str "index") (.str "guard") s = .ok false s := eqs (by decide +kernel) (by decide +kernel) (by decide +kernel)
theorem q_index_apply : ∀ s, cmpV .eq (.str "index") (.str "apply") s = .ok false s := eqs (by decide +kernel) (by decide +kernel) (by decide +kernel)
theorem q_index_put : ∀ s, cmpV .eq (.str "index") (.str "put") s = .ok false s := eqs (by decide +kernel) (by decide +kernel) (by decide +kernel)
theorem q_index_copy : ∀ s, cmpV .eq (.str "index") (.str "copy") s = .ok false s := eqs (by decide +kernel) (by decide +kernel) (by decide +kernel)
theorem q_index_loop : ∀ s, cmpV .eq (.str "index") (.str "loop") s = .ok false s := eqs (by decide +kernel) (by decide +kernel) (by decide +kernel)
theorem q_index_when : ∀ s, cmpV .eq (.str "index") (.str "when") s = .ok false s := eqs (by decide +kernel) (by decide +kernel) (by decide +kernel)
theorem q_load_load : ∀ s, cmpV .eq (.str "load") (.str "load") s = .ok true s := eqs (by decide +kernel) (by decide +kernel) (by decide +kernel)
theorem q_load_pick : ∀ s, cmpV .eq (.str "load") (.str "pick") s = .ok false s := eqs (by decide +kernel) (by decide +kernel) (by decide +kernel)
theorem q_load_guard : ∀ s, cmpV .eq (.str "load") (.str "guard") s = .ok false s := eqs (by decide +kernel) (by decide +kernel) (by decide +kernel)
theorem q_load_apply : ∀ s, cmpV .eq (.str "load") (.str "apply") s = .ok false s := eqs (by decide +kernel) (by decide +kernel) (by decide +kernel)
theorem q_load_put : ∀ s, cmpV .eq (.str "load") (.str "put") s = .ok false s := eqs (by decide +kernel) (by decide +kernel) (by decide +kernel)
theorem q_load_copy : ∀ s, cmpV .eq (.str "load") (.str "copy") s = .ok false s := eqs (by decide +kernel) (by decide +kernel) (by decide +kernel)
theorem q_load_loop : ∀ s, cmpV .eq (.str "load") (.str "loop") s = .ok false s := eqs (by decide +kernel) (by decide +kernel) (by decide +kernel)
theorem q_load_when : ∀ s, cmpV .eq (.str "load") (.str "when") s = .ok false s := eqs (by decide +kernel) (by decide +kernel) (by decide +kernel)
theorem q_pick_load : ∀ s, cmpV .eq (.str "pick") (.str "load") s = .ok false s := eqs (by decide +kernel) (by decide +kernel) (by decide +kernel)
theorem q_pick_pick : ∀ s, cmpV .eq (.str "pick") (.str "pick") s = .ok true s := eqs (by decide +kernel) (by decide +kernel) (by decide +kernel)
theorem q_pick_guard : ∀ s, cmpV .eq (.str "pick") (.str "guard") s = .ok false s := eqs (by decide +kernel) (by decide +kernel) (by decide +kernel)
theorem q_pick_apply : ∀ s, cmpV .eq (.str "pick") (.str "apply") s = .ok false s := eqs (by decide +kernel) (by decide +kernel) (by decide +kernel)
theorem q_pick_put : ∀ s, cmpV .eq (.str "pick") (.str "put") s = .ok false s := eqs (by decide +kernel) (by decide +kernel) (by decide +kernel)
theorem q_pick_copy : ∀ s, cmpV .eq (.str "pick") (.str "copy") s = .ok false s := eqs (by decide +kernel) (by decide +kernel) (by decide +kernel)
theorem q_pick_loop : ∀ s, cmpV .eq (.str "pick") (.str "loop") s = .ok false s := eqs (by decide +kernel) (by decide +kernel) (by decide +kernel)
theorem q_pick_when : ∀ s, cmpV .eq (.str "pick") (.str "when") s = .ok false s := eqs (by decide +kernel) (by decide +kernel) (by decide +kernel)
theorem q_guard_load : ∀ s, cmpV .eq (.str "guard") (.str "load") s = .ok false s := eqs (by decide +kernel) (by decide +kernel) (by decide +kernel)
theorem q_guard_pick : ∀ s, cmpV .eq (.str "guard") (.str "pick") s = .ok false s := eqs (by decide +kernel) (by decide +kernel) (by decide +kernel)
theorem q_guard_guard : ∀ s, cmpV .eq (.str "guard") (.str "guard") s = .ok true s := eqs (by decide +kernel) (by decide +kernel) (by decide +kernel)
theorem q_guard_apply : ∀ s, cmpV .eq (.str "guard") (.str "apply") s = .ok false s := eqs (by decide +kernel) (by decide +kernel) (by decide +kernel)
theorem q_guard_put : ∀ s, cmpV .eq (.str "guard") (.str "put") s = .ok false s := eqs (by decide +kernel) (by decide +kernel) (by decide +kernel)
theorem q_guard_copy : ∀ s, cmpV .eq (.str "guard") (.str "copy") s = .ok false s := eqs (by decide +kernel) (by decide +kernel) (by decide +kernel)
theorem q_guard_loop : ∀ s, cmpV .eq (.str "guard") (.str "loop") s = .ok false s := eqs (by decide +kernel) (by decide +kernel) (by decide +kernel)
theorem q_guard_when : ∀ s, cmpV .eq (.str "guard") (.str "when") s = .ok false s := eqs (by decide +kernel) (by decide +kernel) (by decide +kernel)
theorem q_apply_load : ∀ s, cmpV .eq (.str "apply") (.str "load") s = .ok false s := eqs (by decide +kernel) (by decide +kernel) (by decide +kernel)
theorem q_apply_pick : ∀ s, cmpV .eq (.str "apply") (.str "pick") s = .ok false s := eqs (by decide +kernel) (by decide +kernel) (by decide +kernel)
theorem q_apply_guard : ∀ s, cmpV .eq (.str "apply") (.str "guard") s = .ok false s := eqs (by decide +kernel) (by decide +kernel) (by decide +kernel)
theorem q_apply_apply : ∀ s, cmpV .eq (.str "apply") (.str "apply") s = .ok true s := eqs (by decide +kernel) (by decide +kernel) (by decide +kernel)
theorem q_apply_put : ∀ s, cmpV .eq (.str "apply") (.str "put") s = .ok false s := eqs (by decide +kernel) (by decide +kernel) (by decide +kernel)
theorem q_apply_copy : ∀ s, cmpV .eq (.str "apply") (.str "copy") s = .ok false s := eqs (by decide +kernel) (by decide +kernel) (by decide +kernel)
theorem q_apply_loop : ∀ s, cmpV .eq (.str "apply") (.str "loop") s = .ok false s := eqs (by decide +kernel) (by decide +kernel) (by decide +kernel)
theorem q_apply_when : ∀ s, cmpV .eq (.str "apply") (.str "when") s = .ok false s := eqs (by decide +kernel) (by decide +kernel) (by decide +kernel)
theorem q_put_load : ∀ s, cmpV .eq (.str "put") (.str "load") s = .ok false s := eqs (by decide +kernel) (by decide +kernel) (by decide +kernel)
theorem q_put_pick : ∀ s, cmpV .eq (.str "put") (.str "pick") s = .ok false s := eqs (by decide +kernel) (by decide +kernel) (by decide +kernel)
theorem q_put_guard : ∀ s, cmpV .eq (.str "put") (.str "guard") s = .ok false s := eqs (by decide +kernel) (by decide +kernel) (by decide +kernel)
theorem q_put_apply : ∀ s, cmpV .eq (.str "put") (.str "apply") s = .ok false s := eqs (by decide +kernel) (by decide +kernel) (by decide +kernel)
theorem q_put_put : ∀ s, cmpV .eq (.str "put") (.str "put") s = .ok true s := eqs (by decide +kernel) (by decide +kernel) (by decide +kernel)
theorem q_put_copy : ∀ s, cmpV .eq (.str "put") (.str "copy") s = .ok false s := eqs (by decide +kernel) (by decide +kernel) (by decide +kernel)
theorem q_put_loop : ∀ s, cmpV .eq (.str "put") (.str "loop") s = .ok false s := eqs (by decide +kernel) (by decide +kernel) (by decide +kernel)
theorem q_put_when : ∀ s, cmpV .eq (.str "put") (.str "when") s = .ok false s := eqs (by decide +kernel) (by decide +kernel) (by decide +kernel)
theorem q_copy_load : ∀ s, cmpV .eq (.str "copy") (.str "load") s = .ok false s := eqs (by decide +kernel) (by decide +kernel) (by decide +kernel)
theorem q_copy_pick : ∀ s, cmpV .eq (.str "copy") (.str "pick") s = .ok false s := eqs (by decide +kernel) (by decide +kernel) (by decide +kernel)
theorem q_copy_guard : ∀ s, cmpV .eq (.str "copy") (.str "guard") s = .ok false s := eqs (by decide +kernel) (by decide +kernel) (by decide +kernel)
theorem q_copy_apply : ∀ s, cmpV .eq (.str "copy") (.str "apply") s = .ok false s := eqs (by decide +kernel) (by decide +kernel) (by decide +kernel)
theorem q_copy_put : ∀ s, cmpV .eq (.str "copy") (.str "put") s = .ok false s := eqs (by decide +kernel) (by decide +kernel) (by decide +kernel)
theorem q_copy_copy : ∀ s, cmpV .eq (.str "copy") (.str "copy") s = .ok true s := eqs (by decide +kernel) (by decide +kernel) (by decide +kernel)
theorem q_copy_loop : ∀ s, cmpV .eq (.str "copy") (.str "loop") s = .ok false s := eqs (by decide +kernel) (by decide +kernel) (by decide +kernel)
theorem q_copy_when : ∀ s, cmpV .eq (.str "copy") (.str "when") s = .ok false s := eqs (by decide +kernel) (by decide +kernel) (by decide +kernel)
theorem q_loop_load : ∀ s, cmpV .eq (.str "loop") (.str "load") s = .ok false s := eqs (by decide +kernel) (by decide +kernel) (by decide +kernel)
theorem q_loop_pick : ∀ s, cmpV .eq (.str "loop") (.str "pick") s = .ok false s := eqs (by decide +kernel) (by decide +kernel) (by decide +kernel)
theorem q_loop_guard : ∀ s, cmpV .eq (.str "loop") (.str "guard") s = .ok false s := eqs (by decide +kernel) (by decide +kernel) (by decide +kernel)
theorem q_loop_apply : ∀ s, cmpV .eq (.str "loop") (.str "apply") s = .ok false s := eqs (by decide +kernel) (by decide +kernel) (by decide +kernel)
theorem q_loop_put : ∀ s, cmpV .eq (.str "loop") (.str "put") s = .ok false s := eqs (by decide +kernel) (by decide +kernel) (by decide +kernel)
theorem q_loop_copy : ∀ s, cmpV .eq (.str "loop") (.str "copy") s = .ok false s := eqs (by decide +kernel) (by decide +kernel) (by decide +kernel)
theorem q_loop_loop : ∀ s, cmpV .eq (.str "loop") (.str "loop") s = .ok true s := eqs (by decide +kernel) (by decide +kernel) (by decide +kernel)
theorem q_loop_when : ∀ s, cmpV .eq (.str "loop") (.str "when") s = .ok false s := eqs (by decide +kernel) (by decide +kernel) (by decide +kernel)
theorem q_when_load : ∀ s, cmpV .eq (.str "when") (.str "load") s = .ok false s := eqs (by decide +kernel) (by decide +kernel) (by decide +kernel)
theorem q_when_pick : ∀ s, cmpV .eq (.str "when") (.str "pick") s = .ok false s := eqs (by decide +kernel) (by decide +kernel) (by decide +kernel)
theorem q_when_guard : ∀ s, cmpV .eq (.str "when") (.str "guard") s = .ok false s := eqs (by decide +kernel) (by decide +kernel) (by decide +kernel)
theorem q_when_apply : ∀ s, cmpV .eq (.str "when") (.str "apply") s = .ok false s := eqs (by decide +kernel) (by decide +kernel) (by decide +kernel)
theorem q_when_put : ∀ s, cmpV .eq (.str "when") (.str "put") s = .ok false s := eqs (by decide +kernel) (by decide +kernel) (by decide +kernel)
theorem q_when_copy : ∀ s, cmpV .eq (.str "when") (.str "copy") s = .ok false s := eqs (by decide +kernel) (by decide +kernel) (by decide +kernel)
theorem q_when_loop : ∀ s, cmpV .eq (.str "when") (.str "loop") s = .ok false s := eqs (by decide +kernel) (by decide +kernel) (by decide +kernel)
theorem q_when_when : ∀ s, cmpV .eq (.str "when") (.str "when") s = .ok true s := eqs (by decide +kernel) (by decide +kernel) (by decide +kernel)
theorem in2 {z a b : Str} {c : Bool} (h : ([a, b].any fun y => decide (y = z)) = c) (s : Store) : cmpV .in (.str z) (.tup [.str a, .str b]) s = .ok c s := by
  subst h
  rfl
theorem i_number : ∀ s, cmpV .in (.str "number") (.tup [.str "load", .str "pick"]) s = .ok false s := in2 (by decide +kernel)
theorem i_index : ∀ s, cmpV .in (.str "index") (.tup [.str "load", .str "pick"]) s = .ok false s := in2 (by decide +kernel)
theorem i_load : ∀ s, cmpV .in (.str "load") (.tup [.str "load", .str "pick"]) s = .ok true s := in2 (by decide +kernel)
theorem i_pick : ∀ s, cmpV .in (.str "pick") (.tup [.str "load", .str "pick"]) s = .ok true s := in2 (by decide +kernel)
theorem i_guard : ∀ s, cmpV .in (.str "guard") (.tup [.str "load", .str "pick"]) s = .ok false s := in2 (by decide +kernel)
theorem i_apply : ∀ s, cmpV .in (.str "apply") (.tup [.str "load", .str "pick"]) s = .ok false s := in2 (by decide +kernel)
theorem i_put : ∀ s, cmpV .in (.str "put") (.tup [.str "loop", .str "when"]) s = .ok false s := in2 (by decide +kernel)
theorem i_copy : ∀ s, cmpV .in (.str "copy") (.tup [.str "loop", .str "when"]) s = .ok false s := in2 (by decide +kernel)
theorem i_loop : ∀ s, cmpV .in (.str "loop") (.tup [.str "loop", .str "when"]) s = .ok true s := in2 (by decide +kernel)
theorem i_when : ∀ s, cmpV .in (.str "when") (.tup [.str "loop", .str "when"]) s = .ok true s := in2 (by decide +kernel)
def Ex.uses : Ex → Int → Bool
  | .num _, _ => false
  | .idx _, _ => false
  | .load j _, k => j == k
  | .pick j _ _ _ e, k => j == k || e.uses k
  | .guard _ a b, k => a.uses k || b.uses k
  | .app1 _ a _, k => a.uses k
  | .app2 _ a b _, k => a.uses k || b.uses k
  | .app3 _ a b c _, k => a.uses k || (b.uses k || c.uses k)
def Sn.uses : Sn → Int → Bool
  | .put j _ e, k => j == k || e.uses k
  | .copy a _ b _ _, k => a == k || b == k
  | .loop1 _ _ _ _ s, k => s.uses k
  | .loop2 _ _ _ _ s t, k => s.uses k || t.uses k
  | .when1 _ s, k => s.uses k
  | .when2 _ s t, k => s.uses k || t.uses k
abbrev Kvs := List (L2.Key × DV)
def mark (j : Int) (kvs : Kvs) : Kvs := putD kvs (.inl j) (.bl true)
def Ex.notes : Ex → Kvs → Kvs
  | .num _, m => m
  | .idx _, m => m
  | .load j _, m => mark j m
  | .pick j _ _ _ e, m => e.notes (mark j m)
  | .guard _ a b, m => b.notes (a.notes m)
  | .app1 _ a _, m => a.notes m
  | .app2 _ a b _, m => b.notes (a.notes m)
  | .app3 _ a b c _, m => c.notes (b.notes (a.notes m))
def Sn.notes : Sn → Kvs → Kvs
  | .put j _ e, m => e.notes (mark j m)
  | .copy a _ b _ _, m => mark b (mark a m)
  | .loop1 _ _ _ _ s, m => s.notes m
  | .loop2 _ _ _ _ s t, m => t.notes (s.notes m)
  | .when1 _ s, m => s.notes m
  | .when2 _ s t, m => t.notes (s.notes m)
theorem put_len (m : Kvs) (k : L2.Key) (v : DV) : (putD m k v).length ≤ m.length + 1 := by
  unfold putD
  split
  · rw [List.length_map]; exact Nat.le_succ _
  · rw [List.length_append]; exact Nat.le_refl _
theorem mark_len (j : Int) (m : Kvs) : (mark j m).length ≤ m.length + 1 := put_len m _ _
theorem pow3 (n : Nat) : 1 ≤ 3 ^ n := Nat.one_le_pow _ _ (by decide)
theorem pow3m {a b : Nat} (h : a ≤ b) : 3 ^ a ≤ 3 ^ b := Nat.pow_le_pow_right (by decide) h
theorem Ex.len : ∀ (e : Ex) (m : Kvs), (e.notes m).length ≤ m.length + 3 ^ e.ht
  | .num _, m => Nat.le_add_right _ _
  | .idx _, m => Nat.le_add_right _ _
  | .load j _, m => Nat.le_trans (mark_len j m) (Nat.add_le_add_left (pow3 _) _)
  | .pick j _ _ _ e, m => by
    have h1 := e.len (mark j m)
    have h2 := mark_len j m
    have h3 := pow3 e.ht
    show (e.notes (mark j m)).length ≤ m.length + 3 ^ (e.ht + 1)
    rw [Nat.pow_succ]
    omega
  | .guard _ a b, m => by
    have h1 := b.len (a.notes m)
    have h2 := a.len m
    have h3 := pow3m (Nat.le_max_left a.ht b.ht)
    have h4 := pow3m (Nat.le_max_right a.ht b.ht)
    show (b.notes (a.notes m)).length ≤ m.length + 3 ^ (max a.ht b.ht + 1)
    rw [Nat.pow_succ]
    omega
  | .app1 _ a _, m => by
    have h2 := a.len m
    have h3 := pow3 a.ht
    show (a.notes m).length ≤ m.length + 3 ^ (a.ht + 1)
    rw [Nat.pow_succ]
    omega
  | .app2 _ a b _, m => by
    have h1 := b.len (a.notes m)
    have h2 := a.len m
    have h3 := pow3m (Nat.le_max_left a.ht b.ht)
    have h4 := pow3m (Nat.le_max_right a.ht b.ht)
    show (b.notes (a.notes m)).length ≤ m.length + 3 ^ (max a.ht b.ht + 1)
    rw [Nat.pow_succ]
    omega
  | .app3 _ a b c _, m => by
    have h0 := c.len (b.notes (a.notes m))
    have h1 := b.len (a.notes m)
    have h2 := a.len m
    have h3 := pow3m (show a.ht ≤ max a.ht (max b.ht c.ht) by omega)
    have h4 := pow3m (show b.ht ≤ max a.ht (max b.ht c.ht) by omega)
    have h5 := pow3m (show c.ht ≤ max a.ht (max b.ht c.ht) by omega)
    show (c.notes (b.notes (a.notes m))).length ≤ m.length + 3 ^ (max a.ht (max b.ht c.ht) + 1)
    rw [Nat.pow_succ]
    omega
theorem Sn.len : ∀ (t : Sn) (m : Kvs), (t.notes m).length ≤ m.length + 3 ^ t.ht
  | .put j _ e, m => by
    have h1 := e.len (mark j m)
    have h2 := mark_len j m
    have h3 := pow3 e.ht
    show (e.notes (mark j m)).length ≤ m.length + 3 ^ (e.ht + 1)
    rw [Nat.pow_succ]
    omega
  | .copy a _ b _ _, m => by
    have h1 := mark_len b (mark a m)
    have h2 := mark_len a m
    show (mark b (mark a m)).length ≤ m.length + 27
    omega
  | .loop1 _ _ _ _ s, m => by
    have h2 := s.len m
    have h3 := pow3 s.ht
    show (s.notes m).length ≤ m.length + 3 ^ (s.ht + 1)
    rw [Nat.pow_succ]
    omega
  | .loop2 _ _ _ _ s t, m => by
    have h1 := t.len (s.notes m)
    have h2 := s.len m
    have h3 := pow3m (Nat.le_max_left s.ht t.ht)
    have h4 := pow3m (Nat.le_max_right s.ht t.ht)
    show (t.notes (s.notes m)).length ≤ m.length + 3 ^ (max s.ht t.ht + 1)
    rw [Nat.pow_succ]
    omega
  | .when1 _ s, m => by
    have h2 := s.len m
    have h3 := pow3 s.ht
    show (s.notes m).length ≤ m.length + 3 ^ (s.ht + 1)
    rw [Nat.pow_succ]
    omega
  | .when2 _ s t, m => by
    have h1 := t.len (s.notes m)
    have h2 := s.len m
    have h3 := pow3m (Nat.le_max_left s.ht t.ht)
    have h4 := pow3m (Nat.le_max_right s.ht t.ht)
    show (t.notes (s.notes m)).length ≤ m.length + 3 ^ (max s.ht t.ht + 1)
    rw [Nat.pow_succ]
    omega
variable {k : Nat} {s : Store}
theorem setD_ok {u : Nat} {m : Kvs} {j : Int} {v : DV} (h : s[u]? = some (.dct m)) (hz : m.length ≤ 100000) : setV (.ref u) (.int j) v s = some (s.set u (.dct (putD m (.inl j) v))) := by
  simp only [setV, h, key?]
  rw [if_pos (Nat.lt_of_le_of_lt hz (by decide))]
theorem set2 {u : Nat} {a b : Cell} : (s.set u a).set u b = s.set u b := List.set_set a
end
section
variable {k d : Nat} {s : Store}
theorem set_self {u : Nat} {c : Cell} (h : s[u]? = some c) : s.set u c = s := by
  refine List.ext_getElem? fun n => ?_
  by_cases e : u = n
  · subst e
    rw [get_set h, h]
  · rw [get_set_ne e]
theorem Ex.ht2 : ∀ e : Ex, 2 ≤ e.ht
  | .num _ => Nat.le_refl _
  | .idx _ => Nat.le_refl _
  | .load _ _ => Nat.le_refl _
  | .pick _ _ _ _ e => by have := e.ht2; show 2 ≤ e.ht + 1; omega
  | .guard _ a b => by have := a.ht2; show 2 ≤ max a.ht b.ht + 1; omega
  | .app1 _ a _ => by have := a.ht2; show 2 ≤ a.ht + 1; omega
  | .app2 _ a b _ => by have := a.ht2; show 2 ≤ max a.ht b.ht + 1; omega
  | .app3 _ a b c _ => by have := a.ht2; show 2 ≤ max a.ht (max b.ht c.ht) + 1; omega
theorem Sn.ht2 : ∀ t : Sn, 2 ≤ t.ht
  | .put _ _ e => by have := e.ht2; show 2 ≤ e.ht + 1; omega
  | .copy _ _ _ _ _ => by show 2 ≤ 3; omega
  | .loop1 _ _ _ _ s => by have := s.ht2; show 2 ≤ s.ht + 1; omega
  | .loop2 _ _ _ _ s t => by have := s.ht2; show 2 ≤ max s.ht t.ht + 1; omega
  | .when1 _ s => by have := s.ht2; show 2 ≤ s.ht + 1; omega
  | .when2 _ s t => by have := s.ht2; show 2 ≤ max s.ht t.ht + 1; omega
theorem at_5 {α : Type} {a b c d e f : α} {l : List α} : L2.atI (a :: b :: c :: d :: e :: f :: l) 5 = some f := L2.atI_nat (j := 5) rfl
noncomputable def B2 (K : Nat) : DV → Ip.Loc → Store → Out := fun x r s => (evT (callAt Dt Gt subt K) Gt subt (.name 2) x r s).out r fun r s => evSs (callAt Dt Gt subt K) Gt subt b2l0 r s
theorem turn2 {K u : Nat} {x : List DV} {y : DV} {w : Option DV} {s s' : Store} (h : callAt Dt Gt subt K 2 [.tup x, .ref u] s = .ok .non s') : B2 K (.tup x) [some y, some (.ref u), w] s = .nx [some y, some (.ref u), some (.tup x)] s' := by
  simp -implicitDefEqProofs -dsimp only [↓bind_K, ↓out_K, ↓then_K, ↓optR_K, ↓cond_K, ↓forL_K, ↓lcL_K, ↓whileL_K, ↓catch_K, ↓catchK_nx, ↓catchK_rt, ↓catchK_exc, unset_rt, hush_rt, hush_nx, hush_ct, fin_exc, ↓bindK_ok, ↓outK_ok, ↓bindK_exc, ↓outK_exc, ↓thenK_nx, ↓thenK_rt, ↓thenK_exc, ↓thenK_bk, ↓thenK_ct, ↓optRK_some, ↓quiet_ok, ↓condK_t, ↓condK_f, ↓truth_bl, qE_slot, qE_isx, qE_k, qE_glob, qE_bin, qE_neg, qE_not, qE_and, qE_or, qE_cmp, qE_chain, qE_ife, qE_ix, qE_slc, qE_rev, qE_tup, qE_lst, qE_call, qE_bi, qE_isi, qE_meth, qE_lc, qE_smeth, qE_get2, qE_setd, qE_dnew, qEs_nil, qEs_cons, qAll_nil, qAll_cons, qO_no, qO_some, qI_seq, qI_range1, qI_range2, qI_range3, qI_zip, qI_enum, qI_rev, qT_name, qT_tup, qT_sub, qTs_nil, qTs_cons, qS_asg, qS_par, qS_aug, qS_ife, qS_for, qS_forD, qS_while, qS_ret, qS_retN, qS_drop, qS_pass, qS_brk, qS_cont, qS_raise, qS_try, qS_pick, qSs_nil, qSs_cons, dv_int, dv_bl, dv_str, dv_non, List.getElem?_cons_zero, List.getElem?_cons_succ, List.set_cons_zero, List.set_cons_succ, List.length_cons, List.length_nil, Nat.reduceAdd, Nat.reduceLT, if_true, fin_rt, fin_nx, at_0, at_1, at_2, at_3, itemV_ref, itemV_tup, cmp_eq_int, cmp_ne_int, cmp_lt_int, cmp_le_int, cmp_gt_int, cmp_ge_int, bin_add, bin_sub, bi_int_int, B2, b2l0, h]
/-- the parts, as they are walked -/
theorem note_run {K u : Nat} {tl : List DV} {ps : List DV} {s s' : Store} {r : Ip.Loc} (hp : callAt Dt Gt subt (K + 1) 0 [.tup tl] s = .ok (.tup ps) s) (h : forL .free (B2 (K + 1)) ps [some (.tup tl), some (.ref u), none] s = .nx r s') :
    evS (callAt Dt Gt subt (K + 1)) Gt subt (.for_ (.name 2) (.seq (.call 0 (.cons (.slot 0) (.nil)))) b2l0) [some (.tup tl), some (.ref u), none] s = .nx r s' := evS_for (by
  simp -implicitDefEqProofs -dsimp only [↓bind_K, ↓out_K, ↓then_K, ↓optR_K, ↓cond_K, ↓forL_K, ↓lcL_K, ↓whileL_K, ↓catch_K, ↓catchK_nx, ↓catchK_rt, ↓catchK_exc, unset_rt, hush_rt, hush_nx, hush_ct, fin_exc, ↓bindK_ok, ↓outK_ok, ↓bindK_exc, ↓outK_exc, ↓thenK_nx, ↓thenK_rt, ↓thenK_exc, ↓thenK_bk, ↓thenK_ct, ↓optRK_some, ↓quiet_ok, ↓condK_t, ↓condK_f, ↓truth_bl, qE_slot, qE_isx, qE_k, qE_glob, qE_bin, qE_neg, qE_not, qE_and, qE_or, qE_cmp, qE_chain, qE_ife, qE_ix, qE_slc, qE_rev, qE_tup, qE_lst, qE_call, qE_bi, qE_isi, qE_meth, qE_lc, qE_smeth, qE_get2, qE_setd, qE_dnew, qEs_nil, qEs_cons, qAll_nil, qAll_cons, qO_no, qO_some, qI_seq, qI_range1, qI_range2, qI_range3, qI_zip, qI_enum, qI_rev, qT_name, qT_tup, qT_sub, qTs_nil, qTs_cons, qS_asg, qS_par, qS_aug, qS_ife, qS_for, qS_forD, qS_while, qS_ret, qS_retN, qS_drop, qS_pass, qS_brk, qS_cont, qS_raise, qS_try, qS_pick, qSs_nil, qSs_cons, dv_int, dv_bl, dv_str, dv_non, List.getElem?_cons_zero, List.getElem?_cons_succ, List.set_cons_zero, List.set_cons_succ, List.length_cons, List.length_nil, Nat.reduceAdd, Nat.reduceLT, if_true, fin_rt, fin_nx, at_0, at_1, at_2, at_3, itemV_ref, itemV_tup, cmp_eq_int, cmp_ne_int, cmp_lt_int, cmp_le_int, cmp_gt_int, cmp_ge_int, bin_add, bin_sub, bi_int_int, hp]) h
theorem note_end {K u : Nat} {tl : List DV} {s s1 s' : Store} {r : Ip.Loc} (h0 : evS (callAt Dt Gt subt K) Gt subt (.ife (.cmp .«in» (.ix (.slot 0) (.k (.int 0))) (.tup (.cons (.k (.str "load")) (.cons (.k (.str "pick")) (.nil))))) (.cons (.asg (.sub (.slot 1) (.ix (.slot 0) (.k (.int 1)))) (.k (.bl true))) (.nil)) (.nil)) [some (.tup tl), some (.ref u), none] s = .nx [some (.tup tl), some (.ref u), none] s1)
    (h : evS (callAt Dt Gt subt K) Gt subt (.for_ (.name 2) (.seq (.call 0 (.cons (.slot 0) (.nil)))) b2l0) [some (.tup tl), some (.ref u), none] s1 = .nx r s') : callAt Dt Gt subt (K + 1) 2 [.tup tl, .ref u] s = .ok .non s' := by
  rw [call_2]
  unfold b2
  rw [qSs_cons, h0, then_nx, qSs_cons, h, then_nx, qSs_nil, fin_nx]
theorem note_ok {u : Nat} : ∀ (e : Ex) (K : Nat) (s : Store) (m : Kvs), e.ht ≤ K → s[u]? = some (.dct m) → m.length + 3 ^ e.ht ≤ 90000 → callAt Dt Gt subt K 2 [.tup e.tl, .ref u] s = .ok .non (s.set u (.dct (e.notes m)))
  | .num x, K, s, m, hK, hs, hz => by
    obtain ⟨K, rfl⟩ : ∃ K', K = K' + 2 := ⟨K - 2, by have : 2 ≤ K := hK; omega⟩
    show _ = Res.ok DV.non (s.set u (.dct m))
    have z0 := z_le 0 (by decide)
    have z2 := z_le 2 (by decide)
    rw [set_self hs]
    refine note_end (s1 := s) (by simp -implicitDefEqProofs -dsimp only [↓bind_K, ↓out_K, ↓then_K, ↓optR_K, ↓cond_K, ↓forL_K, ↓lcL_K, ↓whileL_K, ↓catch_K, ↓catchK_nx, ↓catchK_rt, ↓catchK_exc, unset_rt, hush_rt, hush_nx, hush_ct, fin_exc, ↓bindK_ok, ↓outK_ok, ↓bindK_exc, ↓outK_exc, ↓thenK_nx, ↓thenK_rt, ↓thenK_exc, ↓thenK_bk, ↓thenK_ct, ↓optRK_some, ↓quiet_ok, ↓condK_t, ↓condK_f, ↓truth_bl, qE_slot, qE_isx, qE_k, qE_glob, qE_bin, qE_neg, qE_not, qE_and, qE_or, qE_cmp, qE_chain, qE_ife, qE_ix, qE_slc, qE_rev, qE_tup, qE_lst, qE_call, qE_bi, qE_isi, qE_meth, qE_lc, qE_smeth, qE_get2, qE_setd, qE_dnew, qEs_nil, qEs_cons, qAll_nil, qAll_cons, qO_no, qO_some, qI_seq, qI_range1, qI_range2, qI_range3, qI_zip, qI_enum, qI_rev, qT_name, qT_tup, qT_sub, qTs_nil, qTs_cons, qS_asg, qS_par, qS_aug, qS_ife, qS_for, qS_forD, qS_while, qS_ret, qS_retN, qS_drop, qS_pass, qS_brk, qS_cont, qS_raise, qS_try, qS_pick, qSs_nil, qSs_cons, dv_int, dv_bl, dv_str, dv_non, List.getElem?_cons_zero, List.getElem?_cons_succ, List.set_cons_zero, List.set_cons_succ, List.length_cons, List.length_nil, Nat.reduceAdd, Nat.reduceLT, if_true, fin_rt, fin_nx, at_0, at_1, at_2, at_3, itemV_ref, itemV_tup, cmp_eq_int, cmp_ne_int, cmp_lt_int, cmp_le_int, cmp_gt_int, cmp_ge_int, bin_add, bin_sub, bi_int_int, Ex.tl, q_number_load, q_number_pick, q_number_guard, q_number_apply, q_number_put, q_number_copy, q_number_loop, q_number_when, q_index_load, q_index_pick, q_index_guard, q_index_apply, q_index_put, q_index_copy, q_index_loop, q_index_when, q_load_load, q_load_pick, q_load_guard, q_load_apply, q_load_put, q_load_copy, q_load_loop, q_load_when, q_pick_load, q_pick_pick, q_pick_guard, q_pick_apply, q_pick_put, q_pick_copy, q_pick_loop, q_pick_when, q_guard_load, q_guard_pick, q_guard_guard, q_guard_apply, q_guard_put, q_guard_copy, q_guard_loop, q_guard_when, q_apply_load, q_apply_pick, q_apply_guard, q_apply_apply, q_apply_put, q_apply_copy, q_apply_loop, q_apply_when, q_put_load, q_put_pick, q_put_guard, q_put_apply, q_put_put, q_put_copy, q_put_loop, q_put_when, q_copy_load, q_copy_pick, q_copy_guard, q_copy_apply, q_copy_put, q_copy_copy, q_copy_loop, q_copy_when, q_loop_load, q_loop_pick, q_loop_guard, q_loop_apply, q_loop_put, q_loop_copy, q_loop_loop, q_loop_when, q_when_load, q_when_pick, q_when_guard, q_when_apply, q_when_put, q_when_copy, q_when_loop, q_when_when, i_number, i_index, i_load, i_pick, i_guard, i_apply, i_put, i_copy, i_loop, i_when, z2]) (note_run (ps := []) ?_ (forL_nil free_ok))
    simp -implicitDefEqProofs -dsimp only [↓bind_K, ↓out_K, ↓then_K, ↓optR_K, ↓cond_K, ↓forL_K, ↓lcL_K, ↓whileL_K, ↓catch_K, ↓catchK_nx, ↓catchK_rt, ↓catchK_exc, unset_rt, hush_rt, hush_nx, hush_ct, fin_exc, ↓bindK_ok, ↓outK_ok, ↓bindK_exc, ↓outK_exc, ↓thenK_nx, ↓thenK_rt, ↓thenK_exc, ↓thenK_bk, ↓thenK_ct, ↓optRK_some, ↓quiet_ok, ↓condK_t, ↓condK_f, ↓truth_bl, qE_slot, qE_isx, qE_k, qE_glob, qE_bin, qE_neg, qE_not, qE_and, qE_or, qE_cmp, qE_chain, qE_ife, qE_ix, qE_slc, qE_rev, qE_tup, qE_lst, qE_call, qE_bi, qE_isi, qE_meth, qE_lc, qE_smeth, qE_get2, qE_setd, qE_dnew, qEs_nil, qEs_cons, qAll_nil, qAll_cons, qO_no, qO_some, qI_seq, qI_range1, qI_range2, qI_range3, qI_zip, qI_enum, qI_rev, qT_name, qT_tup, qT_sub, qTs_nil, qTs_cons, qS_asg, qS_par, qS_aug, qS_ife, qS_for, qS_forD, qS_while, qS_ret, qS_retN, qS_drop, qS_pass, qS_brk, qS_cont, qS_raise, qS_try, qS_pick, qSs_nil, qSs_cons, dv_int, dv_bl, dv_str, dv_non, List.getElem?_cons_zero, List.getElem?_cons_succ, List.set_cons_zero, List.set_cons_succ, List.length_cons, List.length_nil, Nat.reduceAdd, Nat.reduceLT, if_true, fin_rt, fin_nx, at_0, at_1, at_2, at_3, itemV_ref, itemV_tup, cmp_eq_int, cmp_ne_int, cmp_lt_int, cmp_le_int, cmp_gt_int, cmp_ge_int, bin_add, bin_sub, bi_int_int, Ex.tl, call_0, b0, q_number_load, q_number_pick, q_number_guard, q_number_apply, q_number_put, q_number_copy, q_number_loop, q_number_when, q_index_load, q_index_pick, q_index_guard, q_index_apply, q_index_put, q_index_copy, q_index_loop, q_index_when, q_load_load, q_load_pick, q_load_guard, q_load_apply, q_load_put, q_load_copy, q_load_loop, q_load_when, q_pick_load, q_pick_pick, q_pick_guard, q_pick_apply, q_pick_put, q_pick_copy, q_pick_loop, q_pick_when, q_guard_load, q_guard_pick, q_guard_guard, q_guard_apply, q_guard_put, q_guard_copy, q_guard_loop, q_guard_when, q_apply_load, q_apply_pick, q_apply_guard, q_apply_apply, q_apply_put, q_apply_copy, q_apply_loop, q_apply_when, q_put_load, q_put_pick, q_put_guard, q_put_apply, q_put_put, q_put_copy, q_put_loop, q_put_when, q_copy_load, q_copy_pick, q_copy_guard, q_copy_apply, q_copy_put, q_copy_copy, q_copy_loop, q_copy_when, q_loop_load, q_loop_pick, q_loop_guard, q_loop_apply, q_loop_put, q_loop_copy, q_loop_loop, q_loop_when, q_when_load, q_when_pick, q_when_guard, q_when_apply, q_when_put, q_when_copy, q_when_loop, q_when_when, i_number, i_index, i_load, i_pick, i_guard, i_apply, i_put, i_copy, i_loop, i_when, z0]
  | .idx x, K, s, m, hK, hs, hz => by
    obtain ⟨K, rfl⟩ : ∃ K', K = K' + 2 := ⟨K - 2, by have : 2 ≤ K := hK; omega⟩
    show _ = Res.ok DV.non (s.set u (.dct m))
    have z0 := z_le 0 (by decide)
    have z2 := z_le 2 (by decide)
    rw [set_self hs]
    refine note_end (s1 := s) (by simp -implicitDefEqProofs -dsimp only [↓bind_K, ↓out_K, ↓then_K, ↓optR_K, ↓cond_K, ↓forL_K, ↓lcL_K, ↓whileL_K, ↓catch_K, ↓catchK_nx, ↓catchK_rt, ↓catchK_exc, unset_rt, hush_rt, hush_nx, hush_ct, fin_exc, ↓bindK_ok, ↓outK_ok, ↓bindK_exc, ↓outK_exc, ↓thenK_nx, ↓thenK_rt, ↓thenK_exc, ↓thenK_bk, ↓thenK_ct, ↓optRK_some, ↓quiet_ok, ↓condK_t, ↓condK_f, ↓truth_bl, qE_slot, qE_isx, qE_k, qE_glob, qE_bin, qE_neg, qE_not, qE_and, qE_or, qE_cmp, qE_chain, qE_ife, qE_ix, qE_slc, qE_rev, qE_tup, qE_lst, qE_call, qE_bi, qE_isi, qE_meth, qE_lc, qE_smeth, qE_get2, qE_setd, qE_dnew, qEs_nil, qEs_cons, qAll_nil, qAll_cons, qO_no, qO_some, qI_seq, qI_range1, qI_range2, qI_range3, qI_zip, qI_enum, qI_rev, qT_name, qT_tup, qT_sub, qTs_nil, qTs_cons, qS_asg, qS_par, qS_aug, qS_ife, qS_for, qS_forD, qS_while, qS_ret, qS_retN, qS_drop, qS_pass, qS_brk, qS_cont, qS_raise, qS_try, qS_pick, qSs_nil, qSs_cons, dv_int, dv_bl, dv_str, dv_non, List.getElem?_cons_zero, List.getElem?_cons_succ, List.set_cons_zero, List.set_cons_succ, List.length_cons, List.length_nil, Nat.reduceAdd, Nat.reduceLT, if_true, fin_rt, fin_nx, at_0, at_1, at_2, at_3, itemV_ref, itemV_tup, cmp_eq_int, cmp_ne_int, cmp_lt_int, cmp_le_int, cmp_gt_int, cmp_ge_int, bin_add, bin_sub, bi_int_int, Ex.tl, q_number_load, q_number_pick, q_number_guard, q_number_apply, q_number_put, q_number_copy, q_number_loop, q_number_when, q_index_load, q_index_pick, q_index_guard, q_index_apply, q_index_put, q_index_copy, q_index_loop, q_index_when, q_load_load, q_load_pick, q_load_guard, q_load_apply, q_load_put, q_load_copy, q_load_loop, q_load_when, q_pick_load, q_pick_pick, q_pick_guard, q_pick_apply, q_pick_put, q_pick_copy, q_pick_loop, q_pick_when, q_guard_load, q_guard_pick, q_guard_guard, q_guard_apply, q_guard_put, q_guard_copy, q_guard_loop, q_guard_when, q_apply_load, q_apply_pick, q_apply_guard, q_apply_apply, q_apply_put, q_apply_copy, q_apply_loop, q_apply_when, q_put_load, q_put_pick, q_put_guard, q_put_apply, q_put_put, q_put_copy, q_put_loop, q_put_when, q_copy_load, q_copy_pick, q_copy_guard, q_copy_apply, q_copy_put, q_copy_copy, q_copy_loop, q_copy_when, q_loop_load, q_loop_pick, q_loop_guard, q_loop_apply, q_loop_put, q_loop_copy, q_loop_loop, q_loop_when, q_when_load, q_when_pick, q_when_guard, q_when_apply, q_when_put, q_when_copy, q_when_loop, q_when_when, i_number, i_index, i_load, i_pick, i_guard, i_apply, i_put, i_copy, i_loop, i_when, z2]) (note_run (ps := []) ?_ (forL_nil free_ok))
    simp -implicitDefEqProofs -dsimp only [↓bind_K, ↓out_K, ↓then_K, ↓optR_K, ↓cond_K, ↓forL_K, ↓lcL_K, ↓whileL_K, ↓catch_K, ↓catchK_nx, ↓catchK_rt, ↓catchK_exc, unset_rt, hush_rt, hush_nx, hush_ct, fin_exc, ↓bindK_ok, ↓outK_ok, ↓bindK_exc, ↓outK_exc, ↓thenK_nx, ↓thenK_rt, ↓thenK_exc, ↓thenK_bk, ↓thenK_ct, ↓optRK_some, ↓quiet_ok, ↓condK_t, ↓condK_f, ↓truth_bl, qE_slot, qE_isx, qE_k, qE_glob, qE_bin, qE_neg, qE_not, qE_and, qE_or, qE_cmp, qE_chain, qE_ife, qE_ix, qE_slc, qE_rev, qE_tup, qE_lst, qE_call, qE_bi, qE_isi, qE_meth, qE_lc, qE_smeth, qE_get2, qE_setd, qE_dnew, qEs_nil, qEs_cons, qAll_nil, qAll_cons, qO_no, qO_some, qI_seq, qI_range1, qI_range2, qI_range3, qI_zip, qI_enum, qI_rev, qT_name, qT_tup, qT_sub, qTs_nil, qTs_cons, qS_asg, qS_par, qS_aug, qS_ife, qS_for, qS_forD, qS_while, qS_ret, qS_retN, qS_drop, qS_pass, qS_brk, qS_cont, qS_raise, qS_try, qS_pick, qSs_nil, qSs_cons, dv_int, dv_bl, dv_str, dv_non, List.getElem?_cons_zero, List.getElem?_cons_succ, List.set_cons_zero, List.set_cons_succ, List.length_cons, List.length_nil, Nat.reduceAdd, Nat.reduceLT, if_true, fin_rt, fin_nx, at_0, at_1, at_2, at_3, itemV_ref, itemV_tup, cmp_eq_int, cmp_ne_int, cmp_lt_int, cmp_le_int, cmp_gt_int, cmp_ge_int, bin_add, bin_sub, bi_int_int, Ex.tl, call_0, b0, q_number_load, q_number_pick, q_number_guard, q_number_apply, q_number_put, q_number_copy, q_number_loop, q_number_when, q_index_load, q_index_pick, q_index_guard, q_index_apply, q_index_put, q_index_copy, q_index_loop, q_index_when, q_load_load, q_load_pick, q_load_guard, q_load_apply, q_load_put, q_load_copy, q_load_loop, q_load_when, q_pick_load, q_pick_pick, q_pick_guard, q_pick_apply, q_pick_put, q_pick_copy, q_pick_loop, q_pick_when, q_guard_load, q_guard_pick, q_guard_guard, q_guard_apply, q_guard_put, q_guard_copy, q_guard_loop, q_guard_when, q_apply_load, q_apply_pick, q_apply_guard, q_apply_apply, q_apply_put, q_apply_copy, q_apply_loop, q_apply_when, q_put_load, q_put_pick, q_put_guard, q_put_apply, q_put_put, q_put_copy, q_put_loop, q_put_when, q_copy_load, q_copy_pick, q_copy_guard, q_copy_apply, q_copy_put, q_copy_copy, q_copy_loop, q_copy_when, q_loop_load, q_loop_pick, q_loop_guard, q_loop_apply, q_loop_put, q_loop_copy, q_loop_loop, q_loop_when, q_when_load, q_when_pick, q_when_guard, q_when_apply, q_when_put, q_when_copy, q_when_loop, q_when_when, i_number, i_index, i_load, i_pick, i_guard, i_apply, i_put, i_copy, i_loop, i_when, z0]
  | .load j x, K, s, m, hK, hs, hz => by
    obtain ⟨K, rfl⟩ : ∃ K', K = K' + 2 := ⟨K - 2, by have : 2 ≤ K := hK; omega⟩
    show _ = Res.ok DV.non (s.set u (.dct (mark j m)))
    have z0 := z_le 0 (by decide)
    have z2 := z_le 2 (by decide)
    have hz : m.length ≤ 90000 := Nat.le_trans (Nat.le_add_right _ _) hz
    have sd := setD_ok (j := j) (v := .bl true) hs (by omega)
    refine note_end (s1 := s.set u (.dct (mark j m))) (by simp -implicitDefEqProofs -dsimp only [↓bind_K, ↓out_K, ↓then_K, ↓optR_K, ↓cond_K, ↓forL_K, ↓lcL_K, ↓whileL_K, ↓catch_K, ↓catchK_nx, ↓catchK_rt, ↓catchK_exc, unset_rt, hush_rt, hush_nx, hush_ct, fin_exc, ↓bindK_ok, ↓outK_ok, ↓bindK_exc, ↓outK_exc, ↓thenK_nx, ↓thenK_rt, ↓thenK_exc, ↓thenK_bk, ↓thenK_ct, ↓optRK_some, ↓quiet_ok, ↓condK_t, ↓condK_f, ↓truth_bl, qE_slot, qE_isx, qE_k, qE_glob, qE_bin, qE_neg, qE_not, qE_and, qE_or, qE_cmp, qE_chain, qE_ife, qE_ix, qE_slc, qE_rev, qE_tup, qE_lst, qE_call, qE_bi, qE_isi, qE_meth, qE_lc, qE_smeth, qE_get2, qE_setd, qE_dnew, qEs_nil, qEs_cons, qAll_nil, qAll_cons, qO_no, qO_some, qI_seq, qI_range1, qI_range2, qI_range3, qI_zip, qI_enum, qI_rev, qT_name, qT_tup, qT_sub, qTs_nil, qTs_cons, qS_asg, qS_par, qS_aug, qS_ife, qS_for, qS_forD, qS_while, qS_ret, qS_retN, qS_drop, qS_pass, qS_brk, qS_cont, qS_raise, qS_try, qS_pick, qSs_nil, qSs_cons, dv_int, dv_bl, dv_str, dv_non, List.getElem?_cons_zero, List.getElem?_cons_succ, List.set_cons_zero, List.set_cons_succ, List.length_cons, List.length_nil, Nat.reduceAdd, Nat.reduceLT, if_true, fin_rt, fin_nx, at_0, at_1, at_2, at_3, itemV_ref, itemV_tup, cmp_eq_int, cmp_ne_int, cmp_lt_int, cmp_le_int, cmp_gt_int, cmp_ge_int, bin_add, bin_sub, bi_int_int, Ex.tl, q_number_load, q_number_pick, q_number_guard, q_number_apply, q_number_put, q_number_copy, q_number_loop, q_number_when, q_index_load, q_index_pick, q_index_guard, q_index_apply, q_index_put, q_index_copy, q_index_loop, q_index_when, q_load_load, q_load_pick, q_load_guard, q_load_apply, q_load_put, q_load_copy, q_load_loop, q_load_when, q_pick_load, q_pick_pick, q_pick_guard, q_pick_apply, q_pick_put, q_pick_copy, q_pick_loop, q_pick_when, q_guard_load, q_guard_pick, q_guard_guard, q_guard_apply, q_guard_put, q_guard_copy, q_guard_loop, q_guard_when, q_apply_load, q_apply_pick, q_apply_guard, q_apply_apply, q_apply_put, q_apply_copy, q_apply_loop, q_apply_when, q_put_load, q_put_pick, q_put_guard, q_put_apply, q_put_put, q_put_copy, q_put_loop, q_put_when, q_copy_load, q_copy_pick, q_copy_guard, q_copy_apply, q_copy_put, q_copy_copy, q_copy_loop, q_copy_when, q_loop_load, q_loop_pick, q_loop_guard, q_loop_apply, q_loop_put, q_loop_copy, q_loop_loop, q_loop_when, q_when_load, q_when_pick, q_when_guard, q_when_apply, q_when_put, q_when_copy, q_when_loop, q_when_when, i_number, i_index, i_load, i_pick, i_guard, i_apply, i_put, i_copy, i_loop, i_when, z2, sd, mark]) (note_run (ps := []) ?_ (forL_nil free_ok))
    simp -implicitDefEqProofs -dsimp only [↓bind_K, ↓out_K, ↓then_K, ↓optR_K, ↓cond_K, ↓forL_K, ↓lcL_K, ↓whileL_K, ↓catch_K, ↓catchK_nx, ↓catchK_rt, ↓catchK_exc, unset_rt, hush_rt, hush_nx, hush_ct, fin_exc, ↓bindK_ok, ↓outK_ok, ↓bindK_exc, ↓outK_exc, ↓thenK_nx, ↓thenK_rt, ↓thenK_exc, ↓thenK_bk, ↓thenK_ct, ↓optRK_some, ↓quiet_ok, ↓condK_t, ↓condK_f, ↓truth_bl, qE_slot, qE_isx, qE_k, qE_glob, qE_bin, qE_neg, qE_not, qE_and, qE_or, qE_cmp, qE_chain, qE_ife, qE_ix, qE_slc, qE_rev, qE_tup, qE_lst, qE_call, qE_bi, qE_isi, qE_meth, qE_lc, qE_smeth, qE_get2, qE_setd, qE_dnew, qEs_nil, qEs_cons, qAll_nil, qAll_cons, qO_no, qO_some, qI_seq, qI_range1, qI_range2, qI_range3, qI_zip, qI_enum, qI_rev, qT_name, qT_tup, qT_sub, qTs_nil, qTs_cons, qS_asg, qS_par, qS_aug, qS_ife, qS_for, qS_forD, qS_while, qS_ret, qS_retN, qS_drop, qS_pass, qS_brk, qS_cont, qS_raise, qS_try, qS_pick, qSs_nil, qSs_cons, dv_int, dv_bl, dv_str, dv_non, List.getElem?_cons_zero, List.getElem?_cons_succ, List.set_cons_zero, List.set_cons_succ, List.length_cons, List.length_nil, Nat.reduceAdd, Nat.reduceLT, if_true, fin_rt, fin_nx, at_0, at_1, at_2, at_3, itemV_ref, itemV_tup, cmp_eq_int, cmp_ne_int, cmp_lt_int, cmp_le_int, cmp_gt_int, cmp_ge_int, bin_add, bin_sub, bi_int_int, Ex.tl, call_0, b0, q_number_load, q_number_pick, q_number_guard, q_number_apply, q_number_put, q_number_copy, q_number_loop, q_number_when, q_index_load, q_index_pick, q_index_guard, q_index_apply, q_index_put, q_index_copy, q_index_loop, q_index_when, q_load_load, q_load_pick, q_load_guard, q_load_apply, q_load_put, q_load_copy, q_load_loop, q_load_when, q_pick_load, q_pick_pick, q_pick_guard, q_pick_apply, q_pick_put, q_pick_copy, q_pick_loop, q_pick_when, q_guard_load, q_guard_pick, q_guard_guard, q_guard_apply, q_guard_put, q_guard_copy, q_guard_loop, q_guard_when, q_apply_load, q_apply_pick, q_apply_guard, q_apply_apply, q_apply_put, q_apply_copy, q_apply_loop, q_apply_when, q_put_load, q_put_pick, q_put_guard, q_put_apply, q_put_put, q_put_copy, q_put_loop, q_put_when, q_copy_load, q_copy_pick, q_copy_guard, q_copy_apply, q_copy_put, q_copy_copy, q_copy_loop, q_copy_when, q_loop_load, q_loop_pick, q_loop_guard, q_loop_apply, q_loop_put, q_loop_copy, q_loop_loop, q_loop_when, q_when_load, q_when_pick, q_when_guard, q_when_apply, q_when_put, q_when_copy, q_when_loop, q_when_when, i_number, i_index, i_load, i_pick, i_guard, i_apply, i_put, i_copy, i_loop, i_when, z0]
  | .pick j x y z e, K, s, m, hK, hs, hz => by
    have h2 := e.ht2
    have hK : e.ht + 1 ≤ K := hK
    obtain ⟨K, rfl⟩ : ∃ K', K = K' + 2 := ⟨K - 2, by omega⟩
    show _ = Res.ok DV.non (s.set u (.dct (e.notes (mark j m))))
    have z1 := z_le 1 (by decide)
    have z2 := z_le 2 (by decide)
    have hz : m.length + 3 ^ (e.ht + 1) ≤ 90000 := hz
    rw [Nat.pow_succ] at hz
    have p1 := pow3 e.ht
    have ml := mark_len j m
    have sd := setD_ok (j := j) (v := .bl true) hs (by omega)
    have ih := note_ok (u := u) e (K + 1) (s.set u (.dct (mark j m))) (mark j m) (by omega) (get_set hs) (by omega)
    rw [set2] at ih
    refine note_end (s1 := s.set u (.dct (mark j m))) (by simp -implicitDefEqProofs -dsimp only [↓bind_K, ↓out_K, ↓then_K, ↓optR_K, ↓cond_K, ↓forL_K, ↓lcL_K, ↓whileL_K, ↓catch_K, ↓catchK_nx, ↓catchK_rt, ↓catchK_exc, unset_rt, hush_rt, hush_nx, hush_ct, fin_exc, ↓bindK_ok, ↓outK_ok, ↓bindK_exc, ↓outK_exc, ↓thenK_nx, ↓thenK_rt, ↓thenK_exc, ↓thenK_bk, ↓thenK_ct, ↓optRK_some, ↓quiet_ok, ↓condK_t, ↓condK_f, ↓truth_bl, qE_slot, qE_isx, qE_k, qE_glob, qE_bin, qE_neg, qE_not, qE_and, qE_or, qE_cmp, qE_chain, qE_ife, qE_ix, qE_slc, qE_rev, qE_tup, qE_lst, qE_call, qE_bi, qE_isi, qE_meth, qE_lc, qE_smeth, qE_get2, qE_setd, qE_dnew, qEs_nil, qEs_cons, qAll_nil, qAll_cons, qO_no, qO_some, qI_seq, qI_range1, qI_range2, qI_range3, qI_zip, qI_enum, qI_rev, qT_name, qT_tup, qT_sub, qTs_nil, qTs_cons, qS_asg, qS_par, qS_aug, qS_ife, qS_for, qS_forD, qS_while, qS_ret, qS_retN, qS_drop, qS_pass, qS_brk, qS_cont, qS_raise, qS_try, qS_pick, qSs_nil, qSs_cons, dv_int, dv_bl, dv_str, dv_non, List.getElem?_cons_zero, List.getElem?_cons_succ, List.set_cons_zero, List.set_cons_succ, List.length_cons, List.length_nil, Nat.reduceAdd, Nat.reduceLT, if_true, fin_rt, fin_nx, at_0, at_1, at_2, at_3, itemV_ref, itemV_tup, cmp_eq_int, cmp_ne_int, cmp_lt_int, cmp_le_int, cmp_gt_int, cmp_ge_int, bin_add, bin_sub, bi_int_int, Ex.tl, q_number_load, q_number_pick, q_number_guard, q_number_apply, q_number_put, q_number_copy, q_number_loop, q_number_when, q_index_load, q_index_pick, q_index_guard, q_index_apply, q_index_put, q_index_copy, q_index_loop, q_index_when, q_load_load, q_load_pick, q_load_guard, q_load_apply, q_load_put, q_load_copy, q_load_loop, q_load_when, q_pick_load, q_pick_pick, q_pick_guard, q_pick_apply, q_pick_put, q_pick_copy, q_pick_loop, q_pick_when, q_guard_load, q_guard_pick, q_guard_guard, q_guard_apply, q_guard_put, q_guard_copy, q_guard_loop, q_guard_when, q_apply_load, q_apply_pick, q_apply_guard, q_apply_apply, q_apply_put, q_apply_copy, q_apply_loop, q_apply_when, q_put_load, q_put_pick, q_put_guard, q_put_apply, q_put_put, q_put_copy, q_put_loop, q_put_when, q_copy_load, q_copy_pick, q_copy_guard, q_copy_apply, q_copy_put, q_copy_copy, q_copy_loop, q_copy_when, q_loop_load, q_loop_pick, q_loop_guard, q_loop_apply, q_loop_put, q_loop_copy, q_loop_loop, q_loop_when, q_when_load, q_when_pick, q_when_guard, q_when_apply, q_when_put, q_when_copy, q_when_loop, q_when_when, i_number, i_index, i_load, i_pick, i_guard, i_apply, i_put, i_copy, i_loop, i_when, z2, sd, mark]) (note_run (ps := [.tup e.tl]) ?_ ((forL_nx free_ok (turn2 ih)).trans (forL_nil free_ok)))
    simp -implicitDefEqProofs -dsimp only [↓bind_K, ↓out_K, ↓then_K, ↓optR_K, ↓cond_K, ↓forL_K, ↓lcL_K, ↓whileL_K, ↓catch_K, ↓catchK_nx, ↓catchK_rt, ↓catchK_exc, unset_rt, hush_rt, hush_nx, hush_ct, fin_exc, ↓bindK_ok, ↓outK_ok, ↓bindK_exc, ↓outK_exc, ↓thenK_nx, ↓thenK_rt, ↓thenK_exc, ↓thenK_bk, ↓thenK_ct, ↓optRK_some, ↓quiet_ok, ↓condK_t, ↓condK_f, ↓truth_bl, qE_slot, qE_isx, qE_k, qE_glob, qE_bin, qE_neg, qE_not, qE_and, qE_or, qE_cmp, qE_chain, qE_ife, qE_ix, qE_slc, qE_rev, qE_tup, qE_lst, qE_call, qE_bi, qE_isi, qE_meth, qE_lc, qE_smeth, qE_get2, qE_setd, qE_dnew, qEs_nil, qEs_cons, qAll_nil, qAll_cons, qO_no, qO_some, qI_seq, qI_range1, qI_range2, qI_range3, qI_zip, qI_enum, qI_rev, qT_name, qT_tup, qT_sub, qTs_nil, qTs_cons, qS_asg, qS_par, qS_aug, qS_ife, qS_for, qS_forD, qS_while, qS_ret, qS_retN, qS_drop, qS_pass, qS_brk, qS_cont, qS_raise, qS_try, qS_pick, qSs_nil, qSs_cons, dv_int, dv_bl, dv_str, dv_non, List.getElem?_cons_zero, List.getElem?_cons_succ, List.set_cons_zero, List.set_cons_succ, List.length_cons, List.length_nil, Nat.reduceAdd, Nat.reduceLT, if_true, fin_rt, fin_nx, at_0, at_1, at_2, at_3, itemV_ref, itemV_tup, cmp_eq_int, cmp_ne_int, cmp_lt_int, cmp_le_int, cmp_gt_int, cmp_ge_int, bin_add, bin_sub, bi_int_int, Ex.tl, call_0, b0, q_number_load, q_number_pick, q_number_guard, q_number_apply, q_number_put, q_number_copy, q_number_loop, q_number_when, q_index_load, q_index_pick, q_index_guard, q_index_apply, q_index_put, q_index_copy, q_index_loop, q_index_when, q_load_load, q_load_pick, q_load_guard, q_load_apply, q_load_put, q_load_copy, q_load_loop, q_load_when, q_pick_load, q_pick_pick, q_pick_guard, q_pick_apply, q_pick_put, q_pick_copy, q_pick_loop, q_pick_when, q_guard_load, q_guard_pick, q_guard_guard, q_guard_apply, q_guard_put, q_guard_copy, q_guard_loop, q_guard_when, q_apply_load, q_apply_pick, q_apply_guard, q_apply_apply, q_apply_put, q_apply_copy, q_apply_loop, q_apply_when, q_put_load, q_put_pick, q_put_guard, q_put_apply, q_put_put, q_put_copy, q_put_loop, q_put_when, q_copy_load, q_copy_pick, q_copy_guard, q_copy_apply, q_copy_put, q_copy_copy, q_copy_loop, q_copy_when, q_loop_load, q_loop_pick, q_loop_guard, q_loop_apply, q_loop_put, q_loop_copy, q_loop_loop, q_loop_when, q_when_load, q_when_pick, q_when_guard, q_when_apply, q_when_put, q_when_copy, q_when_loop, q_when_when, i_number, i_index, i_load, i_pick, i_guard, i_apply, i_put, i_copy, i_loop, i_when, z1, at_5]
  | .guard x a b, K, s, m, hK, hs, hz => by
    have h2 := a.ht2
    have hK : max a.ht b.ht + 1 ≤ K := hK
    obtain ⟨K, rfl⟩ : ∃ K', K = K' + 2 := ⟨K - 2, by omega⟩
    show _ = Res.ok DV.non (s.set u (.dct (b.notes (a.notes m))))
    have z2 := z_le 2 (by decide)
    have hz : m.length + 3 ^ (max a.ht b.ht + 1) ≤ 90000 := hz
    rw [Nat.pow_succ] at hz
    have p1 := pow3m (Nat.le_max_left a.ht b.ht)
    have p2 := pow3m (Nat.le_max_right a.ht b.ht)
    have ml := a.len m
    have i1 := note_ok (u := u) a (K + 1) s m (by omega) hs (by omega)
    have i2 := note_ok (u := u) b (K + 1) (s.set u (.dct (a.notes m))) (a.notes m) (by omega) (get_set hs) (by omega)
    rw [set2] at i2
    refine note_end (s1 := s) (by simp -implicitDefEqProofs -dsimp only [↓bind_K, ↓out_K, ↓then_K, ↓optR_K, ↓cond_K, ↓forL_K, ↓lcL_K, ↓whileL_K, ↓catch_K, ↓catchK_nx, ↓catchK_rt, ↓catchK_exc, unset_rt, hush_rt, hush_nx, hush_ct, fin_exc, ↓bindK_ok, ↓outK_ok, ↓bindK_exc, ↓outK_exc, ↓thenK_nx, ↓thenK_rt, ↓thenK_exc, ↓thenK_bk, ↓thenK_ct, ↓optRK_some, ↓quiet_ok, ↓condK_t, ↓condK_f, ↓truth_bl, qE_slot, qE_isx, qE_k, qE_glob, qE_bin, qE_neg, qE_not, qE_and, qE_or, qE_cmp, qE_chain, qE_ife, qE_ix, qE_slc, qE_rev, qE_tup, qE_lst, qE_call, qE_bi, qE_isi, qE_meth, qE_lc, qE_smeth, qE_get2, qE_setd, qE_dnew, qEs_nil, qEs_cons, qAll_nil, qAll_cons, qO_no, qO_some, qI_seq, qI_range1, qI_range2, qI_range3, qI_zip, qI_enum, qI_rev, qT_name, qT_tup, qT_sub, qTs_nil, qTs_cons, qS_asg, qS_par, qS_aug, qS_ife, qS_for, qS_forD, qS_while, qS_ret, qS_retN, qS_drop, qS_pass, qS_brk, qS_cont, qS_raise, qS_try, qS_pick, qSs_nil, qSs_cons, dv_int, dv_bl, dv_str, dv_non, List.getElem?_cons_zero, List.getElem?_cons_succ, List.set_cons_zero, List.set_cons_succ, List.length_cons, List.length_nil, Nat.reduceAdd, Nat.reduceLT, if_true, fin_rt, fin_nx, at_0, at_1, at_2, at_3, itemV_ref, itemV_tup, cmp_eq_int, cmp_ne_int, cmp_lt_int, cmp_le_int, cmp_gt_int, cmp_ge_int, bin_add, bin_sub, bi_int_int, Ex.tl, q_number_load, q_number_pick, q_number_guard, q_number_apply, q_number_put, q_number_copy, q_number_loop, q_number_when, q_index_load, q_index_pick, q_index_guard, q_index_apply, q_index_put, q_index_copy, q_index_loop, q_index_when, q_load_load, q_load_pick, q_load_guard, q_load_apply, q_load_put, q_load_copy, q_load_loop, q_load_when, q_pick_load, q_pick_pick, q_pick_guard, q_pick_apply, q_pick_put, q_pick_copy, q_pick_loop, q_pick_when, q_guard_load, q_guard_pick, q_guard_guard, q_guard_apply, q_guard_put, q_guard_copy, q_guard_loop, q_guard_when, q_apply_load, q_apply_pick, q_apply_guard, q_apply_apply, q_apply_put, q_apply_copy, q_apply_loop, q_apply_when, q_put_load, q_put_pick, q_put_guard, q_put_apply, q_put_put, q_put_copy, q_put_loop, q_put_when, q_copy_load, q_copy_pick, q_copy_guard, q_copy_apply, q_copy_put, q_copy_copy, q_copy_loop, q_copy_when, q_loop_load, q_loop_pick, q_loop_guard, q_loop_apply, q_loop_put, q_loop_copy, q_loop_loop, q_loop_when, q_when_load, q_when_pick, q_when_guard, q_when_apply, q_when_put, q_when_copy, q_when_loop, q_when_when, i_number, i_index, i_load, i_pick, i_guard, i_apply, i_put, i_copy, i_loop, i_when, z2]) (note_run (ps := [.tup a.tl, .tup b.tl]) ?_ ((forL_nx free_ok (turn2 i1)).trans ((forL_nx free_ok (turn2 i2)).trans (forL_nil free_ok))))
    simp -implicitDefEqProofs -dsimp only [↓bind_K, ↓out_K, ↓then_K, ↓optR_K, ↓cond_K, ↓forL_K, ↓lcL_K, ↓whileL_K, ↓catch_K, ↓catchK_nx, ↓catchK_rt, ↓catchK_exc, unset_rt, hush_rt, hush_nx, hush_ct, fin_exc, ↓bindK_ok, ↓outK_ok, ↓bindK_exc, ↓outK_exc, ↓thenK_nx, ↓thenK_rt, ↓thenK_exc, ↓thenK_bk, ↓thenK_ct, ↓optRK_some, ↓quiet_ok, ↓condK_t, ↓condK_f, ↓truth_bl, qE_slot, qE_isx, qE_k, qE_glob, qE_bin, qE_neg, qE_not, qE_and, qE_or, qE_cmp, qE_chain, qE_ife, qE_ix, qE_slc, qE_rev, qE_tup, qE_lst, qE_call, qE_bi, qE_isi, qE_meth, qE_lc, qE_smeth, qE_get2, qE_setd, qE_dnew, qEs_nil, qEs_cons, qAll_nil, qAll_cons, qO_no, qO_some, qI_seq, qI_range1, qI_range2, qI_range3, qI_zip, qI_enum, qI_rev, qT_name, qT_tup, qT_sub, qTs_nil, qTs_cons, qS_asg, qS_par, qS_aug, qS_ife, qS_for, qS_forD, qS_while, qS_ret, qS_retN, qS_drop, qS_pass, qS_brk, qS_cont, qS_raise, qS_try, qS_pick, qSs_nil, qSs_cons, dv_int, dv_bl, dv_str, dv_non, List.getElem?_cons_zero, List.getElem?_cons_succ, List.set_cons_zero, List.set_cons_succ, List.length_cons, List.length_nil, Nat.reduceAdd, Nat.reduceLT, if_true, fin_rt, fin_nx, at_0, at_1, at_2, at_3, itemV_ref, itemV_tup, cmp_eq_int, cmp_ne_int, cmp_lt_int, cmp_le_int, cmp_gt_int, cmp_ge_int, bin_add, bin_sub, bi_int_int, Ex.tl, call_0, b0, q_number_load, q_number_pick, q_number_guard, q_number_apply, q_number_put, q_number_copy, q_number_loop, q_number_when, q_index_load, q_index_pick, q_index_guard, q_index_apply, q_index_put, q_index_copy, q_index_loop, q_index_when, q_load_load, q_load_pick, q_load_guard, q_load_apply, q_load_put, q_load_copy, q_load_loop, q_load_when, q_pick_load, q_pick_pick, q_pick_guard, q_pick_apply, q_pick_put, q_pick_copy, q_pick_loop, q_pick_when, q_guard_load, q_guard_pick, q_guard_guard, q_guard_apply, q_guard_put, q_guard_copy, q_guard_loop, q_guard_when, q_apply_load, q_apply_pick, q_apply_guard, q_apply_apply, q_apply_put, q_apply_copy, q_apply_loop, q_apply_when, q_put_load, q_put_pick, q_put_guard, q_put_apply, q_put_put, q_put_copy, q_put_loop, q_put_when, q_copy_load, q_copy_pick, q_copy_guard, q_copy_apply, q_copy_put, q_copy_copy, q_copy_loop, q_copy_when, q_loop_load, q_loop_pick, q_loop_guard, q_loop_apply, q_loop_put, q_loop_copy, q_loop_loop, q_loop_when, q_when_load, q_when_pick, q_when_guard, q_when_apply, q_when_put, q_when_copy, q_when_loop, q_when_when, i_number, i_index, i_load, i_pick, i_guard, i_apply, i_put, i_copy, i_loop, i_when, z2]
  | .app1 zz a x, K, s, m, hK, hs, hz => by
    have h2 := a.ht2
    have hK : a.ht + 1 ≤ K := hK
    obtain ⟨K, rfl⟩ : ∃ K', K = K' + 2 := ⟨K - 2, by omega⟩
    show _ = Res.ok DV.non (s.set u (.dct (a.notes m)))
    have z2 := z_le 2 (by decide)
    have hz : m.length + 3 ^ (a.ht + 1) ≤ 90000 := hz
    rw [Nat.pow_succ] at hz
    have p1 := pow3 a.ht
    have i1 := note_ok (u := u) a (K + 1) s m (by omega) hs (by omega)
    refine note_end (s1 := s) (by simp -implicitDefEqProofs -dsimp only [↓bind_K, ↓out_K, ↓then_K, ↓optR_K, ↓cond_K, ↓forL_K, ↓lcL_K, ↓whileL_K, ↓catch_K, ↓catchK_nx, ↓catchK_rt, ↓catchK_exc, unset_rt, hush_rt, hush_nx, hush_ct, fin_exc, ↓bindK_ok, ↓outK_ok, ↓bindK_exc, ↓outK_exc, ↓thenK_nx, ↓thenK_rt, ↓thenK_exc, ↓thenK_bk, ↓thenK_ct, ↓optRK_some, ↓quiet_ok, ↓condK_t, ↓condK_f, ↓truth_bl, qE_slot, qE_isx, qE_k, qE_glob, qE_bin, qE_neg, qE_not, qE_and, qE_or, qE_cmp, qE_chain, qE_ife, qE_ix, qE_slc, qE_rev, qE_tup, qE_lst, qE_call, qE_bi, qE_isi, qE_meth, qE_lc, qE_smeth, qE_get2, qE_setd, qE_dnew, qEs_nil, qEs_cons, qAll_nil, qAll_cons, qO_no, qO_some, qI_seq, qI_range1, qI_range2, qI_range3, qI_zip, qI_enum, qI_rev, qT_name, qT_tup, qT_sub, qTs_nil, qTs_cons, qS_asg, qS_par, qS_aug, qS_ife, qS_for, qS_forD, qS_while, qS_ret, qS_retN, qS_drop, qS_pass, qS_brk, qS_cont, qS_raise, qS_try, qS_pick, qSs_nil, qSs_cons, dv_int, dv_bl, dv_str, dv_non, List.getElem?_cons_zero, List.getElem?_cons_succ, List.set_cons_zero, List.set_cons_succ, List.length_cons, List.length_nil, Nat.reduceAdd, Nat.reduceLT, if_true, fin_rt, fin_nx, at_0, at_1, at_2, at_3, itemV_ref, itemV_tup, cmp_eq_int, cmp_ne_int, cmp_lt_int, cmp_le_int, cmp_gt_int, cmp_ge_int, bin_add, bin_sub, bi_int_int, Ex.tl, q_number_load, q_number_pick, q_number_guard, q_number_apply, q_number_put, q_number_copy, q_number_loop, q_number_when, q_index_load, q_index_pick, q_index_guard, q_index_apply, q_index_put, q_index_copy, q_index_loop, q_index_when, q_load_load, q_load_pick, q_load_guard, q_load_apply, q_load_put, q_load_copy, q_load_loop, q_load_when, q_pick_load, q_pick_pick, q_pick_guard, q_pick_apply, q_pick_put, q_pick_copy, q_pick_loop, q_pick_when, q_guard_load, q_guard_pick, q_guard_guard, q_guard_apply, q_guard_put, q_guard_copy, q_guard_loop, q_guard_when, q_apply_load, q_apply_pick, q_apply_guard, q_apply_apply, q_apply_put, q_apply_copy, q_apply_loop, q_apply_when, q_put_load, q_put_pick, q_put_guard, q_put_apply, q_put_put, q_put_copy, q_put_loop, q_put_when, q_copy_load, q_copy_pick, q_copy_guard, q_copy_apply, q_copy_put, q_copy_copy, q_copy_loop, q_copy_when, q_loop_load, q_loop_pick, q_loop_guard, q_loop_apply, q_loop_put, q_loop_copy, q_loop_loop, q_loop_when, q_when_load, q_when_pick, q_when_guard, q_when_apply, q_when_put, q_when_copy, q_when_loop, q_when_when, i_number, i_index, i_load, i_pick, i_guard, i_apply, i_put, i_copy, i_loop, i_when, z2]) (note_run (ps := [.tup a.tl]) ?_ ((forL_nx free_ok (turn2 i1)).trans (forL_nil free_ok)))
    simp -implicitDefEqProofs -dsimp only [↓bind_K, ↓out_K, ↓then_K, ↓optR_K, ↓cond_K, ↓forL_K, ↓lcL_K, ↓whileL_K, ↓catch_K, ↓catchK_nx, ↓catchK_rt, ↓catchK_exc, unset_rt, hush_rt, hush_nx, hush_ct, fin_exc, ↓bindK_ok, ↓outK_ok, ↓bindK_exc, ↓outK_exc, ↓thenK_nx, ↓thenK_rt, ↓thenK_exc, ↓thenK_bk, ↓thenK_ct, ↓optRK_some, ↓quiet_ok, ↓condK_t, ↓condK_f, ↓truth_bl, qE_slot, qE_isx, qE_k, qE_glob, qE_bin, qE_neg, qE_not, qE_and, qE_or, qE_cmp, qE_chain, qE_ife, qE_ix, qE_slc, qE_rev, qE_tup, qE_lst, qE_call, qE_bi, qE_isi, qE_meth, qE_lc, qE_smeth, qE_get2, qE_setd, qE_dnew, qEs_nil, qEs_cons, qAll_nil, qAll_cons, qO_no, qO_some, qI_seq, qI_range1, qI_range2, qI_range3, qI_zip, qI_enum, qI_rev, qT_name, qT_tup, qT_sub, qTs_nil, qTs_cons, qS_asg, qS_par, qS_aug, qS_ife, qS_for, qS_forD, qS_while, qS_ret, qS_retN, qS_drop, qS_pass, qS_brk, qS_cont, qS_raise, qS_try, qS_pick, qSs_nil, qSs_cons, dv_int, dv_bl, dv_str, dv_non, List.getElem?_cons_zero, List.getElem?_cons_succ, List.set_cons_zero, List.set_cons_succ, List.length_cons, List.length_nil, Nat.reduceAdd, Nat.reduceLT, if_true, fin_rt, fin_nx, at_0, at_1, at_2, at_3, itemV_ref, itemV_tup, cmp_eq_int, cmp_ne_int, cmp_lt_int, cmp_le_int, cmp_gt_int, cmp_ge_int, bin_add, bin_sub, bi_int_int, Ex.tl, call_0, b0, q_number_load, q_number_pick, q_number_guard, q_number_apply, q_number_put, q_number_copy, q_number_loop, q_number_when, q_index_load, q_index_pick, q_index_guard, q_index_apply, q_index_put, q_index_copy, q_index_loop, q_index_when, q_load_load, q_load_pick, q_load_guard, q_load_apply, q_load_put, q_load_copy, q_load_loop, q_load_when, q_pick_load, q_pick_pick, q_pick_guard, q_pick_apply, q_pick_put, q_pick_copy, q_pick_loop, q_pick_when, q_guard_load, q_guard_pick, q_guard_guard, q_guard_apply, q_guard_put, q_guard_copy, q_guard_loop, q_guard_when, q_apply_load, q_apply_pick, q_apply_guard, q_apply_apply, q_apply_put, q_apply_copy, q_apply_loop, q_apply_when, q_put_load, q_put_pick, q_put_guard, q_put_apply, q_put_put, q_put_copy, q_put_loop, q_put_when, q_copy_load, q_copy_pick, q_copy_guard, q_copy_apply, q_copy_put, q_copy_copy, q_copy_loop, q_copy_when, q_loop_load, q_loop_pick, q_loop_guard, q_loop_apply, q_loop_put, q_loop_copy, q_loop_loop, q_loop_when, q_when_load, q_when_pick, q_when_guard, q_when_apply, q_when_put, q_when_copy, q_when_loop, q_when_when, i_number, i_index, i_load, i_pick, i_guard, i_apply, i_put, i_copy, i_loop, i_when]
  | .app2 zz a b x, K, s, m, hK, hs, hz => by
    have h2 := a.ht2
    have hK : max a.ht b.ht + 1 ≤ K := hK
    obtain ⟨K, rfl⟩ : ∃ K', K = K' + 2 := ⟨K - 2, by omega⟩
    show _ = Res.ok DV.non (s.set u (.dct (b.notes (a.notes m))))
    have z2 := z_le 2 (by decide)
    have hz : m.length + 3 ^ (max a.ht b.ht + 1) ≤ 90000 := hz
    rw [Nat.pow_succ] at hz
    have p1 := pow3m (Nat.le_max_left a.ht b.ht)
    have p2 := pow3m (Nat.le_max_right a.ht b.ht)
    have ml := a.len m
    have i1 := note_ok (u := u) a (K + 1) s m (by omega) hs (by omega)
    have i2 := note_ok (u := u) b (K + 1) (s.set u (.dct (a.notes m))) (a.notes m) (by omega) (get_set hs) (by omega)
    rw [set2] at i2
    refine note_end (s1 := s) (by simp -implicitDefEqProofs -dsimp only [↓bind_K, ↓out_K, ↓then_K, ↓optR_K, ↓cond_K, ↓forL_K, ↓lcL_K, ↓whileL_K, ↓catch_K, ↓catchK_nx, ↓catchK_rt, ↓catchK_exc, unset_rt, hush_rt, hush_nx, hush_ct, fin_exc, ↓bindK_ok, ↓outK_ok, ↓bindK_exc, ↓outK_exc, ↓thenK_nx, ↓thenK_rt, ↓thenK_exc, ↓thenK_bk, ↓thenK_ct, ↓optRK_some, ↓quiet_ok, ↓condK_t, ↓condK_f, ↓truth_bl, qE_slot, qE_isx, qE_k, qE_glob, qE_bin, qE_neg, qE_not, qE_and, qE_or, qE_cmp, qE_chain, qE_ife, qE_ix, qE_slc, qE_rev, qE_tup, qE_lst, qE_call, qE_bi, qE_isi, qE_meth, qE_lc, qE_smeth, qE_get2, qE_setd, qE_dnew, qEs_nil, qEs_cons, qAll_nil, qAll_cons, qO_no, qO_some, qI_seq, qI_range1, qI_range2, qI_range3, qI_zip, qI_enum, qI_rev, qT_name, qT_tup, qT_sub, qTs_nil, qTs_cons, qS_asg, qS_par, qS_aug, qS_ife, qS_for, qS_forD, qS_while, qS_ret, qS_retN, qS_drop, qS_pass, qS_brk, qS_cont, qS_raise, qS_try, qS_pick, qSs_nil, qSs_cons, dv_int, dv_bl, dv_str, dv_non, List.getElem?_cons_zero, List.getElem?_cons_succ, List.set_cons_zero, List.set_cons_succ, List.length_cons, List.length_nil, Nat.reduceAdd, Nat.reduceLT, if_true, fin_rt, fin_nx, at_0, at_1, at_2, at_3, itemV_ref, itemV_tup, cmp_eq_int, cmp_ne_int, cmp_lt_int, cmp_le_int, cmp_gt_int, cmp_ge_int, bin_add, bin_sub, bi_int_int, Ex.tl, q_number_load, q_number_pick, q_number_guard, q_number_apply, q_number_put, q_number_copy, q_number_loop, q_number_when, q_index_load, q_index_pick, q_index_guard, q_index_apply, q_index_put, q_index_copy, q_index_loop, q_index_when, q_load_load, q_load_pick, q_load_guard, q_load_apply, q_load_put, q_load_copy, q_load_loop, q_load_when, q_pick_load, q_pick_pick, q_pick_guard, q_pick_apply, q_pick_put, q_pick_copy, q_pick_loop, q_pick_when, q_guard_load, q_guard_pick, q_guard_guard, q_guard_apply, q_guard_put, q_guard_copy, q_guard_loop, q_guard_when, q_apply_load, q_apply_pick, q_apply_guard, q_apply_apply, q_apply_put, q_apply_copy, q_apply_loop, q_apply_when, q_put_load, q_put_pick, q_put_guard, q_put_apply, q_put_put, q_put_copy, q_put_loop, q_put_when, q_copy_load, q_copy_pick, q_copy_guard, q_copy_apply, q_copy_put, q_copy_copy, q_copy_loop, q_copy_when, q_loop_load, q_loop_pick, q_loop_guard, q_loop_apply, q_loop_put, q_loop_copy, q_loop_loop, q_loop_when, q_when_load, q_when_pick, q_when_guard, q_when_apply, q_when_put, q_when_copy, q_when_loop, q_when_when, i_number, i_index, i_load, i_pick, i_guard, i_apply, i_put, i_copy, i_loop, i_when, z2]) (note_run (ps := [.tup a.tl, .tup b.tl]) ?_ ((forL_nx free_ok (turn2 i1)).trans ((forL_nx free_ok (turn2 i2)).trans (forL_nil free_ok))))
    simp -implicitDefEqProofs -dsimp only [↓bind_K, ↓out_K, ↓then_K, ↓optR_K, ↓cond_K, ↓forL_K, ↓lcL_K, ↓whileL_K, ↓catch_K, ↓catchK_nx, ↓catchK_rt, ↓catchK_exc, unset_rt, hush_rt, hush_nx, hush_ct, fin_exc, ↓bindK_ok, ↓outK_ok, ↓bindK_exc, ↓outK_exc, ↓thenK_nx, ↓thenK_rt, ↓thenK_exc, ↓thenK_bk, ↓thenK_ct, ↓optRK_some, ↓quiet_ok, ↓condK_t, ↓condK_f, ↓truth_bl, qE_slot, qE_isx, qE_k, qE_glob, qE_bin, qE_neg, qE_not, qE_and, qE_or, qE_cmp, qE_chain, qE_ife, qE_ix, qE_slc, qE_rev, qE_tup, qE_lst, qE_call, qE_bi, qE_isi, qE_meth, qE_lc, qE_smeth, qE_get2, qE_setd, qE_dnew, qEs_nil, qEs_cons, qAll_nil, qAll_cons, qO_no, qO_some, qI_seq, qI_range1, qI_range2, qI_range3, qI_zip, qI_enum, qI_rev, qT_name, qT_tup, qT_sub, qTs_nil, qTs_cons, qS_asg, qS_par, qS_aug, qS_ife, qS_for, qS_forD, qS_while, qS_ret, qS_retN, qS_drop, qS_pass, qS_brk, qS_cont, qS_raise, qS_try, qS_pick, qSs_nil, qSs_cons, dv_int, dv_bl, dv_str, dv_non, List.getElem?_cons_zero, List.getElem?_cons_succ, List.set_cons_zero, List.set_cons_succ, List.length_cons, List.length_nil, Nat.reduceAdd, Nat.reduceLT, if_true, fin_rt, fin_nx, at_0, at_1, at_2, at_3, itemV_ref, itemV_tup, cmp_eq_int, cmp_ne_int, cmp_lt_int, cmp_le_int, cmp_gt_int, cmp_ge_int, bin_add, bin_sub, bi_int_int, Ex.tl, call_0, b0, q_number_load, q_number_pick, q_number_guard, q_number_apply, q_number_put, q_number_copy, q_number_loop, q_number_when, q_index_load, q_index_pick, q_index_guard, q_index_apply, q_index_put, q_index_copy, q_index_loop, q_index_when, q_load_load, q_load_pick, q_load_guard, q_load_apply, q_load_put, q_load_copy, q_load_loop, q_load_when, q_pick_load, q_pick_pick, q_pick_guard, q_pick_apply, q_pick_put, q_pick_copy, q_pick_loop, q_pick_when, q_guard_load, q_guard_pick, q_guard_guard, q_guard_apply, q_guard_put, q_guard_copy, q_guard_loop, q_guard_when, q_apply_load, q_apply_pick, q_apply_guard, q_apply_apply, q_apply_put, q_apply_copy, q_apply_loop, q_apply_when, q_put_load, q_put_pick, q_put_guard, q_put_apply, q_put_put, q_put_copy, q_put_loop, q_put_when, q_copy_load, q_copy_pick, q_copy_guard, q_copy_apply, q_copy_put, q_copy_copy, q_copy_loop, q_copy_when, q_loop_load, q_loop_pick, q_loop_guard, q_loop_apply, q_loop_put, q_loop_copy, q_loop_loop, q_loop_when, q_when_load, q_when_pick, q_when_guard, q_when_apply, q_when_put, q_when_copy, q_when_loop, q_when_when, i_number, i_index, i_load, i_pick, i_guard, i_apply, i_put, i_copy, i_loop, i_when]
  | .app3 zz a b c x, K, s, m, hK, hs, hz => by
    have h2 := a.ht2
    have hK : max a.ht (max b.ht c.ht) + 1 ≤ K := hK
    obtain ⟨K, rfl⟩ : ∃ K', K = K' + 2 := ⟨K - 2, by omega⟩
    show _ = Res.ok DV.non (s.set u (.dct (c.notes (b.notes (a.notes m)))))
    have z2 := z_le 2 (by decide)
    have hz : m.length + 3 ^ (max a.ht (max b.ht c.ht) + 1) ≤ 90000 := hz
    rw [Nat.pow_succ] at hz
    have p1 := pow3m (show a.ht ≤ max a.ht (max b.ht c.ht) by omega)
    have p2 := pow3m (show b.ht ≤ max a.ht (max b.ht c.ht) by omega)
    have p3 := pow3m (show c.ht ≤ max a.ht (max b.ht c.ht) by omega)
    have ml := a.len m
    have ml2 := b.len (a.notes m)
    have i1 := note_ok (u := u) a (K + 1) s m (by omega) hs (by omega)
    have i2 := note_ok (u := u) b (K + 1) (s.set u (.dct (a.notes m))) (a.notes m) (by omega) (get_set hs) (by omega)
    have i3 := note_ok (u := u) c (K + 1) (s.set u (.dct (b.notes (a.notes m)))) (b.notes (a.notes m)) (by omega) (get_set hs) (by omega)
    rw [set2] at i2 i3
    refine note_end (s1 := s) (by simp -implicitDefEqProofs -dsimp only [↓bind_K, ↓out_K, ↓then_K, ↓optR_K, ↓cond_K, ↓forL_K, ↓lcL_K, ↓whileL_K, ↓catch_K, ↓catchK_nx, ↓catchK_rt, ↓catchK_exc, unset_rt, hush_rt, hush_nx, hush_ct, fin_exc, ↓bindK_ok, ↓outK_ok, ↓bindK_exc, ↓outK_exc, ↓thenK_nx, ↓thenK_rt, ↓thenK_exc, ↓thenK_bk, ↓thenK_ct, ↓optRK_some, ↓quiet_ok, ↓condK_t, ↓condK_f, ↓truth_bl, qE_slot, qE_isx, qE_k, qE_glob, qE_bin, qE_neg, qE_not, qE_and, qE_or, qE_cmp, qE_chain, qE_ife, qE_ix, qE_slc, qE_rev, qE_tup, qE_lst, qE_call, qE_bi, qE_isi, qE_meth, qE_lc, qE_smeth, qE_get2, qE_setd, qE_dnew, qEs_nil, qEs_cons, qAll_nil, qAll_cons, qO_no, qO_some, qI_seq, qI_range1, qI_range2, qI_range3, qI_zip, qI_enum, qI_rev, qT_name, qT_tup, qT_sub, qTs_nil, qTs_cons, qS_asg, qS_par, qS_aug, qS_ife, qS_for, qS_forD, qS_while, qS_ret, qS_retN, qS_drop, qS_pass, qS_brk, qS_cont, qS_raise, qS_try, qS_pick, qSs_nil, qSs_cons, dv_int, dv_bl, dv_str, dv_non, List.getElem?_cons_zero, List.getElem?_cons_succ, List.set_cons_zero, List.set_cons_succ, List.length_cons, List.length_nil, Nat.reduceAdd, Nat.reduceLT, if_true, fin_rt, fin_nx, at_0, at_1, at_2, at_3, itemV_ref, itemV_tup, cmp_eq_int, cmp_ne_int, cmp_lt_int, cmp_le_int, cmp_gt_int, cmp_ge_int, bin_add, bin_sub, bi_int_int, Ex.tl, q_number_load, q_number_pick, q_number_guard, q_number_apply, q_number_put, q_number_copy, q_number_loop, q_number_when, q_index_load, q_index_pick, q_index_guard, q_index_apply, q_index_put, q_index_copy, q_index_loop, q_index_when, q_load_load, q_load_pick, q_load_guard, q_load_apply, q_load_put, q_load_copy, q_load_loop, q_load_when, q_pick_load, q_pick_pick, q_pick_guard, q_pick_apply, q_pick_put, q_pick_copy, q_pick_loop, q_pick_when, q_guard_load, q_guard_pick, q_guard_guard, q_guard_apply, q_guard_put, q_guard_copy, q_guard_loop, q_guard_when, q_apply_load, q_apply_pick, q_apply_guard, q_apply_apply, q_apply_put, q_apply_copy, q_apply_loop, q_apply_when, q_put_load, q_put_pick, q_put_guard, q_put_apply, q_put_put, q_put_copy, q_put_loop, q_put_when, q_copy_load, q_copy_pick, q_copy_guard, q_copy_apply, q_copy_put, q_copy_copy, q_copy_loop, q_copy_when, q_loop_load, q_loop_pick, q_loop_guard, q_loop_apply, q_loop_put, q_loop_copy, q_loop_loop, q_loop_when, q_when_load, q_when_pick, q_when_guard, q_when_apply, q_when_put, q_when_copy, q_when_loop, q_when_when, i_number, i_index, i_load, i_pick, i_guard, i_apply, i_put, i_copy, i_loop, i_when, z2]) (note_run (ps := [.tup a.tl, .tup b.tl, .tup c.tl]) ?_ ((forL_nx free_ok (turn2 i1)).trans ((forL_nx free_ok (turn2 i2)).trans ((forL_nx free_ok (turn2 i3)).trans (forL_nil free_ok)))))
    simp -implicitDefEqProofs -dsimp only [↓bind_K, ↓out_K, ↓then_K, ↓optR_K, ↓cond_K, ↓forL_K, ↓lcL_K, ↓whileL_K, ↓catch_K, ↓catchK_nx, ↓catchK_rt, ↓catchK_exc, unset_rt, hush_rt, hush_nx, hush_ct, fin_exc, ↓bindK_ok, ↓outK_ok, ↓bindK_exc, ↓outK_exc, ↓thenK_nx, ↓thenK_rt, ↓thenK_exc, ↓thenK_bk, ↓thenK_ct, ↓optRK_some, ↓quiet_ok, ↓condK_t, ↓condK_f, ↓truth_bl, qE_slot, qE_isx, qE_k, qE_glob, qE_bin, qE_neg, qE_not, qE_and, qE_or, qE_cmp, qE_chain, qE_ife, qE_ix, qE_slc, qE_rev, qE_tup, qE_lst, qE_call, qE_bi, qE_isi, qE_meth, qE_lc, qE_smeth, qE_get2, qE_setd, qE_dnew, qEs_nil, qEs_cons, qAll_nil, qAll_cons, qO_no, qO_some, qI_seq, qI_range1, qI_range2, qI_range3, qI_zip, qI_enum, qI_rev, qT_name, qT_tup, qT_sub, qTs_nil, qTs_cons, qS_asg, qS_par, qS_aug, qS_ife, qS_for, qS_forD, qS_while, qS_ret, qS_retN, qS_drop, qS_pass, qS_brk, qS_cont, qS_raise, qS_try, qS_pick, qSs_nil, qSs_cons, dv_int, dv_bl, dv_str, dv_non, List.getElem?_cons_zero, List.getElem?_cons_succ, List.set_cons_zero, List.set_cons_succ, List.length_cons, List.length_nil, Nat.reduceAdd, Nat.reduceLT, if_true, fin_rt, fin_nx, at_0, at_1, at_2, at_3, itemV_ref, itemV_tup, cmp_eq_int, cmp_ne_int, cmp_lt_int, cmp_le_int, cmp_gt_int, cmp_ge_int, bin_add, bin_sub, bi_int_int, Ex.tl, call_0, b0, q_number_load, q_number_pick, q_number_guard, q_number_apply, q_number_put, q_number_copy, q_number_loop, q_number_when, q_index_load, q_index_pick, q_index_guard, q_index_apply, q_index_put, q_index_copy, q_index_loop, q_index_when, q_load_load, q_load_pick, q_load_guard, q_load_apply, q_load_put, q_load_copy, q_load_loop, q_load_when, q_pick_load, q_pick_pick, q_pick_guard, q_pick_apply, q_pick_put, q_pick_copy, q_pick_loop, q_pick_when, q_guard_load, q_guard_pick, q_guard_guard, q_guard_apply, q_guard_put, q_guard_copy, q_guard_loop, q_guard_when, q_apply_load, q_apply_pick, q_apply_guard, q_apply_apply, q_apply_put, q_apply_copy, q_apply_loop, q_apply_when, q_put_load, q_put_pick, q_put_guard, q_put_apply, q_put_put, q_put_copy, q_put_loop, q_put_when, q_copy_load, q_copy_pick, q_copy_guard, q_copy_apply, q_copy_put, q_copy_copy, q_copy_loop, q_copy_when, q_loop_load, q_loop_pick, q_loop_guard, q_loop_apply, q_loop_put, q_loop_copy, q_loop_loop, q_loop_when, q_when_load, q_when_pick, q_when_guard, q_when_apply, q_when_put, q_when_copy, q_when_loop, q_when_when, i_number, i_index, i_load, i_pick, i_guard, i_apply, i_put, i_copy, i_loop, i_when]
noncomputable def B3 (K : Nat) : DV → Ip.Loc → Store → Out := fun x r s => (evT (callAt Dt Gt subt K) Gt subt (.name 2) x r s).out r fun r s => evSs (callAt Dt Gt subt K) Gt subt b3l0 r s
theorem turn3 {K u : Nat} {x : List DV} {y : DV} {w : Option DV} {s s' : Store} (h : callAt Dt Gt subt K 3 [.tup x, .ref u] s = .ok .non s') : B3 K (.tup x) [some y, some (.ref u), w] s = .nx [some y, some (.ref u), some (.tup x)] s' := by
  simp -implicitDefEqProofs -dsimp only [↓bind_K, ↓out_K, ↓then_K, ↓optR_K, ↓cond_K, ↓forL_K, ↓lcL_K, ↓whileL_K, ↓catch_K, ↓catchK_nx, ↓catchK_rt, ↓catchK_exc, unset_rt, hush_rt, hush_nx, hush_ct, fin_exc, ↓bindK_ok, ↓outK_ok, ↓bindK_exc, ↓outK_exc, ↓thenK_nx, ↓thenK_rt, ↓thenK_exc, ↓thenK_bk, ↓thenK_ct, ↓optRK_some, ↓quiet_ok, ↓condK_t, ↓condK_f, ↓truth_bl, qE_slot, qE_isx, qE_k, qE_glob, qE_bin, qE_neg, qE_not, qE_and, qE_or, qE_cmp, qE_chain, qE_ife, qE_ix, qE_slc, qE_rev, qE_tup, qE_lst, qE_call, qE_bi, qE_isi, qE_meth, qE_lc, qE_smeth, qE_get2, qE_setd, qE_dnew, qEs_nil, qEs_cons, qAll_nil, qAll_cons, qO_no, qO_some, qI_seq, qI_range1, qI_range2, qI_range3, qI_zip, qI_enum, qI_rev, qT_name, qT_tup, qT_sub, qTs_nil, qTs_cons, qS_asg, qS_par, qS_aug, qS_ife, qS_for, qS_forD, qS_while, qS_ret, qS_retN, qS_drop, qS_pass, qS_brk, qS_cont, qS_raise, qS_try, qS_pick, qSs_nil, qSs_cons, dv_int, dv_bl, dv_str, dv_non, List.getElem?_cons_zero, List.getElem?_cons_succ, List.set_cons_zero, List.set_cons_succ, List.length_cons, List.length_nil, Nat.reduceAdd, Nat.reduceLT, if_true, fin_rt, fin_nx, at_0, at_1, at_2, at_3, itemV_ref, itemV_tup, cmp_eq_int, cmp_ne_int, cmp_lt_int, cmp_le_int, cmp_gt_int, cmp_ge_int, bin_add, bin_sub, bi_int_int, B3, b3l0, h]
theorem note3_run {K u : Nat} {tl : List DV} {ps : List DV} {s s' : Store} {r : Ip.Loc} (hp : callAt Dt Gt subt (K + 1) 1 [.tup tl] s = .ok (.tup ps) s) (h : forL .free (B3 (K + 1)) ps [some (.tup tl), some (.ref u), none] s = .nx r s') :
    evS (callAt Dt Gt subt (K + 1)) Gt subt (.for_ (.name 2) (.seq (.call 1 (.cons (.slot 0) (.nil)))) b3l0) [some (.tup tl), some (.ref u), none] s = .nx r s' := evS_for (by
  simp -implicitDefEqProofs -dsimp only [↓bind_K, ↓out_K, ↓then_K, ↓optR_K, ↓cond_K, ↓forL_K, ↓lcL_K, ↓whileL_K, ↓catch_K, ↓catchK_nx, ↓catchK_rt, ↓catchK_exc, unset_rt, hush_rt, hush_nx, hush_ct, fin_exc, ↓bindK_ok, ↓outK_ok, ↓bindK_exc, ↓outK_exc, ↓thenK_nx, ↓thenK_rt, ↓thenK_exc, ↓thenK_bk, ↓thenK_ct, ↓optRK_some, ↓quiet_ok, ↓condK_t, ↓condK_f, ↓truth_bl, qE_slot, qE_isx, qE_k, qE_glob, qE_bin, qE_neg, qE_not, qE_and, qE_or, qE_cmp, qE_chain, qE_ife, qE_ix, qE_slc, qE_rev, qE_tup, qE_lst, qE_call, qE_bi, qE_isi, qE_meth, qE_lc, qE_smeth, qE_get2, qE_setd, qE_dnew, qEs_nil, qEs_cons, qAll_nil, qAll_cons, qO_no, qO_some, qI_seq, qI_range1, qI_range2, qI_range3, qI_zip, qI_enum, qI_rev, qT_name, qT_tup, qT_sub, qTs_nil, qTs_cons, qS_asg, qS_par, qS_aug, qS_ife, qS_for, qS_forD, qS_while, qS_ret, qS_retN, qS_drop, qS_pass, qS_brk, qS_cont, qS_raise, qS_try, qS_pick, qSs_nil, qSs_cons, dv_int, dv_bl, dv_str, dv_non, List.getElem?_cons_zero, List.getElem?_cons_succ, List.set_cons_zero, List.set_cons_succ, List.length_cons, List.length_nil, Nat.reduceAdd, Nat.reduceLT, if_true, fin_rt, fin_nx, at_0, at_1, at_2, at_3, itemV_ref, itemV_tup, cmp_eq_int, cmp_ne_int, cmp_lt_int, cmp_le_int, cmp_gt_int, cmp_ge_int, bin_add, bin_sub, bi_int_int, hp]) h
theorem note3_ok {u : Nat} : ∀ (t : Sn) (K : Nat) (s : Store) (m : Kvs), t.ht ≤ K → s[u]? = some (.dct m) → m.length + 3 ^ t.ht ≤ 90000 → callAt Dt Gt subt K 3 [.tup t.tl, .ref u] s = .ok .non (s.set u (.dct (t.notes m)))
  | .put j x e, K, s, m, hK, hs, hz => by
    have h2 := e.ht2
    have hK : e.ht + 1 ≤ K := hK
    obtain ⟨K, rfl⟩ : ∃ K', K = K' + 2 := ⟨K - 2, by omega⟩
    show _ = Res.ok DV.non (s.set u (.dct (e.notes (mark j m))))
    have z0 := z_le 0 (by decide)
    have hz : m.length + 3 ^ (e.ht + 1) ≤ 90000 := hz
    rw [Nat.pow_succ] at hz
    have p1 := pow3 e.ht
    have ml := mark_len j m
    have sd := setD_ok (j := j) (v := .bl true) hs (by omega)
    have ih := note_ok (u := u) e (K + 1) (s.set u (.dct (mark j m))) (mark j m) (by omega) (get_set hs) (by omega)
    rw [set2] at ih
    unfold mark at ih ⊢
    have lp := note3_run (K := K) (u := u) (tl := [.str "put", .int j, .tup x, .tup e.tl]) (ps := []) (s := s.set u (.dct (e.notes (putD m (.inl j) (.bl true))))) (by simp -implicitDefEqProofs -dsimp only [↓bind_K, ↓out_K, ↓then_K, ↓optR_K, ↓cond_K, ↓forL_K, ↓lcL_K, ↓whileL_K, ↓catch_K, ↓catchK_nx, ↓catchK_rt, ↓catchK_exc, unset_rt, hush_rt, hush_nx, hush_ct, fin_exc, ↓bindK_ok, ↓outK_ok, ↓bindK_exc, ↓outK_exc, ↓thenK_nx, ↓thenK_rt, ↓thenK_exc, ↓thenK_bk, ↓thenK_ct, ↓optRK_some, ↓quiet_ok, ↓condK_t, ↓condK_f, ↓truth_bl, qE_slot, qE_isx, qE_k, qE_glob, qE_bin, qE_neg, qE_not, qE_and, qE_or, qE_cmp, qE_chain, qE_ife, qE_ix, qE_slc, qE_rev, qE_tup, qE_lst, qE_call, qE_bi, qE_isi, qE_meth, qE_lc, qE_smeth, qE_get2, qE_setd, qE_dnew, qEs_nil, qEs_cons, qAll_nil, qAll_cons, qO_no, qO_some, qI_seq, qI_range1, qI_range2, qI_range3, qI_zip, qI_enum, qI_rev, qT_name, qT_tup, qT_sub, qTs_nil, qTs_cons, qS_asg, qS_par, qS_aug, qS_ife, qS_for, qS_forD, qS_while, qS_ret, qS_retN, qS_drop, qS_pass, qS_brk, qS_cont, qS_raise, qS_try, qS_pick, qSs_nil, qSs_cons, dv_int, dv_bl, dv_str, dv_non, List.getElem?_cons_zero, List.getElem?_cons_succ, List.set_cons_zero, List.set_cons_succ, List.length_cons, List.length_nil, Nat.reduceAdd, Nat.reduceLT, if_true, fin_rt, fin_nx, at_0, at_1, at_2, at_3, itemV_ref, itemV_tup, cmp_eq_int, cmp_ne_int, cmp_lt_int, cmp_le_int, cmp_gt_int, cmp_ge_int, bin_add, bin_sub, bi_int_int, call_1, b1, q_number_load, q_number_pick, q_number_guard, q_number_apply, q_number_put, q_number_copy, q_number_loop, q_number_when, q_index_load, q_index_pick, q_index_guard, q_index_apply, q_index_put, q_index_copy, q_index_loop, q_index_when, q_load_load, q_load_pick, q_load_guard, q_load_apply, q_load_put, q_load_copy, q_load_loop, q_load_when, q_pick_load, q_pick_pick, q_pick_guard, q_pick_apply, q_pick_put, q_pick_copy, q_pick_loop, q_pick_when, q_guard_load, q_guard_pick, q_guard_guard, q_guard_apply, q_guard_put, q_guard_copy, q_guard_loop, q_guard_when, q_apply_load, q_apply_pick, q_apply_guard, q_apply_apply, q_apply_put, q_apply_copy, q_apply_loop, q_apply_when, q_put_load, q_put_pick, q_put_guard, q_put_apply, q_put_put, q_put_copy, q_put_loop, q_put_when, q_copy_load, q_copy_pick, q_copy_guard, q_copy_apply, q_copy_put, q_copy_copy, q_copy_loop, q_copy_when, q_loop_load, q_loop_pick, q_loop_guard, q_loop_apply, q_loop_put, q_loop_copy, q_loop_loop, q_loop_when, q_when_load, q_when_pick, q_when_guard, q_when_apply, q_when_put, q_when_copy, q_when_loop, q_when_when, i_number, i_index, i_load, i_pick, i_guard, i_apply, i_put, i_copy, i_loop, i_when, z0]) (forL_nil free_ok)
    simp -implicitDefEqProofs -dsimp only [↓bind_K, ↓out_K, ↓then_K, ↓optR_K, ↓cond_K, ↓forL_K, ↓lcL_K, ↓whileL_K, ↓catch_K, ↓catchK_nx, ↓catchK_rt, ↓catchK_exc, unset_rt, hush_rt, hush_nx, hush_ct, fin_exc, ↓bindK_ok, ↓outK_ok, ↓bindK_exc, ↓outK_exc, ↓thenK_nx, ↓thenK_rt, ↓thenK_exc, ↓thenK_bk, ↓thenK_ct, ↓optRK_some, ↓quiet_ok, ↓condK_t, ↓condK_f, ↓truth_bl, qE_slot, qE_isx, qE_k, qE_glob, qE_bin, qE_neg, qE_not, qE_and, qE_or, qE_cmp, qE_chain, qE_ife, qE_ix, qE_slc, qE_rev, qE_tup, qE_lst, qE_call, qE_bi, qE_isi, qE_meth, qE_lc, qE_smeth, qE_get2, qE_setd, qE_dnew, qEs_nil, qEs_cons, qAll_nil, qAll_cons, qO_no, qO_some, qI_seq, qI_range1, qI_range2, qI_range3, qI_zip, qI_enum, qI_rev, qT_name, qT_tup, qT_sub, qTs_nil, qTs_cons, qS_asg, qS_par, qS_aug, qS_ife, qS_for, qS_forD, qS_while, qS_ret, qS_retN, qS_drop, qS_pass, qS_brk, qS_cont, qS_raise, qS_try, qS_pick, qSs_nil, qSs_cons, dv_int, dv_bl, dv_str, dv_non, List.getElem?_cons_zero, List.getElem?_cons_succ, List.set_cons_zero, List.set_cons_succ, List.length_cons, List.length_nil, Nat.reduceAdd, Nat.reduceLT, if_true, fin_rt, fin_nx, at_0, at_1, at_2, at_3, itemV_ref, itemV_tup, cmp_eq_int, cmp_ne_int, cmp_lt_int, cmp_le_int, cmp_gt_int, cmp_ge_int, bin_add, bin_sub, bi_int_int, Sn.tl, call_3, b3, q_number_load, q_number_pick, q_number_guard, q_number_apply, q_number_put, q_number_copy, q_number_loop, q_number_when, q_index_load, q_index_pick, q_index_guard, q_index_apply, q_index_put, q_index_copy, q_index_loop, q_index_when, q_load_load, q_load_pick, q_load_guard, q_load_apply, q_load_put, q_load_copy, q_load_loop, q_load_when, q_pick_load, q_pick_pick, q_pick_guard, q_pick_apply, q_pick_put, q_pick_copy, q_pick_loop, q_pick_when, q_guard_load, q_guard_pick, q_guard_guard, q_guard_apply, q_guard_put, q_guard_copy, q_guard_loop, q_guard_when, q_apply_load, q_apply_pick, q_apply_guard, q_apply_apply, q_apply_put, q_apply_copy, q_apply_loop, q_apply_when, q_put_load, q_put_pick, q_put_guard, q_put_apply, q_put_put, q_put_copy, q_put_loop, q_put_when, q_copy_load, q_copy_pick, q_copy_guard, q_copy_apply, q_copy_put, q_copy_copy, q_copy_loop, q_copy_when, q_loop_load, q_loop_pick, q_loop_guard, q_loop_apply, q_loop_put, q_loop_copy, q_loop_loop, q_loop_when, q_when_load, q_when_pick, q_when_guard, q_when_apply, q_when_put, q_when_copy, q_when_loop, q_when_when, i_number, i_index, i_load, i_pick, i_guard, i_apply, i_put, i_copy, i_loop, i_when, sd, ih, ↓lp]
  | .copy a x b y c, K, s, m, hK, hs, hz => by
    obtain ⟨K, rfl⟩ : ∃ K', K = K' + 2 := ⟨K - 2, by have : 3 ≤ K := hK; omega⟩
    show _ = Res.ok DV.non (s.set u (.dct (mark b (mark a m))))
    have z0 := z_le 0 (by decide)
    have ml := mark_len a m
    have hz : m.length + 27 ≤ 90000 := hz
    have sd := setD_ok (j := a) (v := .bl true) hs (by omega)
    have sd2 := setD_ok (j := b) (v := .bl true) (get_set (b := .dct (mark a m)) hs) (by omega)
    rw [set2] at sd2
    unfold mark at sd2 ⊢
    have lp := note3_run (K := K) (u := u) (tl := [.str "copy", .int a, .tup x, .int b, .tup y, .int c]) (ps := []) (s := s.set u (.dct (putD (putD m (.inl a) (.bl true)) (.inl b) (.bl true)))) (by simp -implicitDefEqProofs -dsimp only [↓bind_K, ↓out_K, ↓then_K, ↓optR_K, ↓cond_K, ↓forL_K, ↓lcL_K, ↓whileL_K, ↓catch_K, ↓catchK_nx, ↓catchK_rt, ↓catchK_exc, unset_rt, hush_rt, hush_nx, hush_ct, fin_exc, ↓bindK_ok, ↓outK_ok, ↓bindK_exc, ↓outK_exc, ↓thenK_nx, ↓thenK_rt, ↓thenK_exc, ↓thenK_bk, ↓thenK_ct, ↓optRK_some, ↓quiet_ok, ↓condK_t, ↓condK_f, ↓truth_bl, qE_slot, qE_isx, qE_k, qE_glob, qE_bin, qE_neg, qE_not, qE_and, qE_or, qE_cmp, qE_chain, qE_ife, qE_ix, qE_slc, qE_rev, qE_tup, qE_lst, qE_call, qE_bi, qE_isi, qE_meth, qE_lc, qE_smeth, qE_get2, qE_setd, qE_dnew, qEs_nil, qEs_cons, qAll_nil, qAll_cons, qO_no, qO_some, qI_seq, qI_range1, qI_range2, qI_range3, qI_zip, qI_enum, qI_rev, qT_name, qT_tup, qT_sub, qTs_nil, qTs_cons, qS_asg, qS_par, qS_aug, qS_ife, qS_for, qS_forD, qS_while, qS_ret, qS_retN, qS_drop, qS_pass, qS_brk, qS_cont, qS_raise, qS_try, qS_pick, qSs_nil, qSs_cons, dv_int, dv_bl, dv_str, dv_non, List.getElem?_cons_zero, List.getElem?_cons_succ, List.set_cons_zero, List.set_cons_succ, List.length_cons, List.length_nil, Nat.reduceAdd, Nat.reduceLT, if_true, fin_rt, fin_nx, at_0, at_1, at_2, at_3, itemV_ref, itemV_tup, cmp_eq_int, cmp_ne_int, cmp_lt_int, cmp_le_int, cmp_gt_int, cmp_ge_int, bin_add, bin_sub, bi_int_int, call_1, b1, q_number_load, q_number_pick, q_number_guard, q_number_apply, q_number_put, q_number_copy, q_number_loop, q_number_when, q_index_load, q_index_pick, q_index_guard, q_index_apply, q_index_put, q_index_copy, q_index_loop, q_index_when, q_load_load, q_load_pick, q_load_guard, q_load_apply, q_load_put, q_load_copy, q_load_loop, q_load_when, q_pick_load, q_pick_pick, q_pick_guard, q_pick_apply, q_pick_put, q_pick_copy, q_pick_loop, q_pick_when, q_guard_load, q_guard_pick, q_guard_guard, q_guard_apply, q_guard_put, q_guard_copy, q_guard_loop, q_guard_when, q_apply_load, q_apply_pick, q_apply_guard, q_apply_apply, q_apply_put, q_apply_copy, q_apply_loop, q_apply_when, q_put_load, q_put_pick, q_put_guard, q_put_apply, q_put_put, q_put_copy, q_put_loop, q_put_when, q_copy_load, q_copy_pick, q_copy_guard, q_copy_apply, q_copy_put, q_copy_copy, q_copy_loop, q_copy_when, q_loop_load, q_loop_pick, q_loop_guard, q_loop_apply, q_loop_put, q_loop_copy, q_loop_loop, q_loop_when, q_when_load, q_when_pick, q_when_guard, q_when_apply, q_when_put, q_when_copy, q_when_loop, q_when_when, i_number, i_index, i_load, i_pick, i_guard, i_apply, i_put, i_copy, i_loop, i_when, z0]) (forL_nil free_ok)
    simp -implicitDefEqProofs -dsimp only [↓bind_K, ↓out_K, ↓then_K, ↓optR_K, ↓cond_K, ↓forL_K, ↓lcL_K, ↓whileL_K, ↓catch_K, ↓catchK_nx, ↓catchK_rt, ↓catchK_exc, unset_rt, hush_rt, hush_nx, hush_ct, fin_exc, ↓bindK_ok, ↓outK_ok, ↓bindK_exc, ↓outK_exc, ↓thenK_nx, ↓thenK_rt, ↓thenK_exc, ↓thenK_bk, ↓thenK_ct, ↓optRK_some, ↓quiet_ok, ↓condK_t, ↓condK_f, ↓truth_bl, qE_slot, qE_isx, qE_k, qE_glob, qE_bin, qE_neg, qE_not, qE_and, qE_or, qE_cmp, qE_chain, qE_ife, qE_ix, qE_slc, qE_rev, qE_tup, qE_lst, qE_call, qE_bi, qE_isi, qE_meth, qE_lc, qE_smeth, qE_get2, qE_setd, qE_dnew, qEs_nil, qEs_cons, qAll_nil, qAll_cons, qO_no, qO_some, qI_seq, qI_range1, qI_range2, qI_range3, qI_zip, qI_enum, qI_rev, qT_name, qT_tup, qT_sub, qTs_nil, qTs_cons, qS_asg, qS_par, qS_aug, qS_ife, qS_for, qS_forD, qS_while, qS_ret, qS_retN, qS_drop, qS_pass, qS_brk, qS_cont, qS_raise, qS_try, qS_pick, qSs_nil, qSs_cons, dv_int, dv_bl, dv_str, dv_non, List.getElem?_cons_zero, List.getElem?_cons_succ, List.set_cons_zero, List.set_cons_succ, List.length_cons, List.length_nil, Nat.reduceAdd, Nat.reduceLT, if_true, fin_rt, fin_nx, at_0, at_1, at_2, at_3, itemV_ref, itemV_tup, cmp_eq_int, cmp_ne_int, cmp_lt_int, cmp_le_int, cmp_gt_int, cmp_ge_int, bin_add, bin_sub, bi_int_int, Sn.tl, call_3, b3, q_number_load, q_number_pick, q_number_guard, q_number_apply, q_number_put, q_number_copy, q_number_loop, q_number_when, q_index_load, q_index_pick, q_index_guard, q_index_apply, q_index_put, q_index_copy, q_index_loop, q_index_when, q_load_load, q_load_pick, q_load_guard, q_load_apply, q_load_put, q_load_copy, q_load_loop, q_load_when, q_pick_load, q_pick_pick, q_pick_guard, q_pick_apply, q_pick_put, q_pick_copy, q_pick_loop, q_pick_when, q_guard_load, q_guard_pick, q_guard_guard, q_guard_apply, q_guard_put, q_guard_copy, q_guard_loop, q_guard_when, q_apply_load, q_apply_pick, q_apply_guard, q_apply_apply, q_apply_put, q_apply_copy, q_apply_loop, q_apply_when, q_put_load, q_put_pick, q_put_guard, q_put_apply, q_put_put, q_put_copy, q_put_loop, q_put_when, q_copy_load, q_copy_pick, q_copy_guard, q_copy_apply, q_copy_put, q_copy_copy, q_copy_loop, q_copy_when, q_loop_load, q_loop_pick, q_loop_guard, q_loop_apply, q_loop_put, q_loop_copy, q_loop_loop, q_loop_when, q_when_load, q_when_pick, q_when_guard, q_when_apply, q_when_put, q_when_copy, q_when_loop, q_when_when, i_number, i_index, i_load, i_pick, i_guard, i_apply, i_put, i_copy, i_loop, i_when, sd, sd2, ↓lp]
  | .loop1 v a b c t, K, s, m, hK, hs, hz => by
    have h2 := t.ht2
    have hK : t.ht + 1 ≤ K := hK
    obtain ⟨K, rfl⟩ : ∃ K', K = K' + 2 := ⟨K - 2, by omega⟩
    show _ = Res.ok DV.non (s.set u (.dct (t.notes m)))
    have hz : m.length + 3 ^ (t.ht + 1) ≤ 90000 := hz
    rw [Nat.pow_succ] at hz
    have p1 := pow3 t.ht
    have i1 := note3_ok (u := u) t (K + 1) s m (by omega) hs (by omega)
    have lp := note3_run (K := K) (u := u) (tl := [.str "loop", .int v, .int a, .int b, .int c, .tup [.tup t.tl]]) (ps := [.tup t.tl]) (s := s) (by simp -implicitDefEqProofs -dsimp only [↓bind_K, ↓out_K, ↓then_K, ↓optR_K, ↓cond_K, ↓forL_K, ↓lcL_K, ↓whileL_K, ↓catch_K, ↓catchK_nx, ↓catchK_rt, ↓catchK_exc, unset_rt, hush_rt, hush_nx, hush_ct, fin_exc, ↓bindK_ok, ↓outK_ok, ↓bindK_exc, ↓outK_exc, ↓thenK_nx, ↓thenK_rt, ↓thenK_exc, ↓thenK_bk, ↓thenK_ct, ↓optRK_some, ↓quiet_ok, ↓condK_t, ↓condK_f, ↓truth_bl, qE_slot, qE_isx, qE_k, qE_glob, qE_bin, qE_neg, qE_not, qE_and, qE_or, qE_cmp, qE_chain, qE_ife, qE_ix, qE_slc, qE_rev, qE_tup, qE_lst, qE_call, qE_bi, qE_isi, qE_meth, qE_lc, qE_smeth, qE_get2, qE_setd, qE_dnew, qEs_nil, qEs_cons, qAll_nil, qAll_cons, qO_no, qO_some, qI_seq, qI_range1, qI_range2, qI_range3, qI_zip, qI_enum, qI_rev, qT_name, qT_tup, qT_sub, qTs_nil, qTs_cons, qS_asg, qS_par, qS_aug, qS_ife, qS_for, qS_forD, qS_while, qS_ret, qS_retN, qS_drop, qS_pass, qS_brk, qS_cont, qS_raise, qS_try, qS_pick, qSs_nil, qSs_cons, dv_int, dv_bl, dv_str, dv_non, List.getElem?_cons_zero, List.getElem?_cons_succ, List.set_cons_zero, List.set_cons_succ, List.length_cons, List.length_nil, Nat.reduceAdd, Nat.reduceLT, if_true, fin_rt, fin_nx, at_0, at_1, at_2, at_3, itemV_ref, itemV_tup, cmp_eq_int, cmp_ne_int, cmp_lt_int, cmp_le_int, cmp_gt_int, cmp_ge_int, bin_add, bin_sub, bi_int_int, call_1, b1, q_number_load, q_number_pick, q_number_guard, q_number_apply, q_number_put, q_number_copy, q_number_loop, q_number_when, q_index_load, q_index_pick, q_index_guard, q_index_apply, q_index_put, q_index_copy, q_index_loop, q_index_when, q_load_load, q_load_pick, q_load_guard, q_load_apply, q_load_put, q_load_copy, q_load_loop, q_load_when, q_pick_load, q_pick_pick, q_pick_guard, q_pick_apply, q_pick_put, q_pick_copy, q_pick_loop, q_pick_when, q_guard_load, q_guard_pick, q_guard_guard, q_guard_apply, q_guard_put, q_guard_copy, q_guard_loop, q_guard_when, q_apply_load, q_apply_pick, q_apply_guard, q_apply_apply, q_apply_put, q_apply_copy, q_apply_loop, q_apply_when, q_put_load, q_put_pick, q_put_guard, q_put_apply, q_put_put, q_put_copy, q_put_loop, q_put_when, q_copy_load, q_copy_pick, q_copy_guard, q_copy_apply, q_copy_put, q_copy_copy, q_copy_loop, q_copy_when, q_loop_load, q_loop_pick, q_loop_guard, q_loop_apply, q_loop_put, q_loop_copy, q_loop_loop, q_loop_when, q_when_load, q_when_pick, q_when_guard, q_when_apply, q_when_put, q_when_copy, q_when_loop, q_when_when, i_number, i_index, i_load, i_pick, i_guard, i_apply, i_put, i_copy, i_loop, i_when, at_5]) ((forL_nx free_ok (turn3 i1)).trans (forL_nil free_ok))
    simp -implicitDefEqProofs -dsimp only [↓bind_K, ↓out_K, ↓then_K, ↓optR_K, ↓cond_K, ↓forL_K, ↓lcL_K, ↓whileL_K, ↓catch_K, ↓catchK_nx, ↓catchK_rt, ↓catchK_exc, unset_rt, hush_rt, hush_nx, hush_ct, fin_exc, ↓bindK_ok, ↓outK_ok, ↓bindK_exc, ↓outK_exc, ↓thenK_nx, ↓thenK_rt, ↓thenK_exc, ↓thenK_bk, ↓thenK_ct, ↓optRK_some, ↓quiet_ok, ↓condK_t, ↓condK_f, ↓truth_bl, qE_slot, qE_isx, qE_k, qE_glob, qE_bin, qE_neg, qE_not, qE_and, qE_or, qE_cmp, qE_chain, qE_ife, qE_ix, qE_slc, qE_rev, qE_tup, qE_lst, qE_call, qE_bi, qE_isi, qE_meth, qE_lc, qE_smeth, qE_get2, qE_setd, qE_dnew, qEs_nil, qEs_cons, qAll_nil, qAll_cons, qO_no, qO_some, qI_seq, qI_range1, qI_range2, qI_range3, qI_zip, qI_enum, qI_rev, qT_name, qT_tup, qT_sub, qTs_nil, qTs_cons, qS_asg, qS_par, qS_aug, qS_ife, qS_for, qS_forD, qS_while, qS_ret, qS_retN, qS_drop, qS_pass, qS_brk, qS_cont, qS_raise, qS_try, qS_pick, qSs_nil, qSs_cons, dv_int, dv_bl, dv_str, dv_non, List.getElem?_cons_zero, List.getElem?_cons_succ, List.set_cons_zero, List.set_cons_succ, List.length_cons, List.length_nil, Nat.reduceAdd, Nat.reduceLT, if_true, fin_rt, fin_nx, at_0, at_1, at_2, at_3, itemV_ref, itemV_tup, cmp_eq_int, cmp_ne_int, cmp_lt_int, cmp_le_int, cmp_gt_int, cmp_ge_int, bin_add, bin_sub, bi_int_int, Sn.tl, call_3, b3, q_number_load, q_number_pick, q_number_guard, q_number_apply, q_number_put, q_number_copy, q_number_loop, q_number_when, q_index_load, q_index_pick, q_index_guard, q_index_apply, q_index_put, q_index_copy, q_index_loop, q_index_when, q_load_load, q_load_pick, q_load_guard, q_load_apply, q_load_put, q_load_copy, q_load_loop, q_load_when, q_pick_load, q_pick_pick, q_pick_guard, q_pick_apply, q_pick_put, q_pick_copy, q_pick_loop, q_pick_when, q_guard_load, q_guard_pick, q_guard_guard, q_guard_apply, q_guard_put, q_guard_copy, q_guard_loop, q_guard_when, q_apply_load, q_apply_pick, q_apply_guard, q_apply_apply, q_apply_put, q_apply_copy, q_apply_loop, q_apply_when, q_put_load, q_put_pick, q_put_guard, q_put_apply, q_put_put, q_put_copy, q_put_loop, q_put_when, q_copy_load, q_copy_pick, q_copy_guard, q_copy_apply, q_copy_put, q_copy_copy, q_copy_loop, q_copy_when, q_loop_load, q_loop_pick, q_loop_guard, q_loop_apply, q_loop_put, q_loop_copy, q_loop_loop, q_loop_when, q_when_load, q_when_pick, q_when_guard, q_when_apply, q_when_put, q_when_copy, q_when_loop, q_when_when, i_number, i_index, i_load, i_pick, i_guard, i_apply, i_put, i_copy, i_loop, i_when, ↓lp]
  | .loop2 v a b c t t', K, s, m, hK, hs, hz => by
    have h2 := t.ht2
    have hK : max t.ht t'.ht + 1 ≤ K := hK
    obtain ⟨K, rfl⟩ : ∃ K', K = K' + 2 := ⟨K - 2, by omega⟩
    show _ = Res.ok DV.non (s.set u (.dct (t'.notes (t.notes m))))
    have hz : m.length + 3 ^ (max t.ht t'.ht + 1) ≤ 90000 := hz
    rw [Nat.pow_succ] at hz
    have p1 := pow3m (Nat.le_max_left t.ht t'.ht)
    have p2 := pow3m (Nat.le_max_right t.ht t'.ht)
    have ml := t.len m
    have i1 := note3_ok (u := u) t (K + 1) s m (by omega) hs (by omega)
    have i2 := note3_ok (u := u) t' (K + 1) (s.set u (.dct (t.notes m))) (t.notes m) (by omega) (get_set hs) (by omega)
    rw [set2] at i2
    have lp := note3_run (K := K) (u := u) (tl := [.str "loop", .int v, .int a, .int b, .int c, .tup [.tup t.tl, .tup t'.tl]]) (ps := [.tup t.tl, .tup t'.tl]) (s := s) (by simp -implicitDefEqProofs -dsimp only [↓bind_K, ↓out_K, ↓then_K, ↓optR_K, ↓cond_K, ↓forL_K, ↓lcL_K, ↓whileL_K, ↓catch_K, ↓catchK_nx, ↓catchK_rt, ↓catchK_exc, unset_rt, hush_rt, hush_nx, hush_ct, fin_exc, ↓bindK_ok, ↓outK_ok, ↓bindK_exc, ↓outK_exc, ↓thenK_nx, ↓thenK_rt, ↓thenK_exc, ↓thenK_bk, ↓thenK_ct, ↓optRK_some, ↓quiet_ok, ↓condK_t, ↓condK_f, ↓truth_bl, qE_slot, qE_isx, qE_k, qE_glob, qE_bin, qE_neg, qE_not, qE_and, qE_or, qE_cmp, qE_chain, qE_ife, qE_ix, qE_slc, qE_rev, qE_tup, qE_lst, qE_call, qE_bi, qE_isi, qE_meth, qE_lc, qE_smeth, qE_get2, qE_setd, qE_dnew, qEs_nil, qEs_cons, qAll_nil, qAll_cons, qO_no, qO_some, qI_seq, qI_range1, qI_range2, qI_range3, qI_zip, qI_enum, qI_rev, qT_name, qT_tup, qT_sub, qTs_nil, qTs_cons, qS_asg, qS_par, qS_aug, qS_ife, qS_for, qS_forD, qS_while, qS_ret, qS_retN, qS_drop, qS_pass, qS_brk, qS_cont, qS_raise, qS_try, qS_pick, qSs_nil, qSs_cons, dv_int, dv_bl, dv_str, dv_non, List.getElem?_cons_zero, List.getElem?_cons_succ, List.set_cons_zero, List.set_cons_succ, List.length_cons, List.length_nil, Nat.reduceAdd, Nat.reduceLT, if_true, fin_rt, fin_nx, at_0, at_1, at_2, at_3, itemV_ref, itemV_tup, cmp_eq_int, cmp_ne_int, cmp_lt_int, cmp_le_int, cmp_gt_int, cmp_ge_int, bin_add, bin_sub, bi_int_int, call_1, b1, q_number_load, q_number_pick, q_number_guard, q_number_apply, q_number_put, q_number_copy, q_number_loop, q_number_when, q_index_load, q_index_pick, q_index_guard, q_index_apply, q_index_put, q_index_copy, q_index_loop, q_index_when, q_load_load, q_load_pick, q_load_guard, q_load_apply, q_load_put, q_load_copy, q_load_loop, q_load_when, q_pick_load, q_pick_pick, q_pick_guard, q_pick_apply, q_pick_put, q_pick_copy, q_pick_loop, q_pick_when, q_guard_load, q_guard_pick, q_guard_guard, q_guard_apply, q_guard_put, q_guard_copy, q_guard_loop, q_guard_when, q_apply_load, q_apply_pick, q_apply_guard, q_apply_apply, q_apply_put, q_apply_copy, q_apply_loop, q_apply_when, q_put_load, q_put_pick, q_put_guard, q_put_apply, q_put_put, q_put_copy, q_put_loop, q_put_when, q_copy_load, q_copy_pick, q_copy_guard, q_copy_apply, q_copy_put, q_copy_copy, q_copy_loop, q_copy_when, q_loop_load, q_loop_pick, q_loop_guard, q_loop_apply, q_loop_put, q_loop_copy, q_loop_loop, q_loop_when, q_when_load, q_when_pick, q_when_guard, q_when_apply, q_when_put, q_when_copy, q_when_loop, q_when_when, i_number, i_index, i_load, i_pick, i_guard, i_apply, i_put, i_copy, i_loop, i_when, at_5]) ((forL_nx free_ok (turn3 i1)).trans ((forL_nx free_ok (turn3 i2)).trans (forL_nil free_ok)))
    simp -implicitDefEqProofs -dsimp only [↓bind_K, ↓out_K, ↓then_K, ↓optR_K, ↓cond_K, ↓forL_K, ↓lcL_K, ↓whileL_K, ↓catch_K, ↓catchK_nx, ↓catchK_rt, ↓catchK_exc, unset_rt, hush_rt, hush_nx, hush_ct, fin_exc, ↓bindK_ok, ↓outK_ok, ↓bindK_exc, ↓outK_exc, ↓thenK_nx, ↓thenK_rt, ↓thenK_exc, ↓thenK_bk, ↓thenK_ct, ↓optRK_some, ↓quiet_ok, ↓condK_t, ↓condK_f, ↓truth_bl, qE_slot, qE_isx, qE_k, qE_glob, qE_bin, qE_neg, qE_not, qE_and, qE_or, qE_cmp, qE_chain, qE_ife, qE_ix, qE_slc, qE_rev, qE_tup, qE_lst, qE_call, qE_bi, qE_isi, qE_meth, qE_lc, qE_smeth, qE_get2, qE_setd, qE_dnew, qEs_nil, qEs_cons, qAll_nil, qAll_cons, qO_no, qO_some, qI_seq, qI_range1, qI_range2, qI_range3, qI_zip, qI_enum, qI_rev, qT_name, qT_tup, qT_sub, qTs_nil, qTs_cons, qS_asg, qS_par, qS_aug, qS_ife, qS_for, qS_forD, qS_while, qS_ret, qS_retN, qS_drop, qS_pass, qS_brk, qS_cont, qS_raise, qS_try, qS_pick, qSs_nil, qSs_cons, dv_int, dv_bl, dv_str, dv_non, List.getElem?_cons_zero, List.getElem?_cons_succ, List.set_cons_zero, List.set_cons_succ, List.length_cons, List.length_nil, Nat.reduceAdd, Nat.reduceLT, if_true, fin_rt, fin_nx, at_0, at_1, at_2, at_3, itemV_ref, itemV_tup, cmp_eq_int, cmp_ne_int, cmp_lt_int, cmp_le_int, cmp_gt_int, cmp_ge_int, bin_add, bin_sub, bi_int_int, Sn.tl, call_3, b3, q_number_load, q_number_pick, q_number_guard, q_number_apply, q_number_put, q_number_copy, q_number_loop, q_number_when, q_index_load, q_index_pick, q_index_guard, q_index_apply, q_index_put, q_index_copy, q_index_loop, q_index_when, q_load_load, q_load_pick, q_load_guard, q_load_apply, q_load_put, q_load_copy, q_load_loop, q_load_when, q_pick_load, q_pick_pick, q_pick_guard, q_pick_apply, q_pick_put, q_pick_copy, q_pick_loop, q_pick_when, q_guard_load, q_guard_pick, q_guard_guard, q_guard_apply, q_guard_put, q_guard_copy, q_guard_loop, q_guard_when, q_apply_load, q_apply_pick, q_apply_guard, q_apply_apply, q_apply_put, q_apply_copy, q_apply_loop, q_apply_when, q_put_load, q_put_pick, q_put_guard, q_put_apply, q_put_put, q_put_copy, q_put_loop, q_put_when, q_copy_load, q_copy_pick, q_copy_guard, q_copy_apply, q_copy_put, q_copy_copy, q_copy_loop, q_copy_when, q_loop_load, q_loop_pick, q_loop_guard, q_loop_apply, q_loop_put, q_loop_copy, q_loop_loop, q_loop_when, q_when_load, q_when_pick, q_when_guard, q_when_apply, q_when_put, q_when_copy, q_when_loop, q_when_when, i_number, i_index, i_load, i_pick, i_guard, i_apply, i_put, i_copy, i_loop, i_when, ↓lp]
  | .when1 x t, K, s, m, hK, hs, hz => by
    have h2 := t.ht2
    have hK : t.ht + 1 ≤ K := hK
    obtain ⟨K, rfl⟩ : ∃ K', K = K' + 2 := ⟨K - 2, by omega⟩
    show _ = Res.ok DV.non (s.set u (.dct (t.notes m)))
    have hz : m.length + 3 ^ (t.ht + 1) ≤ 90000 := hz
    rw [Nat.pow_succ] at hz
    have p1 := pow3 t.ht
    have i1 := note3_ok (u := u) t (K + 1) s m (by omega) hs (by omega)
    have lp := note3_run (K := K) (u := u) (tl := [.str "when", .tup x, .tup [.tup t.tl]]) (ps := [.tup t.tl]) (s := s) (by simp -implicitDefEqProofs -dsimp only [↓bind_K, ↓out_K, ↓then_K, ↓optR_K, ↓cond_K, ↓forL_K, ↓lcL_K, ↓whileL_K, ↓catch_K, ↓catchK_nx, ↓catchK_rt, ↓catchK_exc, unset_rt, hush_rt, hush_nx, hush_ct, fin_exc, ↓bindK_ok, ↓outK_ok, ↓bindK_exc, ↓outK_exc, ↓thenK_nx, ↓thenK_rt, ↓thenK_exc, ↓thenK_bk, ↓thenK_ct, ↓optRK_some, ↓quiet_ok, ↓condK_t, ↓condK_f, ↓truth_bl, qE_slot, qE_isx, qE_k, qE_glob, qE_bin, qE_neg, qE_not, qE_and, qE_or, qE_cmp, qE_chain, qE_ife, qE_ix, qE_slc, qE_rev, qE_tup, qE_lst, qE_call, qE_bi, qE_isi, qE_meth, qE_lc, qE_smeth, qE_get2, qE_setd, qE_dnew, qEs_nil, qEs_cons, qAll_nil, qAll_cons, qO_no, qO_some, qI_seq, qI_range1, qI_range2, qI_range3, qI_zip, qI_enum, qI_rev, qT_name, qT_tup, qT_sub, qTs_nil, qTs_cons, qS_asg, qS_par, qS_aug, qS_ife, qS_for, qS_forD, qS_while, qS_ret, qS_retN, qS_drop, qS_pass, qS_brk, qS_cont, qS_raise, qS_try, qS_pick, qSs_nil, qSs_cons, dv_int, dv_bl, dv_str, dv_non, List.getElem?_cons_zero, List.getElem?_cons_succ, List.set_cons_zero, List.set_cons_succ, List.length_cons, List.length_nil, Nat.reduceAdd, Nat.reduceLT, if_true, fin_rt, fin_nx, at_0, at_1, at_2, at_3, itemV_ref, itemV_tup, cmp_eq_int, cmp_ne_int, cmp_lt_int, cmp_le_int, cmp_gt_int, cmp_ge_int, bin_add, bin_sub, bi_int_int, call_1, b1, q_number_load, q_number_pick, q_number_guard, q_number_apply, q_number_put, q_number_copy, q_number_loop, q_number_when, q_index_load, q_index_pick, q_index_guard, q_index_apply, q_index_put, q_index_copy, q_index_loop, q_index_when, q_load_load, q_load_pick, q_load_guard, q_load_apply, q_load_put, q_load_copy, q_load_loop, q_load_when, q_pick_load, q_pick_pick, q_pick_guard, q_pick_apply, q_pick_put, q_pick_copy, q_pick_loop, q_pick_when, q_guard_load, q_guard_pick, q_guard_guard, q_guard_apply, q_guard_put, q_guard_copy, q_guard_loop, q_guard_when, q_apply_load, q_apply_pick, q_apply_guard, q_apply_apply, q_apply_put, q_apply_copy, q_apply_loop, q_apply_when, q_put_load, q_put_pick, q_put_guard, q_put_apply, q_put_put, q_put_copy, q_put_loop, q_put_when, q_copy_load, q_copy_pick, q_copy_guard, q_copy_apply, q_copy_put, q_copy_copy, q_copy_loop, q_copy_when, q_loop_load, q_loop_pick, q_loop_guard, q_loop_apply, q_loop_put, q_loop_copy, q_loop_loop, q_loop_when, q_when_load, q_when_pick, q_when_guard, q_when_apply, q_when_put, q_when_copy, q_when_loop, q_when_when, i_number, i_index, i_load, i_pick, i_guard, i_apply, i_put, i_copy, i_loop, i_when]) ((forL_nx free_ok (turn3 i1)).trans (forL_nil free_ok))
    simp -implicitDefEqProofs -dsimp only [↓bind_K, ↓out_K, ↓then_K, ↓optR_K, ↓cond_K, ↓forL_K, ↓lcL_K, ↓whileL_K, ↓catch_K, ↓catchK_nx, ↓catchK_rt, ↓catchK_exc, unset_rt, hush_rt, hush_nx, hush_ct, fin_exc, ↓bindK_ok, ↓outK_ok, ↓bindK_exc, ↓outK_exc, ↓thenK_nx, ↓thenK_rt, ↓thenK_exc, ↓thenK_bk, ↓thenK_ct, ↓optRK_some, ↓quiet_ok, ↓condK_t, ↓condK_f, ↓truth_bl, qE_slot, qE_isx, qE_k, qE_glob, qE_bin, qE_neg, qE_not, qE_and, qE_or, qE_cmp, qE_chain, qE_ife, qE_ix, qE_slc, qE_rev, qE_tup, qE_lst, qE_call, qE_bi, qE_isi, qE_meth, qE_lc, qE_smeth, qE_get2, qE_setd, qE_dnew, qEs_nil, qEs_cons, qAll_nil, qAll_cons, qO_no, qO_some, qI_seq, qI_range1, qI_range2, qI_range3, qI_zip, qI_enum, qI_rev, qT_name, qT_tup, qT_sub, qTs_nil, qTs_cons, qS_asg, qS_par, qS_aug, qS_ife, qS_for, qS_forD, qS_while, qS_ret, qS_retN, qS_drop, qS_pass, qS_brk, qS_cont, qS_raise, qS_try, qS_pick, qSs_nil, qSs_cons, dv_int, dv_bl, dv_str, dv_non, List.getElem?_cons_zero, List.getElem?_cons_succ, List.set_cons_zero, List.set_cons_succ, List.length_cons, List.length_nil, Nat.reduceAdd, Nat.reduceLT, if_true, fin_rt, fin_nx, at_0, at_1, at_2, at_3, itemV_ref, itemV_tup, cmp_eq_int, cmp_ne_int, cmp_lt_int, cmp_le_int, cmp_gt_int, cmp_ge_int, bin_add, bin_sub, bi_int_int, Sn.tl, call_3, b3, q_number_load, q_number_pick, q_number_guard, q_number_apply, q_number_put, q_number_copy, q_number_loop, q_number_when, q_index_load, q_index_pick, q_index_guard, q_index_apply, q_index_put, q_index_copy, q_index_loop, q_index_when, q_load_load, q_load_pick, q_load_guard, q_load_apply, q_load_put, q_load_copy, q_load_loop, q_load_when, q_pick_load, q_pick_pick, q_pick_guard, q_pick_apply, q_pick_put, q_pick_copy, q_pick_loop, q_pick_when, q_guard_load, q_guard_pick, q_guard_guard, q_guard_apply, q_guard_put, q_guard_copy, q_guard_loop, q_guard_when, q_apply_load, q_apply_pick, q_apply_guard, q_apply_apply, q_apply_put, q_apply_copy, q_apply_loop, q_apply_when, q_put_load, q_put_pick, q_put_guard, q_put_apply, q_put_put, q_put_copy, q_put_loop, q_put_when, q_copy_load, q_copy_pick, q_copy_guard, q_copy_apply, q_copy_put, q_copy_copy, q_copy_loop, q_copy_when, q_loop_load, q_loop_pick, q_loop_guard, q_loop_apply, q_loop_put, q_loop_copy, q_loop_loop, q_loop_when, q_when_load, q_when_pick, q_when_guard, q_when_apply, q_when_put, q_when_copy, q_when_loop, q_when_when, i_number, i_index, i_load, i_pick, i_guard, i_apply, i_put, i_copy, i_loop, i_when, ↓lp]
  | .when2 x t t', K, s, m, hK, hs, hz => by
    have h2 := t.ht2
    have hK : max t.ht t'.ht + 1 ≤ K := hK
    obtain ⟨K, rfl⟩ : ∃ K', K = K' + 2 := ⟨K - 2, by omega⟩
    show _ = Res.ok DV.non (s.set u (.dct (t'.notes (t.notes m))))
    have hz : m.length + 3 ^ (max t.ht t'.ht + 1) ≤ 90000 := hz
    rw [Nat.pow_succ] at hz
    have p1 := pow3m (Nat.le_max_left t.ht t'.ht)
    have p2 := pow3m (Nat.le_max_right t.ht t'.ht)
    have ml := t.len m
    have i1 := note3_ok (u := u) t (K + 1) s m (by omega) hs (by omega)
    have i2 := note3_ok (u := u) t' (K + 1) (s.set u (.dct (t.notes m))) (t.notes m) (by omega) (get_set hs) (by omega)
    rw [set2] at i2
    have lp := note3_run (K := K) (u := u) (tl := [.str "when", .tup x, .tup [.tup t.tl, .tup t'.tl]]) (ps := [.tup t.tl, .tup t'.tl]) (s := s) (by simp -implicitDefEqProofs -dsimp only [↓bind_K, ↓out_K, ↓then_K, ↓optR_K, ↓cond_K, ↓forL_K, ↓lcL_K, ↓whileL_K, ↓catch_K, ↓catchK_nx, ↓catchK_rt, ↓catchK_exc, unset_rt, hush_rt, hush_nx, hush_ct, fin_exc, ↓bindK_ok, ↓outK_ok, ↓bindK_exc, ↓outK_exc, ↓thenK_nx, ↓thenK_rt, ↓thenK_exc, ↓thenK_bk, ↓thenK_ct, ↓optRK_some, ↓quiet_ok, ↓condK_t, ↓condK_f, ↓truth_bl, qE_slot, qE_isx, qE_k, qE_glob, qE_bin, qE_neg, qE_not, qE_and, qE_or, qE_cmp, qE_chain, qE_ife, qE_ix, qE_slc, qE_rev, qE_tup, qE_lst, qE_call, qE_bi, qE_isi, qE_meth, qE_lc, qE_smeth, qE_get2, qE_setd, qE_dnew, qEs_nil, qEs_cons, qAll_nil, qAll_cons, qO_no, qO_some, qI_seq, qI_range1, qI_range2, qI_range3, qI_zip, qI_enum, qI_rev, qT_name, qT_tup, qT_sub, qTs_nil, qTs_cons, qS_asg, qS_par, qS_aug, qS_ife, qS_for, qS_forD, qS_while, qS_ret, qS_retN, qS_drop, qS_pass, qS_brk, qS_cont, qS_raise, qS_try, qS_pick, qSs_nil, qSs_cons, dv_int, dv_bl, dv_str, dv_non, List.getElem?_cons_zero, List.getElem?_cons_succ, List.set_cons_zero, List.set_cons_succ, List.length_cons, List.length_nil, Nat.reduceAdd, Nat.reduceLT, if_true, fin_rt, fin_nx, at_0, at_1, at_2, at_3, itemV_ref, itemV_tup, cmp_eq_int, cmp_ne_int, cmp_lt_int, cmp_le_int, cmp_gt_int, cmp_ge_int, bin_add, bin_sub, bi_int_int, call_1, b1, q_number_load, q_number_pick, q_number_guard, q_number_apply, q_number_put, q_number_copy, q_number_loop, q_number_when, q_index_load, q_index_pick, q_index_guard, q_index_apply, q_index_put, q_index_copy, q_index_loop, q_index_when, q_load_load, q_load_pick, q_load_guard, q_load_apply, q_load_put, q_load_copy, q_load_loop, q_load_when, q_pick_load, q_pick_pick, q_pick_guard, q_pick_apply, q_pick_put, q_pick_copy, q_pick_loop, q_pick_when, q_guard_load, q_guard_pick, q_guard_guard, q_guard_apply, q_guard_put, q_guard_copy, q_guard_loop, q_guard_when, q_apply_load, q_apply_pick, q_apply_guard, q_apply_apply, q_apply_put, q_apply_copy, q_apply_loop, q_apply_when, q_put_load, q_put_pick, q_put_guard, q_put_apply, q_put_put, q_put_copy, q_put_loop, q_put_when, q_copy_load, q_copy_pick, q_copy_guard, q_copy_apply, q_copy_put, q_copy_copy, q_copy_loop, q_copy_when, q_loop_load, q_loop_pick, q_loop_guard, q_loop_apply, q_loop_put, q_loop_copy, q_loop_loop, q_loop_when, q_when_load, q_when_pick, q_when_guard, q_when_apply, q_when_put, q_when_copy, q_when_loop, q_when_when, i_number, i_index, i_load, i_pick, i_guard, i_apply, i_put, i_copy, i_loop, i_when]) ((forL_nx free_ok (turn3 i1)).trans ((forL_nx free_ok (turn3 i2)).trans (forL_nil free_ok)))
    simp -implicitDefEqProofs -dsimp only [↓bind_K, ↓out_K, ↓then_K, ↓optR_K, ↓cond_K, ↓forL_K, ↓lcL_K, ↓whileL_K, ↓catch_K, ↓catchK_nx, ↓catchK_rt, ↓catchK_exc, unset_rt, hush_rt, hush_nx, hush_ct, fin_exc, ↓bindK_ok, ↓outK_ok, ↓bindK_exc, ↓outK_exc, ↓thenK_nx, ↓thenK_rt, ↓thenK_exc, ↓thenK_bk, ↓thenK_ct, ↓optRK_some, ↓quiet_ok, ↓condK_t, ↓condK_f, ↓truth_bl, qE_slot, qE_isx, qE_k, qE_glob, qE_bin, qE_neg, qE_not, qE_and, qE_or, qE_cmp, qE_chain, qE_ife, qE_ix, qE_slc, qE_rev, qE_tup, qE_lst, qE_call, qE_bi, qE_isi, qE_meth, qE_lc, qE_smeth, qE_get2, qE_setd, qE_dnew, qEs_nil, qEs_cons, qAll_nil, qAll_cons, qO_no, qO_some, qI_seq, qI_range1, qI_range2, qI_range3, qI_zip, qI_enum, qI_rev, qT_name, qT_tup, qT_sub, qTs_nil, qTs_cons, qS_asg, qS_par, qS_aug, qS_ife, qS_for, qS_forD, qS_while, qS_ret, qS_retN, qS_drop, qS_pass, qS_brk, qS_cont, qS_raise, qS_try, qS_pick, qSs_nil, qSs_cons, dv_int, dv_bl, dv_str, dv_non, List.getElem?_cons_zero, List.getElem?_cons_succ, List.set_cons_zero, List.set_cons_succ, List.length_cons, List.length_nil, Nat.reduceAdd, Nat.reduceLT, if_true, fin_rt, fin_nx, at_0, at_1, at_2, at_3, itemV_ref, itemV_tup, cmp_eq_int, cmp_ne_int, cmp_lt_int, cmp_le_int, cmp_gt_int, cmp_ge_int, bin_add, bin_sub, bi_int_int, Sn.tl, call_3, b3, q_number_load, q_number_pick, q_number_guard, q_number_apply, q_number_put, q_number_copy, q_number_loop, q_number_when, q_index_load, q_index_pick, q_index_guard, q_index_apply, q_index_put, q_index_copy, q_index_loop, q_index_when, q_load_load, q_load_pick, q_load_guard, q_load_apply, q_load_put, q_load_copy, q_load_loop, q_load_when, q_pick_load, q_pick_pick, q_pick_guard, q_pick_apply, q_pick_put, q_pick_copy, q_pick_loop, q_pick_when, q_guard_load, q_guard_pick, q_guard_guard, q_guard_apply, q_guard_put, q_guard_copy, q_guard_loop, q_guard_when, q_apply_load, q_apply_pick, q_apply_guard, q_apply_apply, q_apply_put, q_apply_copy, q_apply_loop, q_apply_when, q_put_load, q_put_pick, q_put_guard, q_put_apply, q_put_put, q_put_copy, q_put_loop, q_put_when, q_copy_load, q_copy_pick, q_copy_guard, q_copy_apply, q_copy_put, q_copy_copy, q_copy_loop, q_copy_when, q_loop_load, q_loop_pick, q_loop_guard, q_loop_apply, q_loop_put, q_loop_copy, q_loop_loop, q_loop_when, q_when_load, q_when_pick, q_when_guard, q_when_apply, q_when_put, q_when_copy, q_when_loop, q_when_when, i_number, i_index, i_load, i_pick, i_guard, i_apply, i_put, i_copy, i_loop, i_when, ↓lp]
end
section
variable {k d : Nat} {s : Store}
theorem lcL_pairs {f : Src} {body : DV → Store → Res (Option DV)} {s1 : Store} (hd : d < s1.length) (hf : ∀ s, Kp d s1 s → f.ok s) : ∀ (ps : List (DV × Option DV)) (acc : List DV) (s : Store), Dr s d → Kp d s1 s → s[s1.length]? = some (.lst acc) → acc.length + ps.length ≤ 1000 →
    (∀ p ∈ ps, ∀ s, Dr s d → Kp d s1 s → ∃ s2, body p.1 s = .ok p.2 s2 ∧ Dr s2 d ∧ Kp d s s2) →
    ∃ s', lcL s1.length f body (ps.map Prod.fst) s = .ok (.ref s1.length) s' ∧ s'[s1.length]? = some (.lst (acc ++ ps.filterMap Prod.snd)) ∧ Dr s' d ∧ Kp d s1 s'
  | [], acc, s, D, K, hc, _, _ => ⟨s, by simp only [List.map_nil, lcL]; rw [if_pos (hf _ K)], by rw [List.filterMap_nil, List.append_nil]; exact hc, D, K⟩
  | (x, o) :: ps, acc, s, D, K, hc, hz, hb => by
    rw [List.length_cons] at hz
    obtain ⟨s2, e1, D2, K2⟩ := hb (x, o) List.mem_cons_self s D K
    have c2 := K2.get hc (by omega)
    cases o with
    | none =>
      obtain ⟨s', e3, c3, D3, K3⟩ := lcL_pairs hd hf ps acc s2 D2 (K.trans K2) c2 (by omega) fun y hy => hb y (List.mem_cons_of_mem _ hy)
      refine ⟨s', ?_, by rw [c3, List.filterMap_cons], D3, K3⟩
      rw [List.map_cons]
      simp only [lcL]
      rw [if_pos (hf _ K), e1]
      exact e3
    | some v =>
      obtain ⟨s', e3, c3, D3, K3⟩ := lcL_pairs hd hf ps (acc ++ [v]) (s2.set s1.length (.lst (acc ++ [v]))) (D2.up hd) (kp_up (K.trans K2) (Nat.le_refl _)) (get_set c2) (by rw [List.length_append, List.length_singleton]; omega) fun y hy => hb y (List.mem_cons_of_mem _ hy)
      refine ⟨s', ?_, by rw [c3, List.filterMap_cons, List.append_assoc]; rfl, D3, K3⟩
      rw [List.map_cons]
      simp only [lcL]
      rw [if_pos (hf _ K), e1]
      simp only [Res.quiet, Res.bind]
      rw [c2]
      simp only
      rw [if_pos (Nat.lt_of_le_of_lt (show acc.length ≤ 1000 by omega) (by decide))]
      exact e3
theorem lc_pairs {K0 : Nat} {t : CT} {it : CI} {ifs : CEs} {e : CE} {own : List Nat} {r : Ip.Loc} {s s1 : Store} {f : Src} (ps : List (DV × Option DV)) (hi : evI (callAt Dt Gt subt K0) Gt subt it r s = .ok (f, ps.map Prod.fst) s1) (hD : Dr s1 d) (hf : ∀ s, Kp d s1 s → f.ok s) (hz : ps.length ≤ 1000)
    (hb : ∀ p ∈ ps, ∀ s, Dr s d → Kp d s1 s → ∃ s2, ((evT (callAt Dt Gt subt K0) Gt subt t p.1 (wipe r own) s).bind fun r s => (evAll (callAt Dt Gt subt K0) Gt subt ifs r s).bind fun b s => cond b ((evE (callAt Dt Gt subt K0) Gt subt e r s).bind fun v s => Res.ok (some v) s) (.ok none s)) = .ok p.2 s2 ∧ Dr s2 d ∧ Kp d s s2) :
    ∃ s', evE (callAt Dt Gt subt K0) Gt subt (.lc t it ifs e own) r s = .ok (.ref s1.length) s' ∧ s'[s1.length]? = some (.lst (ps.filterMap Prod.snd)) ∧ Dr s' d ∧ Kp d s1 s' := by
  obtain ⟨s', e1, c1, D1, K1⟩ := lcL_pairs (d := d) (f := f) (body := fun x s => (evT (callAt Dt Gt subt K0) Gt subt t x (wipe r own) s).bind fun r s => (evAll (callAt Dt Gt subt K0) Gt subt ifs r s).bind fun b s => cond b ((evE (callAt Dt Gt subt K0) Gt subt e r s).bind fun v s => Res.ok (some v) s) (.ok none s)) hD.lt hf ps [] (s1 ++ [.lst []]) hD.more Kp.app get_snoc (by rw [List.length_nil]; omega) hb
  refine ⟨s', ?_, c1, D1, K1⟩
  rw [qE_lc, hi]
  simp only [Res.bind]
  exact e1
theorem bools_map : ∀ bs : List Bool, bools? (bs.map DV.bl) = some bs
  | [] => rfl
  | b :: bs => by
    rw [List.map_cons]
    show (match bools? (List.map DV.bl bs) with | some is => some (b :: is) | none => none) = _
    rw [bools_map bs]
theorem any_ok {r : Nat} {bs : List Bool} (h : cellL s r = some (bs.map DV.bl)) : biV .any [.ref r] s = .ok (.bl (bs.any id)) s := by
  show optR (cellL s r) _ = _
  rw [h]
  show optR (bools? _) _ = _
  rw [bools_map]
  rfl
theorem some_map (l : List (List DV × Bool)) : (l.map fun p => (DV.tup p.1, some (DV.bl p.2))).filterMap Prod.snd = (l.map (·.2)).map DV.bl := by
  induction l with
  | nil => rfl
  | cons p l ih => rw [List.map_cons, List.filterMap_cons, ih]; rfl
/-- any([in(part, k) for part in ..]) -/
theorem any_parts {K f slot : Nat} {c : CE} {i : Int} {r : Ip.Loc} {s : Store} (l : List (List DV × Bool)) (hl : l.length ≤ 10) (hi : evI (callAt Dt Gt subt K) Gt subt (.seq c) r s = .ok (.free, l.map fun p => DV.tup p.1) s) (hD : Dr s d) (h1 : r[1]? = some (some (.int i))) (h2 : slot < r.length) (h3 : slot ≠ 1)
    (h : ∀ p ∈ l, ∀ s, Dr s d → ∃ s', callAt Dt Gt subt K f [.tup p.1, .int i] s = .ok (.bl p.2) s' ∧ Dr s' d ∧ Kp d s s') :
    ∃ s', evE (callAt Dt Gt subt K) Gt subt (.bi .any (.cons (.lc (.name slot) (.seq c) (.nil) (.call f (.cons (.slot slot) (.cons (.slot 1) (.nil)))) [slot]) (.nil))) r s = .ok (.bl ((l.map (·.2)).any id)) s' ∧ Dr s' d ∧ Kp d s s' := by
  obtain ⟨s', e1, c1, D1, K1⟩ := lc_pairs (d := d) (K0 := K) (t := .name slot) (it := .seq c) (ifs := .nil) (e := .call f (.cons (.slot slot) (.cons (.slot 1) (.nil)))) (own := [slot]) (r := r) (s := s) (s1 := s) (f := .free) (l.map fun p => (DV.tup p.1, some (DV.bl p.2))) (by rw [hi, List.map_map]; rfl) hD (fun _ _ => free_ok) (by rw [List.length_map]; omega) (fun p hp s0 D0 K0 => by
    obtain ⟨q, hq, rfl⟩ := List.mem_map.mp hp
    obtain ⟨s2, e2, D2, K2⟩ := h q hq s0 D0
    refine ⟨s2, ?_, D2, K2⟩
    have w : wipe r [slot] = r.set slot none := rfl
    have lt' : slot < (r.set slot none).length := by rw [List.length_set]; exact h2
    have g1 : ((r.set slot none).set slot (some (DV.tup q.1)))[1]? = some (some (.int i)) := by rw [get_set_ne h3, get_set_ne h3]; exact h1
    have g2 : ((r.set slot none).set slot (some (DV.tup q.1)))[slot]? = some (some (.tup q.1)) := List.getElem?_set_self lt'
    have x1 : evE (callAt Dt Gt subt K) Gt subt (.slot slot) ((r.set slot none).set slot (some (DV.tup q.1))) s0 = .ok (.tup q.1) s0 := by rw [qE_slot, g2]
    have x2 : evE (callAt Dt Gt subt K) Gt subt (.slot 1) ((r.set slot none).set slot (some (DV.tup q.1))) s0 = .ok (.int i) s0 := by rw [qE_slot, g1]
    have t : evT (callAt Dt Gt subt K) Gt subt (.name slot) (.tup q.1) (r.set slot none) s0 = .ok ((r.set slot none).set slot (some (.tup q.1))) s0 := by
      rw [qT_name, if_pos lt']
    rw [w]
    simp -implicitDefEqProofs -dsimp only [↓bind_K, ↓out_K, ↓then_K, ↓optR_K, ↓cond_K, ↓forL_K, ↓lcL_K, ↓whileL_K, ↓catch_K, ↓catchK_nx, ↓catchK_rt, ↓catchK_exc, unset_rt, hush_rt, hush_nx, hush_ct, fin_exc, ↓bindK_ok, ↓outK_ok, ↓bindK_exc, ↓outK_exc, ↓thenK_nx, ↓thenK_rt, ↓thenK_exc, ↓thenK_bk, ↓thenK_ct, ↓optRK_some, ↓quiet_ok, ↓condK_t, ↓condK_f, ↓truth_bl, qE_slot, qE_isx, qE_k, qE_glob, qE_bin, qE_neg, qE_not, qE_and, qE_or, qE_cmp, qE_chain, qE_ife, qE_ix, qE_slc, qE_rev, qE_tup, qE_lst, qE_call, qE_bi, qE_isi, qE_meth, qE_lc, qE_smeth, qE_get2, qE_setd, qE_dnew, qEs_nil, qEs_cons, qAll_nil, qAll_cons, qO_no, qO_some, qI_seq, qI_range1, qI_range2, qI_range3, qI_zip, qI_enum, qI_rev, qT_name, qT_tup, qT_sub, qTs_nil, qTs_cons, qS_asg, qS_par, qS_aug, qS_ife, qS_for, qS_forD, qS_while, qS_ret, qS_retN, qS_drop, qS_pass, qS_brk, qS_cont, qS_raise, qS_try, qS_pick, qSs_nil, qSs_cons, dv_int, dv_bl, dv_str, dv_non, List.getElem?_cons_zero, List.getElem?_cons_succ, List.set_cons_zero, List.set_cons_succ, List.length_cons, List.length_nil, Nat.reduceAdd, Nat.reduceLT, if_true, fin_rt, fin_nx, at_0, at_1, at_2, at_3, itemV_ref, itemV_tup, cmp_eq_int, cmp_ne_int, cmp_lt_int, cmp_le_int, cmp_gt_int, cmp_ge_int, bin_add, bin_sub, bi_int_int, t, ↓x1, ↓x2, e2])
  rw [some_map] at c1
  refine ⟨s', ?_, D1, K1⟩
  simp -implicitDefEqProofs -dsimp only [↓bind_K, ↓out_K, ↓then_K, ↓optR_K, ↓cond_K, ↓forL_K, ↓lcL_K, ↓whileL_K, ↓catch_K, ↓catchK_nx, ↓catchK_rt, ↓catchK_exc, unset_rt, hush_rt, hush_nx, hush_ct, fin_exc, ↓bindK_ok, ↓outK_ok, ↓bindK_exc, ↓outK_exc, ↓thenK_nx, ↓thenK_rt, ↓thenK_exc, ↓thenK_bk, ↓thenK_ct, ↓optRK_some, ↓quiet_ok, ↓condK_t, ↓condK_f, ↓truth_bl, qE_slot, qE_isx, qE_k, qE_glob, qE_bin, qE_neg, qE_not, qE_and, qE_or, qE_cmp, qE_chain, qE_ife, qE_ix, qE_slc, qE_rev, qE_tup, qE_lst, qE_call, qE_bi, qE_isi, qE_meth, qE_lc, qE_smeth, qE_get2, qE_setd, qE_dnew, qEs_nil, qEs_cons, qAll_nil, qAll_cons, qO_no, qO_some, qI_seq, qI_range1, qI_range2, qI_range3, qI_zip, qI_enum, qI_rev, qT_name, qT_tup, qT_sub, qTs_nil, qTs_cons, qS_asg, qS_par, qS_aug, qS_ife, qS_for, qS_forD, qS_while, qS_ret, qS_retN, qS_drop, qS_pass, qS_brk, qS_cont, qS_raise, qS_try, qS_pick, qSs_nil, qSs_cons, dv_int, dv_bl, dv_str, dv_non, List.getElem?_cons_zero, List.getElem?_cons_succ, List.set_cons_zero, List.set_cons_succ, List.length_cons, List.length_nil, Nat.reduceAdd, Nat.reduceLT, if_true, fin_rt, fin_nx, at_0, at_1, at_2, at_3, itemV_ref, itemV_tup, cmp_eq_int, cmp_ne_int, cmp_lt_int, cmp_le_int, cmp_gt_int, cmp_ge_int, bin_add, bin_sub, bi_int_int, ↓e1, any_ok (cellL_of c1)]
theorem in_ok : ∀ (e : Ex) (K : Nat) (i : Int) (s : Store), e.ht ≤ K → Dr s d → ∃ s', callAt Dt Gt subt K 17 [.tup e.tl, .int i] s = .ok (.bl (e.uses i)) s' ∧ Dr s' d ∧ Kp d s s'
  | .num x, K, i, s, hK, D => by
    obtain ⟨K, rfl⟩ : ∃ K', K = K' + 1 := ⟨K - 1, by have : 2 ≤ K := hK; omega⟩
    refine ⟨s, ?_, D, Kp.refl⟩
    simp -implicitDefEqProofs -dsimp only [↓bind_K, ↓out_K, ↓then_K, ↓optR_K, ↓cond_K, ↓forL_K, ↓lcL_K, ↓whileL_K, ↓catch_K, ↓catchK_nx, ↓catchK_rt, ↓catchK_exc, unset_rt, hush_rt, hush_nx, hush_ct, fin_exc, ↓bindK_ok, ↓outK_ok, ↓bindK_exc, ↓outK_exc, ↓thenK_nx, ↓thenK_rt, ↓thenK_exc, ↓thenK_bk, ↓thenK_ct, ↓optRK_some, ↓quiet_ok, ↓condK_t, ↓condK_f, ↓truth_bl, qE_slot, qE_isx, qE_k, qE_glob, qE_bin, qE_neg, qE_not, qE_and, qE_or, qE_cmp, qE_chain, qE_ife, qE_ix, qE_slc, qE_rev, qE_tup, qE_lst, qE_call, qE_bi, qE_isi, qE_meth, qE_lc, qE_smeth, qE_get2, qE_setd, qE_dnew, qEs_nil, qEs_cons, qAll_nil, qAll_cons, qO_no, qO_some, qI_seq, qI_range1, qI_range2, qI_range3, qI_zip, qI_enum, qI_rev, qT_name, qT_tup, qT_sub, qTs_nil, qTs_cons, qS_asg, qS_par, qS_aug, qS_ife, qS_for, qS_forD, qS_while, qS_ret, qS_retN, qS_drop, qS_pass, qS_brk, qS_cont, qS_raise, qS_try, qS_pick, qSs_nil, qSs_cons, dv_int, dv_bl, dv_str, dv_non, List.getElem?_cons_zero, List.getElem?_cons_succ, List.set_cons_zero, List.set_cons_succ, List.length_cons, List.length_nil, Nat.reduceAdd, Nat.reduceLT, if_true, fin_rt, fin_nx, at_0, at_1, at_2, at_3, itemV_ref, itemV_tup, cmp_eq_int, cmp_ne_int, cmp_lt_int, cmp_le_int, cmp_gt_int, cmp_ge_int, bin_add, bin_sub, bi_int_int, Ex.tl, call_17, b17, q_number_load, q_number_pick, q_number_guard, q_number_apply, q_number_put, q_number_copy, q_number_loop, q_number_when, q_index_load, q_index_pick, q_index_guard, q_index_apply, q_index_put, q_index_copy, q_index_loop, q_index_when, q_load_load, q_load_pick, q_load_guard, q_load_apply, q_load_put, q_load_copy, q_load_loop, q_load_when, q_pick_load, q_pick_pick, q_pick_guard, q_pick_apply, q_pick_put, q_pick_copy, q_pick_loop, q_pick_when, q_guard_load, q_guard_pick, q_guard_guard, q_guard_apply, q_guard_put, q_guard_copy, q_guard_loop, q_guard_when, q_apply_load, q_apply_pick, q_apply_guard, q_apply_apply, q_apply_put, q_apply_copy, q_apply_loop, q_apply_when, q_put_load, q_put_pick, q_put_guard, q_put_apply, q_put_put, q_put_copy, q_put_loop, q_put_when, q_copy_load, q_copy_pick, q_copy_guard, q_copy_apply, q_copy_put, q_copy_copy, q_copy_loop, q_copy_when, q_loop_load, q_loop_pick, q_loop_guard, q_loop_apply, q_loop_put, q_loop_copy, q_loop_loop, q_loop_when, q_when_load, q_when_pick, q_when_guard, q_when_apply, q_when_put, q_when_copy, q_when_loop, q_when_when, i_number, i_index, i_load, i_pick, i_guard, i_apply, i_put, i_copy, i_loop, i_when, Ex.uses]
  | .idx x, K, i, s, hK, D => by
    obtain ⟨K, rfl⟩ : ∃ K', K = K' + 1 := ⟨K - 1, by have : 2 ≤ K := hK; omega⟩
    refine ⟨s, ?_, D, Kp.refl⟩
    simp -implicitDefEqProofs -dsimp only [↓bind_K, ↓out_K, ↓then_K, ↓optR_K, ↓cond_K, ↓forL_K, ↓lcL_K, ↓whileL_K, ↓catch_K, ↓catchK_nx, ↓catchK_rt, ↓catchK_exc, unset_rt, hush_rt, hush_nx, hush_ct, fin_exc, ↓bindK_ok, ↓outK_ok, ↓bindK_exc, ↓outK_exc, ↓thenK_nx, ↓thenK_rt, ↓thenK_exc, ↓thenK_bk, ↓thenK_ct, ↓optRK_some, ↓quiet_ok, ↓condK_t, ↓condK_f, ↓truth_bl, qE_slot, qE_isx, qE_k, qE_glob, qE_bin, qE_neg, qE_not, qE_and, qE_or, qE_cmp, qE_chain, qE_ife, qE_ix, qE_slc, qE_rev, qE_tup, qE_lst, qE_call, qE_bi, qE_isi, qE_meth, qE_lc, qE_smeth, qE_get2, qE_setd, qE_dnew, qEs_nil, qEs_cons, qAll_nil, qAll_cons, qO_no, qO_some, qI_seq, qI_range1, qI_range2, qI_range3, qI_zip, qI_enum, qI_rev, qT_name, qT_tup, qT_sub, qTs_nil, qTs_cons, qS_asg, qS_par, qS_aug, qS_ife, qS_for, qS_forD, qS_while, qS_ret, qS_retN, qS_drop, qS_pass, qS_brk, qS_cont, qS_raise, qS_try, qS_pick, qSs_nil, qSs_cons, dv_int, dv_bl, dv_str, dv_non, List.getElem?_cons_zero, List.getElem?_cons_succ, List.set_cons_zero, List.set_cons_succ, List.length_cons, List.length_nil, Nat.reduceAdd, Nat.reduceLT, if_true, fin_rt, fin_nx, at_0, at_1, at_2, at_3, itemV_ref, itemV_tup, cmp_eq_int, cmp_ne_int, cmp_lt_int, cmp_le_int, cmp_gt_int, cmp_ge_int, bin_add, bin_sub, bi_int_int, Ex.tl, call_17, b17, q_number_load, q_number_pick, q_number_guard, q_number_apply, q_number_put, q_number_copy, q_number_loop, q_number_when, q_index_load, q_index_pick, q_index_guard, q_index_apply, q_index_put, q_index_copy, q_index_loop, q_index_when, q_load_load, q_load_pick, q_load_guard, q_load_apply, q_load_put, q_load_copy, q_load_loop, q_load_when, q_pick_load, q_pick_pick, q_pick_guard, q_pick_apply, q_pick_put, q_pick_copy, q_pick_loop, q_pick_when, q_guard_load, q_guard_pick, q_guard_guard, q_guard_apply, q_guard_put, q_guard_copy, q_guard_loop, q_guard_when, q_apply_load, q_apply_pick, q_apply_guard, q_apply_apply, q_apply_put, q_apply_copy, q_apply_loop, q_apply_when, q_put_load, q_put_pick, q_put_guard, q_put_apply, q_put_put, q_put_copy, q_put_loop, q_put_when, q_copy_load, q_copy_pick, q_copy_guard, q_copy_apply, q_copy_put, q_copy_copy, q_copy_loop, q_copy_when, q_loop_load, q_loop_pick, q_loop_guard, q_loop_apply, q_loop_put, q_loop_copy, q_loop_loop, q_loop_when, q_when_load, q_when_pick, q_when_guard, q_when_apply, q_when_put, q_when_copy, q_when_loop, q_when_when, i_number, i_index, i_load, i_pick, i_guard, i_apply, i_put, i_copy, i_loop, i_when, Ex.uses]
  | .load j x, K, i, s, hK, D => by
    obtain ⟨K, rfl⟩ : ∃ K', K = K' + 1 := ⟨K - 1, by have : 2 ≤ K := hK; omega⟩
    refine ⟨s, ?_, D, Kp.refl⟩
    simp -implicitDefEqProofs -dsimp only [↓bind_K, ↓out_K, ↓then_K, ↓optR_K, ↓cond_K, ↓forL_K, ↓lcL_K, ↓whileL_K, ↓catch_K, ↓catchK_nx, ↓catchK_rt, ↓catchK_exc, unset_rt, hush_rt, hush_nx, hush_ct, fin_exc, ↓bindK_ok, ↓outK_ok, ↓bindK_exc, ↓outK_exc, ↓thenK_nx, ↓thenK_rt, ↓thenK_exc, ↓thenK_bk, ↓thenK_ct, ↓optRK_some, ↓quiet_ok, ↓condK_t, ↓condK_f, ↓truth_bl, qE_slot, qE_isx, qE_k, qE_glob, qE_bin, qE_neg, qE_not, qE_and, qE_or, qE_cmp, qE_chain, qE_ife, qE_ix, qE_slc, qE_rev, qE_tup, qE_lst, qE_call, qE_bi, qE_isi, qE_meth, qE_lc, qE_smeth, qE_get2, qE_setd, qE_dnew, qEs_nil, qEs_cons, qAll_nil, qAll_cons, qO_no, qO_some, qI_seq, qI_range1, qI_range2, qI_range3, qI_zip, qI_enum, qI_rev, qT_name, qT_tup, qT_sub, qTs_nil, qTs_cons, qS_asg, qS_par, qS_aug, qS_ife, qS_for, qS_forD, qS_while, qS_ret, qS_retN, qS_drop, qS_pass, qS_brk, qS_cont, qS_raise, qS_try, qS_pick, qSs_nil, qSs_cons, dv_int, dv_bl, dv_str, dv_non, List.getElem?_cons_zero, List.getElem?_cons_succ, List.set_cons_zero, List.set_cons_succ, List.length_cons, List.length_nil, Nat.reduceAdd, Nat.reduceLT, if_true, fin_rt, fin_nx, at_0, at_1, at_2, at_3, itemV_ref, itemV_tup, cmp_eq_int, cmp_ne_int, cmp_lt_int, cmp_le_int, cmp_gt_int, cmp_ge_int, bin_add, bin_sub, bi_int_int, Ex.tl, call_17, b17, q_number_load, q_number_pick, q_number_guard, q_number_apply, q_number_put, q_number_copy, q_number_loop, q_number_when, q_index_load, q_index_pick, q_index_guard, q_index_apply, q_index_put, q_index_copy, q_index_loop, q_index_when, q_load_load, q_load_pick, q_load_guard, q_load_apply, q_load_put, q_load_copy, q_load_loop, q_load_when, q_pick_load, q_pick_pick, q_pick_guard, q_pick_apply, q_pick_put, q_pick_copy, q_pick_loop, q_pick_when, q_guard_load, q_guard_pick, q_guard_guard, q_guard_apply, q_guard_put, q_guard_copy, q_guard_loop, q_guard_when, q_apply_load, q_apply_pick, q_apply_guard, q_apply_apply, q_apply_put, q_apply_copy, q_apply_loop, q_apply_when, q_put_load, q_put_pick, q_put_guard, q_put_apply, q_put_put, q_put_copy, q_put_loop, q_put_when, q_copy_load, q_copy_pick, q_copy_guard, q_copy_apply, q_copy_put, q_copy_copy, q_copy_loop, q_copy_when, q_loop_load, q_loop_pick, q_loop_guard, q_loop_apply, q_loop_put, q_loop_copy, q_loop_loop, q_loop_when, q_when_load, q_when_pick, q_when_guard, q_when_apply, q_when_put, q_when_copy, q_when_loop, q_when_when, i_number, i_index, i_load, i_pick, i_guard, i_apply, i_put, i_copy, i_loop, i_when, Ex.uses]
  | .pick j x y z e, K, i, s, hK, D => by
    have h2 := e.ht2
    have hK : e.ht + 1 ≤ K := hK
    obtain ⟨K, rfl⟩ : ∃ K', K = K' + 1 := ⟨K - 1, by omega⟩
    obtain ⟨s1, e1, D1, K1⟩ := in_ok e K i s (by omega) D
    rw [show (Ex.pick j x y z e).uses i = (j == i || e.uses i) from rfl]
    cases hj : (j == i) with
    | true =>
      refine ⟨s, ?_, D, Kp.refl⟩
      simp -implicitDefEqProofs -dsimp only [↓bind_K, ↓out_K, ↓then_K, ↓optR_K, ↓cond_K, ↓forL_K, ↓lcL_K, ↓whileL_K, ↓catch_K, ↓catchK_nx, ↓catchK_rt, ↓catchK_exc, unset_rt, hush_rt, hush_nx, hush_ct, fin_exc, ↓bindK_ok, ↓outK_ok, ↓bindK_exc, ↓outK_exc, ↓thenK_nx, ↓thenK_rt, ↓thenK_exc, ↓thenK_bk, ↓thenK_ct, ↓optRK_some, ↓quiet_ok, ↓condK_t, ↓condK_f, ↓truth_bl, qE_slot, qE_isx, qE_k, qE_glob, qE_bin, qE_neg, qE_not, qE_and, qE_or, qE_cmp, qE_chain, qE_ife, qE_ix, qE_slc, qE_rev, qE_tup, qE_lst, qE_call, qE_bi, qE_isi, qE_meth, qE_lc, qE_smeth, qE_get2, qE_setd, qE_dnew, qEs_nil, qEs_cons, qAll_nil, qAll_cons, qO_no, qO_some, qI_seq, qI_range1, qI_range2, qI_range3, qI_zip, qI_enum, qI_rev, qT_name, qT_tup, qT_sub, qTs_nil, qTs_cons, qS_asg, qS_par, qS_aug, qS_ife, qS_for, qS_forD, qS_while, qS_ret, qS_retN, qS_drop, qS_pass, qS_brk, qS_cont, qS_raise, qS_try, qS_pick, qSs_nil, qSs_cons, dv_int, dv_bl, dv_str, dv_non, List.getElem?_cons_zero, List.getElem?_cons_succ, List.set_cons_zero, List.set_cons_succ, List.length_cons, List.length_nil, Nat.reduceAdd, Nat.reduceLT, if_true, fin_rt, fin_nx, at_0, at_1, at_2, at_3, itemV_ref, itemV_tup, cmp_eq_int, cmp_ne_int, cmp_lt_int, cmp_le_int, cmp_gt_int, cmp_ge_int, bin_add, bin_sub, bi_int_int, Ex.tl, call_17, b17, q_number_load, q_number_pick, q_number_guard, q_number_apply, q_number_put, q_number_copy, q_number_loop, q_number_when, q_index_load, q_index_pick, q_index_guard, q_index_apply, q_index_put, q_index_copy, q_index_loop, q_index_when, q_load_load, q_load_pick, q_load_guard, q_load_apply, q_load_put, q_load_copy, q_load_loop, q_load_when, q_pick_load, q_pick_pick, q_pick_guard, q_pick_apply, q_pick_put, q_pick_copy, q_pick_loop, q_pick_when, q_guard_load, q_guard_pick, q_guard_guard, q_guard_apply, q_guard_put, q_guard_copy, q_guard_loop, q_guard_when, q_apply_load, q_apply_pick, q_apply_guard, q_apply_apply, q_apply_put, q_apply_copy, q_apply_loop, q_apply_when, q_put_load, q_put_pick, q_put_guard, q_put_apply, q_put_put, q_put_copy, q_put_loop, q_put_when, q_copy_load, q_copy_pick, q_copy_guard, q_copy_apply, q_copy_put, q_copy_copy, q_copy_loop, q_copy_when, q_loop_load, q_loop_pick, q_loop_guard, q_loop_apply, q_loop_put, q_loop_copy, q_loop_loop, q_loop_when, q_when_load, q_when_pick, q_when_guard, q_when_apply, q_when_put, q_when_copy, q_when_loop, q_when_when, i_number, i_index, i_load, i_pick, i_guard, i_apply, i_put, i_copy, i_loop, i_when, hj, Bool.true_or]
    | false =>
      refine ⟨s1, ?_, D1, K1⟩
      simp -implicitDefEqProofs -dsimp only [↓bind_K, ↓out_K, ↓then_K, ↓optR_K, ↓cond_K, ↓forL_K, ↓lcL_K, ↓whileL_K, ↓catch_K, ↓catchK_nx, ↓catchK_rt, ↓catchK_exc, unset_rt, hush_rt, hush_nx, hush_ct, fin_exc, ↓bindK_ok, ↓outK_ok, ↓bindK_exc, ↓outK_exc, ↓thenK_nx, ↓thenK_rt, ↓thenK_exc, ↓thenK_bk, ↓thenK_ct, ↓optRK_some, ↓quiet_ok, ↓condK_t, ↓condK_f, ↓truth_bl, qE_slot, qE_isx, qE_k, qE_glob, qE_bin, qE_neg, qE_not, qE_and, qE_or, qE_cmp, qE_chain, qE_ife, qE_ix, qE_slc, qE_rev, qE_tup, qE_lst, qE_call, qE_bi, qE_isi, qE_meth, qE_lc, qE_smeth, qE_get2, qE_setd, qE_dnew, qEs_nil, qEs_cons, qAll_nil, qAll_cons, qO_no, qO_some, qI_seq, qI_range1, qI_range2, qI_range3, qI_zip, qI_enum, qI_rev, qT_name, qT_tup, qT_sub, qTs_nil, qTs_cons, qS_asg, qS_par, qS_aug, qS_ife, qS_for, qS_forD, qS_while, qS_ret, qS_retN, qS_drop, qS_pass, qS_brk, qS_cont, qS_raise, qS_try, qS_pick, qSs_nil, qSs_cons, dv_int, dv_bl, dv_str, dv_non, List.getElem?_cons_zero, List.getElem?_cons_succ, List.set_cons_zero, List.set_cons_succ, List.length_cons, List.length_nil, Nat.reduceAdd, Nat.reduceLT, if_true, fin_rt, fin_nx, at_0, at_1, at_2, at_3, itemV_ref, itemV_tup, cmp_eq_int, cmp_ne_int, cmp_lt_int, cmp_le_int, cmp_gt_int, cmp_ge_int, bin_add, bin_sub, bi_int_int, Ex.tl, call_17, b17, q_number_load, q_number_pick, q_number_guard, q_number_apply, q_number_put, q_number_copy, q_number_loop, q_number_when, q_index_load, q_index_pick, q_index_guard, q_index_apply, q_index_put, q_index_copy, q_index_loop, q_index_when, q_load_load, q_load_pick, q_load_guard, q_load_apply, q_load_put, q_load_copy, q_load_loop, q_load_when, q_pick_load, q_pick_pick, q_pick_guard, q_pick_apply, q_pick_put, q_pick_copy, q_pick_loop, q_pick_when, q_guard_load, q_guard_pick, q_guard_guard, q_guard_apply, q_guard_put, q_guard_copy, q_guard_loop, q_guard_when, q_apply_load, q_apply_pick, q_apply_guard, q_apply_apply, q_apply_put, q_apply_copy, q_apply_loop, q_apply_when, q_put_load, q_put_pick, q_put_guard, q_put_apply, q_put_put, q_put_copy, q_put_loop, q_put_when, q_copy_load, q_copy_pick, q_copy_guard, q_copy_apply, q_copy_put, q_copy_copy, q_copy_loop, q_copy_when, q_loop_load, q_loop_pick, q_loop_guard, q_loop_apply, q_loop_put, q_loop_copy, q_loop_loop, q_loop_when, q_when_load, q_when_pick, q_when_guard, q_when_apply, q_when_put, q_when_copy, q_when_loop, q_when_when, i_number, i_index, i_load, i_pick, i_guard, i_apply, i_put, i_copy, i_loop, i_when, hj, at_5, e1, Bool.false_or]
  | .guard x a b, K, i, s, hK, D => by
    have h2 := a.ht2
    have hK : max a.ht b.ht + 1 ≤ K := hK
    obtain ⟨K, rfl⟩ : ∃ K', K = K' + 1 := ⟨K - 1, by omega⟩
    obtain ⟨s1, e1, D1, K1⟩ := in_ok a K i s (by omega) D
    rw [show (Ex.guard x a b).uses i = (a.uses i || b.uses i) from rfl]
    cases hj : a.uses i with
    | true =>
      rw [hj] at e1
      refine ⟨s1, ?_, D1, K1⟩
      simp -implicitDefEqProofs -dsimp only [↓bind_K, ↓out_K, ↓then_K, ↓optR_K, ↓cond_K, ↓forL_K, ↓lcL_K, ↓whileL_K, ↓catch_K, ↓catchK_nx, ↓catchK_rt, ↓catchK_exc, unset_rt, hush_rt, hush_nx, hush_ct, fin_exc, ↓bindK_ok, ↓outK_ok, ↓bindK_exc, ↓outK_exc, ↓thenK_nx, ↓thenK_rt, ↓thenK_exc, ↓thenK_bk, ↓thenK_ct, ↓optRK_some, ↓quiet_ok, ↓condK_t, ↓condK_f, ↓truth_bl, qE_slot, qE_isx, qE_k, qE_glob, qE_bin, qE_neg, qE_not, qE_and, qE_or, qE_cmp, qE_chain, qE_ife, qE_ix, qE_slc, qE_rev, qE_tup, qE_lst, qE_call, qE_bi, qE_isi, qE_meth, qE_lc, qE_smeth, qE_get2, qE_setd, qE_dnew, qEs_nil, qEs_cons, qAll_nil, qAll_cons, qO_no, qO_some, qI_seq, qI_range1, qI_range2, qI_range3, qI_zip, qI_enum, qI_rev, qT_name, qT_tup, qT_sub, qTs_nil, qTs_cons, qS_asg, qS_par, qS_aug, qS_ife, qS_for, qS_forD, qS_while, qS_ret, qS_retN, qS_drop, qS_pass, qS_brk, qS_cont, qS_raise, qS_try, qS_pick, qSs_nil, qSs_cons, dv_int, dv_bl, dv_str, dv_non, List.getElem?_cons_zero, List.getElem?_cons_succ, List.set_cons_zero, List.set_cons_succ, List.length_cons, List.length_nil, Nat.reduceAdd, Nat.reduceLT, if_true, fin_rt, fin_nx, at_0, at_1, at_2, at_3, itemV_ref, itemV_tup, cmp_eq_int, cmp_ne_int, cmp_lt_int, cmp_le_int, cmp_gt_int, cmp_ge_int, bin_add, bin_sub, bi_int_int, Ex.tl, call_17, b17, q_number_load, q_number_pick, q_number_guard, q_number_apply, q_number_put, q_number_copy, q_number_loop, q_number_when, q_index_load, q_index_pick, q_index_guard, q_index_apply, q_index_put, q_index_copy, q_index_loop, q_index_when, q_load_load, q_load_pick, q_load_guard, q_load_apply, q_load_put, q_load_copy, q_load_loop, q_load_when, q_pick_load, q_pick_pick, q_pick_guard, q_pick_apply, q_pick_put, q_pick_copy, q_pick_loop, q_pick_when, q_guard_load, q_guard_pick, q_guard_guard, q_guard_apply, q_guard_put, q_guard_copy, q_guard_loop, q_guard_when, q_apply_load, q_apply_pick, q_apply_guard, q_apply_apply, q_apply_put, q_apply_copy, q_apply_loop, q_apply_when, q_put_load, q_put_pick, q_put_guard, q_put_apply, q_put_put, q_put_copy, q_put_loop, q_put_when, q_copy_load, q_copy_pick, q_copy_guard, q_copy_apply, q_copy_put, q_copy_copy, q_copy_loop, q_copy_when, q_loop_load, q_loop_pick, q_loop_guard, q_loop_apply, q_loop_put, q_loop_copy, q_loop_loop, q_loop_when, q_when_load, q_when_pick, q_when_guard, q_when_apply, q_when_put, q_when_copy, q_when_loop, q_when_when, i_number, i_index, i_load, i_pick, i_guard, i_apply, i_put, i_copy, i_loop, i_when, e1, Bool.true_or]
    | false =>
      rw [hj] at e1
      obtain ⟨s2, e2, D2, K2⟩ := in_ok b K i s1 (by omega) D1
      refine ⟨s2, ?_, D2, K1.trans K2⟩
      simp -implicitDefEqProofs -dsimp only [↓bind_K, ↓out_K, ↓then_K, ↓optR_K, ↓cond_K, ↓forL_K, ↓lcL_K, ↓whileL_K, ↓catch_K, ↓catchK_nx, ↓catchK_rt, ↓catchK_exc, unset_rt, hush_rt, hush_nx, hush_ct, fin_exc, ↓bindK_ok, ↓outK_ok, ↓bindK_exc, ↓outK_exc, ↓thenK_nx, ↓thenK_rt, ↓thenK_exc, ↓thenK_bk, ↓thenK_ct, ↓optRK_some, ↓quiet_ok, ↓condK_t, ↓condK_f, ↓truth_bl, qE_slot, qE_isx, qE_k, qE_glob, qE_bin, qE_neg, qE_not, qE_and, qE_or, qE_cmp, qE_chain, qE_ife, qE_ix, qE_slc, qE_rev, qE_tup, qE_lst, qE_call, qE_bi, qE_isi, qE_meth, qE_lc, qE_smeth, qE_get2, qE_setd, qE_dnew, qEs_nil, qEs_cons, qAll_nil, qAll_cons, qO_no, qO_some, qI_seq, qI_range1, qI_range2, qI_range3, qI_zip, qI_enum, qI_rev, qT_name, qT_tup, qT_sub, qTs_nil, qTs_cons, qS_asg, qS_par, qS_aug, qS_ife, qS_for, qS_forD, qS_while, qS_ret, qS_retN, qS_drop, qS_pass, qS_brk, qS_cont, qS_raise, qS_try, qS_pick, qSs_nil, qSs_cons, dv_int, dv_bl, dv_str, dv_non, List.getElem?_cons_zero, List.getElem?_cons_succ, List.set_cons_zero, List.set_cons_succ, List.length_cons, List.length_nil, Nat.reduceAdd, Nat.reduceLT, if_true, fin_rt, fin_nx, at_0, at_1, at_2, at_3, itemV_ref, itemV_tup, cmp_eq_int, cmp_ne_int, cmp_lt_int, cmp_le_int, cmp_gt_int, cmp_ge_int, bin_add, bin_sub, bi_int_int, Ex.tl, call_17, b17, q_number_load, q_number_pick, q_number_guard, q_number_apply, q_number_put, q_number_copy, q_number_loop, q_number_when, q_index_load, q_index_pick, q_index_guard, q_index_apply, q_index_put, q_index_copy, q_index_loop, q_index_when, q_load_load, q_load_pick, q_load_guard, q_load_apply, q_load_put, q_load_copy, q_load_loop, q_load_when, q_pick_load, q_pick_pick, q_pick_guard, q_pick_apply, q_pick_put, q_pick_copy, q_pick_loop, q_pick_when, q_guard_load, q_guard_pick, q_guard_guard, q_guard_apply, q_guard_put, q_guard_copy, q_guard_loop, q_guard_when, q_apply_load, q_apply_pick, q_apply_guard, q_apply_apply, q_apply_put, q_apply_copy, q_apply_loop, q_apply_when, q_put_load, q_put_pick, q_put_guard, q_put_apply, q_put_put, q_put_copy, q_put_loop, q_put_when, q_copy_load, q_copy_pick, q_copy_guard, q_copy_apply, q_copy_put, q_copy_copy, q_copy_loop, q_copy_when, q_loop_load, q_loop_pick, q_loop_guard, q_loop_apply, q_loop_put, q_loop_copy, q_loop_loop, q_loop_when, q_when_load, q_when_pick, q_when_guard, q_when_apply, q_when_put, q_when_copy, q_when_loop, q_when_when, i_number, i_index, i_load, i_pick, i_guard, i_apply, i_put, i_copy, i_loop, i_when, e1, e2, Bool.false_or]
  | .app1 zz a x, K, i, s, hK, D => by
    have h2 := a.ht2
    have hK : a.ht + 1 ≤ K := hK
    obtain ⟨K, rfl⟩ : ∃ K', K = K' + 1 := ⟨K - 1, by omega⟩
    obtain ⟨s1, e1, D1, K1⟩ := any_parts (d := d) (K := K) (f := 17) (slot := 2) (c := .ix (.slot 0) (.k (.int 2))) (i := i) (r := [some (.tup (Ex.app1 zz a x).tl), some (.int i), none]) (s := s) [(a.tl, a.uses i)] (by simp) (by simp -implicitDefEqProofs -dsimp only [↓bind_K, ↓out_K, ↓then_K, ↓optR_K, ↓cond_K, ↓forL_K, ↓lcL_K, ↓whileL_K, ↓catch_K, ↓catchK_nx, ↓catchK_rt, ↓catchK_exc, unset_rt, hush_rt, hush_nx, hush_ct, fin_exc, ↓bindK_ok, ↓outK_ok, ↓bindK_exc, ↓outK_exc, ↓thenK_nx, ↓thenK_rt, ↓thenK_exc, ↓thenK_bk, ↓thenK_ct, ↓optRK_some, ↓quiet_ok, ↓condK_t, ↓condK_f, ↓truth_bl, qE_slot, qE_isx, qE_k, qE_glob, qE_bin, qE_neg, qE_not, qE_and, qE_or, qE_cmp, qE_chain, qE_ife, qE_ix, qE_slc, qE_rev, qE_tup, qE_lst, qE_call, qE_bi, qE_isi, qE_meth, qE_lc, qE_smeth, qE_get2, qE_setd, qE_dnew, qEs_nil, qEs_cons, qAll_nil, qAll_cons, qO_no, qO_some, qI_seq, qI_range1, qI_range2, qI_range3, qI_zip, qI_enum, qI_rev, qT_name, qT_tup, qT_sub, qTs_nil, qTs_cons, qS_asg, qS_par, qS_aug, qS_ife, qS_for, qS_forD, qS_while, qS_ret, qS_retN, qS_drop, qS_pass, qS_brk, qS_cont, qS_raise, qS_try, qS_pick, qSs_nil, qSs_cons, dv_int, dv_bl, dv_str, dv_non, List.getElem?_cons_zero, List.getElem?_cons_succ, List.set_cons_zero, List.set_cons_succ, List.length_cons, List.length_nil, Nat.reduceAdd, Nat.reduceLT, if_true, fin_rt, fin_nx, at_0, at_1, at_2, at_3, itemV_ref, itemV_tup, cmp_eq_int, cmp_ne_int, cmp_lt_int, cmp_le_int, cmp_gt_int, cmp_ge_int, bin_add, bin_sub, bi_int_int, Ex.tl, List.map_cons, List.map_nil]) D rfl (show 2 < 3 by decide) (by decide) (fun p hp s0 D0 => by
      rw [List.mem_singleton] at hp
      subst hp
      exact in_ok a K i s0 (by omega) D0)
    refine ⟨s1, ?_, D1, K1⟩
    simp only [List.map_cons, List.map_nil, List.any_cons, List.any_nil, id, Bool.or_false, Ex.tl] at e1
    simp -implicitDefEqProofs -dsimp only [↓bind_K, ↓out_K, ↓then_K, ↓optR_K, ↓cond_K, ↓forL_K, ↓lcL_K, ↓whileL_K, ↓catch_K, ↓catchK_nx, ↓catchK_rt, ↓catchK_exc, unset_rt, hush_rt, hush_nx, hush_ct, fin_exc, ↓bindK_ok, ↓outK_ok, ↓bindK_exc, ↓outK_exc, ↓thenK_nx, ↓thenK_rt, ↓thenK_exc, ↓thenK_bk, ↓thenK_ct, ↓optRK_some, ↓quiet_ok, ↓condK_t, ↓condK_f, ↓truth_bl, qE_slot, qE_isx, qE_k, qE_glob, qE_bin, qE_neg, qE_not, qE_and, qE_or, qE_cmp, qE_chain, qE_ife, qE_ix, qE_slc, qE_rev, qE_tup, qE_lst, qE_call, qE_bi, qE_isi, qE_meth, qE_lc, qE_smeth, qE_get2, qE_setd, qE_dnew, qEs_nil, qEs_cons, qAll_nil, qAll_cons, qO_no, qO_some, qI_seq, qI_range1, qI_range2, qI_range3, qI_zip, qI_enum, qI_rev, qT_name, qT_tup, qT_sub, qTs_nil, qTs_cons, qS_asg, qS_par, qS_aug, qS_ife, qS_for, qS_forD, qS_while, qS_ret, qS_retN, qS_drop, qS_pass, qS_brk, qS_cont, qS_raise, qS_try, qS_pick, qSs_nil, qSs_cons, dv_int, dv_bl, dv_str, dv_non, List.getElem?_cons_zero, List.getElem?_cons_succ, List.set_cons_zero, List.set_cons_succ, List.length_cons, List.length_nil, Nat.reduceAdd, Nat.reduceLT, if_true, fin_rt, fin_nx, at_0, at_1, at_2, at_3, itemV_ref, itemV_tup, cmp_eq_int, cmp_ne_int, cmp_lt_int, cmp_le_int, cmp_gt_int, cmp_ge_int, bin_add, bin_sub, bi_int_int, Ex.tl, call_17, b17, q_number_load, q_number_pick, q_number_guard, q_number_apply, q_number_put, q_number_copy, q_number_loop, q_number_when, q_index_load, q_index_pick, q_index_guard, q_index_apply, q_index_put, q_index_copy, q_index_loop, q_index_when, q_load_load, q_load_pick, q_load_guard, q_load_apply, q_load_put, q_load_copy, q_load_loop, q_load_when, q_pick_load, q_pick_pick, q_pick_guard, q_pick_apply, q_pick_put, q_pick_copy, q_pick_loop, q_pick_when, q_guard_load, q_guard_pick, q_guard_guard, q_guard_apply, q_guard_put, q_guard_copy, q_guard_loop, q_guard_when, q_apply_load, q_apply_pick, q_apply_guard, q_apply_apply, q_apply_put, q_apply_copy, q_apply_loop, q_apply_when, q_put_load, q_put_pick, q_put_guard, q_put_apply, q_put_put, q_put_copy, q_put_loop, q_put_when, q_copy_load, q_copy_pick, q_copy_guard, q_copy_apply, q_copy_put, q_copy_copy, q_copy_loop, q_copy_when, q_loop_load, q_loop_pick, q_loop_guard, q_loop_apply, q_loop_put, q_loop_copy, q_loop_loop, q_loop_when, q_when_load, q_when_pick, q_when_guard, q_when_apply, q_when_put, q_when_copy, q_when_loop, q_when_when, i_number, i_index, i_load, i_pick, i_guard, i_apply, i_put, i_copy, i_loop, i_when, ↓e1, Ex.uses]
  | .app2 zz a b x, K, i, s, hK, D => by
    have h2 := a.ht2
    have hK : max a.ht b.ht + 1 ≤ K := hK
    obtain ⟨K, rfl⟩ : ∃ K', K = K' + 1 := ⟨K - 1, by omega⟩
    obtain ⟨s1, e1, D1, K1⟩ := any_parts (d := d) (K := K) (f := 17) (slot := 2) (c := .ix (.slot 0) (.k (.int 2))) (i := i) (r := [some (.tup (Ex.app2 zz a b x).tl), some (.int i), none]) (s := s) [(a.tl, a.uses i), (b.tl, b.uses i)] (by simp) (by simp -implicitDefEqProofs -dsimp only [↓bind_K, ↓out_K, ↓then_K, ↓optR_K, ↓cond_K, ↓forL_K, ↓lcL_K, ↓whileL_K, ↓catch_K, ↓catchK_nx, ↓catchK_rt, ↓catchK_exc, unset_rt, hush_rt, hush_nx, hush_ct, fin_exc, ↓bindK_ok, ↓outK_ok, ↓bindK_exc, ↓outK_exc, ↓thenK_nx, ↓thenK_rt, ↓thenK_exc, ↓thenK_bk, ↓thenK_ct, ↓optRK_some, ↓quiet_ok, ↓condK_t, ↓condK_f, ↓truth_bl, qE_slot, qE_isx, qE_k, qE_glob, qE_bin, qE_neg, qE_not, qE_and, qE_or, qE_cmp, qE_chain, qE_ife, qE_ix, qE_slc, qE_rev, qE_tup, qE_lst, qE_call, qE_bi, qE_isi, qE_meth, qE_lc, qE_smeth, qE_get2, qE_setd, qE_dnew, qEs_nil, qEs_cons, qAll_nil, qAll_cons, qO_no, qO_some, qI_seq, qI_range1, qI_range2, qI_range3, qI_zip, qI_enum, qI_rev, qT_name, qT_tup, qT_sub, qTs_nil, qTs_cons, qS_asg, qS_par, qS_aug, qS_ife, qS_for, qS_forD, qS_while, qS_ret, qS_retN, qS_drop, qS_pass, qS_brk, qS_cont, qS_raise, qS_try, qS_pick, qSs_nil, qSs_cons, dv_int, dv_bl, dv_str, dv_non, List.getElem?_cons_zero, List.getElem?_cons_succ, List.set_cons_zero, List.set_cons_succ, List.length_cons, List.length_nil, Nat.reduceAdd, Nat.reduceLT, if_true, fin_rt, fin_nx, at_0, at_1, at_2, at_3, itemV_ref, itemV_tup, cmp_eq_int, cmp_ne_int, cmp_lt_int, cmp_le_int, cmp_gt_int, cmp_ge_int, bin_add, bin_sub, bi_int_int, Ex.tl, List.map_cons, List.map_nil]) D rfl (show 2 < 3 by decide) (by decide) (fun p hp s0 D0 => by
      rcases List.mem_cons.mp hp with rfl | hp
      · exact in_ok a K i s0 (by omega) D0
      rw [List.mem_singleton] at hp
      subst hp
      exact in_ok b K i s0 (by omega) D0)
    refine ⟨s1, ?_, D1, K1⟩
    simp only [List.map_cons, List.map_nil, List.any_cons, List.any_nil, id, Bool.or_false, Ex.tl] at e1
    simp -implicitDefEqProofs -dsimp only [↓bind_K, ↓out_K, ↓then_K, ↓optR_K, ↓cond_K, ↓forL_K, ↓lcL_K, ↓whileL_K, ↓catch_K, ↓catchK_nx, ↓catchK_rt, ↓catchK_exc, unset_rt, hush_rt, hush_nx, hush_ct, fin_exc, ↓bindK_ok, ↓outK_ok, ↓bindK_exc, ↓outK_exc, ↓thenK_nx, ↓thenK_rt, ↓thenK_exc, ↓thenK_bk, ↓thenK_ct, ↓optRK_some, ↓quiet_ok, ↓condK_t, ↓condK_f, ↓truth_bl, qE_slot, qE_isx, qE_k, qE_glob, qE_bin, qE_neg, qE_not, qE_and, qE_or, qE_cmp, qE_chain, qE_ife, qE_ix, qE_slc, qE_rev, qE_tup, qE_lst, qE_call, qE_bi, qE_isi, qE_meth, qE_lc, qE_smeth, qE_get2, qE_setd, qE_dnew, qEs_nil, qEs_cons, qAll_nil, qAll_cons, qO_no, qO_some, qI_seq, qI_range1, qI_range2, qI_range3, qI_zip, qI_enum, qI_rev, qT_name, qT_tup, qT_sub, qTs_nil, qTs_cons, qS_asg, qS_par, qS_aug, qS_ife, qS_for, qS_forD, qS_while, qS_ret, qS_retN, qS_drop, qS_pass, qS_brk, qS_cont, qS_raise, qS_try, qS_pick, qSs_nil, qSs_cons, dv_int, dv_bl, dv_str, dv_non, List.getElem?_cons_zero, List.getElem?_cons_succ, List.set_cons_zero, List.set_cons_succ, List.length_cons, List.length_nil, Nat.reduceAdd, Nat.reduceLT, if_true, fin_rt, fin_nx, at_0, at_1, at_2, at_3, itemV_ref, itemV_tup, cmp_eq_int, cmp_ne_int, cmp_lt_int, cmp_le_int, cmp_gt_int, cmp_ge_int, bin_add, bin_sub, bi_int_int, Ex.tl, call_17, b17, q_number_load, q_number_pick, q_number_guard, q_number_apply, q_number_put, q_number_copy, q_number_loop, q_number_when, q_index_load, q_index_pick, q_index_guard, q_index_apply, q_index_put, q_index_copy, q_index_loop, q_index_when, q_load_load, q_load_pick, q_load_guard, q_load_apply, q_load_put, q_load_copy, q_load_loop, q_load_when, q_pick_load, q_pick_pick, q_pick_guard, q_pick_apply, q_pick_put, q_pick_copy, q_pick_loop, q_pick_when, q_guard_load, q_guard_pick, q_guard_guard, q_guard_apply, q_guard_put, q_guard_copy, q_guard_loop, q_guard_when, q_apply_load, q_apply_pick, q_apply_guard, q_apply_apply, q_apply_put, q_apply_copy, q_apply_loop, q_apply_when, q_put_load, q_put_pick, q_put_guard, q_put_apply, q_put_put, q_put_copy, q_put_loop, q_put_when, q_copy_load, q_copy_pick, q_copy_guard, q_copy_apply, q_copy_put, q_copy_copy, q_copy_loop, q_copy_when, q_loop_load, q_loop_pick, q_loop_guard, q_loop_apply, q_loop_put, q_loop_copy, q_loop_loop, q_loop_when, q_when_load, q_when_pick, q_when_guard, q_when_apply, q_when_put, q_when_copy, q_when_loop, q_when_when, i_number, i_index, i_load, i_pick, i_guard, i_apply, i_put, i_copy, i_loop, i_when, ↓e1, Ex.uses]
  | .app3 zz a b c x, K, i, s, hK, D => by
    have h2 := a.ht2
    have hK : max a.ht (max b.ht c.ht) + 1 ≤ K := hK
    obtain ⟨K, rfl⟩ : ∃ K', K = K' + 1 := ⟨K - 1, by omega⟩
    obtain ⟨s1, e1, D1, K1⟩ := any_parts (d := d) (K := K) (f := 17) (slot := 2) (c := .ix (.slot 0) (.k (.int 2))) (i := i) (r := [some (.tup (Ex.app3 zz a b c x).tl), some (.int i), none]) (s := s) [(a.tl, a.uses i), (b.tl, b.uses i), (c.tl, c.uses i)] (by simp) (by simp -implicitDefEqProofs -dsimp only [↓bind_K, ↓out_K, ↓then_K, ↓optR_K, ↓cond_K, ↓forL_K, ↓lcL_K, ↓whileL_K, ↓catch_K, ↓catchK_nx, ↓catchK_rt, ↓catchK_exc, unset_rt, hush_rt, hush_nx, hush_ct, fin_exc, ↓bindK_ok, ↓outK_ok, ↓bindK_exc, ↓outK_exc, ↓thenK_nx, ↓thenK_rt, ↓thenK_exc, ↓thenK_bk, ↓thenK_ct, ↓optRK_some, ↓quiet_ok, ↓condK_t, ↓condK_f, ↓truth_bl, qE_slot, qE_isx, qE_k, qE_glob, qE_bin, qE_neg, qE_not, qE_and, qE_or, qE_cmp, qE_chain, qE_ife, qE_ix, qE_slc, qE_rev, qE_tup, qE_lst, qE_call, qE_bi, qE_isi, qE_meth, qE_lc, qE_smeth, qE_get2, qE_setd, qE_dnew, qEs_nil, qEs_cons, qAll_nil, qAll_cons, qO_no, qO_some, qI_seq, qI_range1, qI_range2, qI_range3, qI_zip, qI_enum, qI_rev, qT_name, qT_tup, qT_sub, qTs_nil, qTs_cons, qS_asg, qS_par, qS_aug, qS_ife, qS_for, qS_forD, qS_while, qS_ret, qS_retN, qS_drop, qS_pass, qS_brk, qS_cont, qS_raise, qS_try, qS_pick, qSs_nil, qSs_cons, dv_int, dv_bl, dv_str, dv_non, List.getElem?_cons_zero, List.getElem?_cons_succ, List.set_cons_zero, List.set_cons_succ, List.length_cons, List.length_nil, Nat.reduceAdd, Nat.reduceLT, if_true, fin_rt, fin_nx, at_0, at_1, at_2, at_3, itemV_ref, itemV_tup, cmp_eq_int, cmp_ne_int, cmp_lt_int, cmp_le_int, cmp_gt_int, cmp_ge_int, bin_add, bin_sub, bi_int_int, Ex.tl, List.map_cons, List.map_nil]) D rfl (show 2 < 3 by decide) (by decide) (fun p hp s0 D0 => by
      rcases List.mem_cons.mp hp with rfl | hp
      · exact in_ok a K i s0 (by omega) D0
      rcases List.mem_cons.mp hp with rfl | hp
      · exact in_ok b K i s0 (by omega) D0
      rw [List.mem_singleton] at hp
      subst hp
      exact in_ok c K i s0 (by omega) D0)
    refine ⟨s1, ?_, D1, K1⟩
    simp only [List.map_cons, List.map_nil, List.any_cons, List.any_nil, id, Bool.or_false, Ex.tl] at e1
    simp -implicitDefEqProofs -dsimp only [↓bind_K, ↓out_K, ↓then_K, ↓optR_K, ↓cond_K, ↓forL_K, ↓lcL_K, ↓whileL_K, ↓catch_K, ↓catchK_nx, ↓catchK_rt, ↓catchK_exc, unset_rt, hush_rt, hush_nx, hush_ct, fin_exc, ↓bindK_ok, ↓outK_ok, ↓bindK_exc, ↓outK_exc, ↓thenK_nx, ↓thenK_rt, ↓thenK_exc, ↓thenK_bk, ↓thenK_ct, ↓optRK_some, ↓quiet_ok, ↓condK_t, ↓condK_f, ↓truth_bl, qE_slot, qE_isx, qE_k, qE_glob, qE_bin, qE_neg, qE_not, qE_and, qE_or, qE_cmp, qE_chain, qE_ife, qE_ix, qE_slc, qE_rev, qE_tup, qE_lst, qE_call, qE_bi, qE_isi, qE_meth, qE_lc, qE_smeth, qE_get2, qE_setd, qE_dnew, qEs_nil, qEs_cons, qAll_nil, qAll_cons, qO_no, qO_some, qI_seq, qI_range1, qI_range2, qI_range3, qI_zip, qI_enum, qI_rev, qT_name, qT_tup, qT_sub, qTs_nil, qTs_cons, qS_asg, qS_par, qS_aug, qS_ife, qS_for, qS_forD, qS_while, qS_ret, qS_retN, qS_drop, qS_pass, qS_brk, qS_cont, qS_raise, qS_try, qS_pick, qSs_nil, qSs_cons, dv_int, dv_bl, dv_str, dv_non, List.getElem?_cons_zero, List.getElem?_cons_succ, List.set_cons_zero, List.set_cons_succ, List.length_cons, List.length_nil, Nat.reduceAdd, Nat.reduceLT, if_true, fin_rt, fin_nx, at_0, at_1, at_2, at_3, itemV_ref, itemV_tup, cmp_eq_int, cmp_ne_int, cmp_lt_int, cmp_le_int, cmp_gt_int, cmp_ge_int, bin_add, bin_sub, bi_int_int, Ex.tl, call_17, b17, q_number_load, q_number_pick, q_number_guard, q_number_apply, q_number_put, q_number_copy, q_number_loop, q_number_when, q_index_load, q_index_pick, q_index_guard, q_index_apply, q_index_put, q_index_copy, q_index_loop, q_index_when, q_load_load, q_load_pick, q_load_guard, q_load_apply, q_load_put, q_load_copy, q_load_loop, q_load_when, q_pick_load, q_pick_pick, q_pick_guard, q_pick_apply, q_pick_put, q_pick_copy, q_pick_loop, q_pick_when, q_guard_load, q_guard_pick, q_guard_guard, q_guard_apply, q_guard_put, q_guard_copy, q_guard_loop, q_guard_when, q_apply_load, q_apply_pick, q_apply_guard, q_apply_apply, q_apply_put, q_apply_copy, q_apply_loop, q_apply_when, q_put_load, q_put_pick, q_put_guard, q_put_apply, q_put_put, q_put_copy, q_put_loop, q_put_when, q_copy_load, q_copy_pick, q_copy_guard, q_copy_apply, q_copy_put, q_copy_copy, q_copy_loop, q_copy_when, q_loop_load, q_loop_pick, q_loop_guard, q_loop_apply, q_loop_put, q_loop_copy, q_loop_loop, q_loop_when, q_when_load, q_when_pick, q_when_guard, q_when_apply, q_when_put, q_when_copy, q_when_loop, q_when_when, i_number, i_index, i_load, i_pick, i_guard, i_apply, i_put, i_copy, i_loop, i_when, ↓e1, Ex.uses]
theorem m1_6 {α : Type} {a b c d e f : α} : L2.atI [a, b, c, d, e, f] (-1) = some f := by simp [L2.atI, L2.ixN]
theorem m1_3 {α : Type} {a b c : α} : L2.atI [a, b, c] (-1) = some c := by simp [L2.atI, L2.ixN]
theorem ins_ok : ∀ (t : Sn) (K : Nat) (i : Int) (s : Store), t.ht ≤ K → Dr s d → ∃ s', callAt Dt Gt subt K 18 [.tup t.tl, .int i] s = .ok (.bl (t.uses i)) s' ∧ Dr s' d ∧ Kp d s s'
  | .put j x e, K, i, s, hK, D => by
    have h2 := e.ht2
    have hK : e.ht + 1 ≤ K := hK
    obtain ⟨K, rfl⟩ : ∃ K', K = K' + 1 := ⟨K - 1, by omega⟩
    obtain ⟨s1, e1, D1, K1⟩ := in_ok e K i s (by omega) D
    have z2 := z_le 2 (by decide)
    rw [show (Sn.put j x e).uses i = (j == i || e.uses i) from rfl]
    cases hj : (j == i) with
    | true =>
      refine ⟨s, ?_, D, Kp.refl⟩
      simp -implicitDefEqProofs -dsimp only [↓bind_K, ↓out_K, ↓then_K, ↓optR_K, ↓cond_K, ↓forL_K, ↓lcL_K, ↓whileL_K, ↓catch_K, ↓catchK_nx, ↓catchK_rt, ↓catchK_exc, unset_rt, hush_rt, hush_nx, hush_ct, fin_exc, ↓bindK_ok, ↓outK_ok, ↓bindK_exc, ↓outK_exc, ↓thenK_nx, ↓thenK_rt, ↓thenK_exc, ↓thenK_bk, ↓thenK_ct, ↓optRK_some, ↓quiet_ok, ↓condK_t, ↓condK_f, ↓truth_bl, qE_slot, qE_isx, qE_k, qE_glob, qE_bin, qE_neg, qE_not, qE_and, qE_or, qE_cmp, qE_chain, qE_ife, qE_ix, qE_slc, qE_rev, qE_tup, qE_lst, qE_call, qE_bi, qE_isi, qE_meth, qE_lc, qE_smeth, qE_get2, qE_setd, qE_dnew, qEs_nil, qEs_cons, qAll_nil, qAll_cons, qO_no, qO_some, qI_seq, qI_range1, qI_range2, qI_range3, qI_zip, qI_enum, qI_rev, qT_name, qT_tup, qT_sub, qTs_nil, qTs_cons, qS_asg, qS_par, qS_aug, qS_ife, qS_for, qS_forD, qS_while, qS_ret, qS_retN, qS_drop, qS_pass, qS_brk, qS_cont, qS_raise, qS_try, qS_pick, qSs_nil, qSs_cons, dv_int, dv_bl, dv_str, dv_non, List.getElem?_cons_zero, List.getElem?_cons_succ, List.set_cons_zero, List.set_cons_succ, List.length_cons, List.length_nil, Nat.reduceAdd, Nat.reduceLT, if_true, fin_rt, fin_nx, at_0, at_1, at_2, at_3, itemV_ref, itemV_tup, cmp_eq_int, cmp_ne_int, cmp_lt_int, cmp_le_int, cmp_gt_int, cmp_ge_int, bin_add, bin_sub, bi_int_int, Sn.tl, call_18, b18, q_number_load, q_number_pick, q_number_guard, q_number_apply, q_number_put, q_number_copy, q_number_loop, q_number_when, q_index_load, q_index_pick, q_index_guard, q_index_apply, q_index_put, q_index_copy, q_index_loop, q_index_when, q_load_load, q_load_pick, q_load_guard, q_load_apply, q_load_put, q_load_copy, q_load_loop, q_load_when, q_pick_load, q_pick_pick, q_pick_guard, q_pick_apply, q_pick_put, q_pick_copy, q_pick_loop, q_pick_when, q_guard_load, q_guard_pick, q_guard_guard, q_guard_apply, q_guard_put, q_guard_copy, q_guard_loop, q_guard_when, q_apply_load, q_apply_pick, q_apply_guard, q_apply_apply, q_apply_put, q_apply_copy, q_apply_loop, q_apply_when, q_put_load, q_put_pick, q_put_guard, q_put_apply, q_put_put, q_put_copy, q_put_loop, q_put_when, q_copy_load, q_copy_pick, q_copy_guard, q_copy_apply, q_copy_put, q_copy_copy, q_copy_loop, q_copy_when, q_loop_load, q_loop_pick, q_loop_guard, q_loop_apply, q_loop_put, q_loop_copy, q_loop_loop, q_loop_when, q_when_load, q_when_pick, q_when_guard, q_when_apply, q_when_put, q_when_copy, q_when_loop, q_when_when, i_number, i_index, i_load, i_pick, i_guard, i_apply, i_put, i_copy, i_loop, i_when, hj, Bool.true_or, z2]
    | false =>
      refine ⟨s1, ?_, D1, K1⟩
      simp -implicitDefEqProofs -dsimp only [↓bind_K, ↓out_K, ↓then_K, ↓optR_K, ↓cond_K, ↓forL_K, ↓lcL_K, ↓whileL_K, ↓catch_K, ↓catchK_nx, ↓catchK_rt, ↓catchK_exc, unset_rt, hush_rt, hush_nx, hush_ct, fin_exc, ↓bindK_ok, ↓outK_ok, ↓bindK_exc, ↓outK_exc, ↓thenK_nx, ↓thenK_rt, ↓thenK_exc, ↓thenK_bk, ↓thenK_ct, ↓optRK_some, ↓quiet_ok, ↓condK_t, ↓condK_f, ↓truth_bl, qE_slot, qE_isx, qE_k, qE_glob, qE_bin, qE_neg, qE_not, qE_and, qE_or, qE_cmp, qE_chain, qE_ife, qE_ix, qE_slc, qE_rev, qE_tup, qE_lst, qE_call, qE_bi, qE_isi, qE_meth, qE_lc, qE_smeth, qE_get2, qE_setd, qE_dnew, qEs_nil, qEs_cons, qAll_nil, qAll_cons, qO_no, qO_some, qI_seq, qI_range1, qI_range2, qI_range3, qI_zip, qI_enum, qI_rev, qT_name, qT_tup, qT_sub, qTs_nil, qTs_cons, qS_asg, qS_par, qS_aug, qS_ife, qS_for, qS_forD, qS_while, qS_ret, qS_retN, qS_drop, qS_pass, qS_brk, qS_cont, qS_raise, qS_try, qS_pick, qSs_nil, qSs_cons, dv_int, dv_bl, dv_str, dv_non, List.getElem?_cons_zero, List.getElem?_cons_succ, List.set_cons_zero, List.set_cons_succ, List.length_cons, List.length_nil, Nat.reduceAdd, Nat.reduceLT, if_true, fin_rt, fin_nx, at_0, at_1, at_2, at_3, itemV_ref, itemV_tup, cmp_eq_int, cmp_ne_int, cmp_lt_int, cmp_le_int, cmp_gt_int, cmp_ge_int, bin_add, bin_sub, bi_int_int, Sn.tl, call_18, b18, q_number_load, q_number_pick, q_number_guard, q_number_apply, q_number_put, q_number_copy, q_number_loop, q_number_when, q_index_load, q_index_pick, q_index_guard, q_index_apply, q_index_put, q_index_copy, q_index_loop, q_index_when, q_load_load, q_load_pick, q_load_guard, q_load_apply, q_load_put, q_load_copy, q_load_loop, q_load_when, q_pick_load, q_pick_pick, q_pick_guard, q_pick_apply, q_pick_put, q_pick_copy, q_pick_loop, q_pick_when, q_guard_load, q_guard_pick, q_guard_guard, q_guard_apply, q_guard_put, q_guard_copy, q_guard_loop, q_guard_when, q_apply_load, q_apply_pick, q_apply_guard, q_apply_apply, q_apply_put, q_apply_copy, q_apply_loop, q_apply_when, q_put_load, q_put_pick, q_put_guard, q_put_apply, q_put_put, q_put_copy, q_put_loop, q_put_when, q_copy_load, q_copy_pick, q_copy_guard, q_copy_apply, q_copy_put, q_copy_copy, q_copy_loop, q_copy_when, q_loop_load, q_loop_pick, q_loop_guard, q_loop_apply, q_loop_put, q_loop_copy, q_loop_loop, q_loop_when, q_when_load, q_when_pick, q_when_guard, q_when_apply, q_when_put, q_when_copy, q_when_loop, q_when_when, i_number, i_index, i_load, i_pick, i_guard, i_apply, i_put, i_copy, i_loop, i_when, hj, e1, Bool.false_or, z2]
  | .copy a x b y c, K, i, s, hK, D => by
    obtain ⟨K, rfl⟩ : ∃ K', K = K' + 1 := ⟨K - 1, by have : 3 ≤ K := hK; omega⟩
    have z2 := z_le 2 (by decide)
    refine ⟨s, ?_, D, Kp.refl⟩
    rw [show (Sn.copy a x b y c).uses i = (a == i || b == i) from rfl]
    cases hj : (a == i) with
    | true => simp -implicitDefEqProofs -dsimp only [↓bind_K, ↓out_K, ↓then_K, ↓optR_K, ↓cond_K, ↓forL_K, ↓lcL_K, ↓whileL_K, ↓catch_K, ↓catchK_nx, ↓catchK_rt, ↓catchK_exc, unset_rt, hush_rt, hush_nx, hush_ct, fin_exc, ↓bindK_ok, ↓outK_ok, ↓bindK_exc, ↓outK_exc, ↓thenK_nx, ↓thenK_rt, ↓thenK_exc, ↓thenK_bk, ↓thenK_ct, ↓optRK_some, ↓quiet_ok, ↓condK_t, ↓condK_f, ↓truth_bl, qE_slot, qE_isx, qE_k, qE_glob, qE_bin, qE_neg, qE_not, qE_and, qE_or, qE_cmp, qE_chain, qE_ife, qE_ix, qE_slc, qE_rev, qE_tup, qE_lst, qE_call, qE_bi, qE_isi, qE_meth, qE_lc, qE_smeth, qE_get2, qE_setd, qE_dnew, qEs_nil, qEs_cons, qAll_nil, qAll_cons, qO_no, qO_some, qI_seq, qI_range1, qI_range2, qI_range3, qI_zip, qI_enum, qI_rev, qT_name, qT_tup, qT_sub, qTs_nil, qTs_cons, qS_asg, qS_par, qS_aug, qS_ife, qS_for, qS_forD, qS_while, qS_ret, qS_retN, qS_drop, qS_pass, qS_brk, qS_cont, qS_raise, qS_try, qS_pick, qSs_nil, qSs_cons, dv_int, dv_bl, dv_str, dv_non, List.getElem?_cons_zero, List.getElem?_cons_succ, List.set_cons_zero, List.set_cons_succ, List.length_cons, List.length_nil, Nat.reduceAdd, Nat.reduceLT, if_true, fin_rt, fin_nx, at_0, at_1, at_2, at_3, itemV_ref, itemV_tup, cmp_eq_int, cmp_ne_int, cmp_lt_int, cmp_le_int, cmp_gt_int, cmp_ge_int, bin_add, bin_sub, bi_int_int, Sn.tl, call_18, b18, q_number_load, q_number_pick, q_number_guard, q_number_apply, q_number_put, q_number_copy, q_number_loop, q_number_when, q_index_load, q_index_pick, q_index_guard, q_index_apply, q_index_put, q_index_copy, q_index_loop, q_index_when, q_load_load, q_load_pick, q_load_guard, q_load_apply, q_load_put, q_load_copy, q_load_loop, q_load_when, q_pick_load, q_pick_pick, q_pick_guard, q_pick_apply, q_pick_put, q_pick_copy, q_pick_loop, q_pick_when, q_guard_load, q_guard_pick, q_guard_guard, q_guard_apply, q_guard_put, q_guard_copy, q_guard_loop, q_guard_when, q_apply_load, q_apply_pick, q_apply_guard, q_apply_apply, q_apply_put, q_apply_copy, q_apply_loop, q_apply_when, q_put_load, q_put_pick, q_put_guard, q_put_apply, q_put_put, q_put_copy, q_put_loop, q_put_when, q_copy_load, q_copy_pick, q_copy_guard, q_copy_apply, q_copy_put, q_copy_copy, q_copy_loop, q_copy_when, q_loop_load, q_loop_pick, q_loop_guard, q_loop_apply, q_loop_put, q_loop_copy, q_loop_loop, q_loop_when, q_when_load, q_when_pick, q_when_guard, q_when_apply, q_when_put, q_when_copy, q_when_loop, q_when_when, i_number, i_index, i_load, i_pick, i_guard, i_apply, i_put, i_copy, i_loop, i_when, hj, Bool.true_or, z2]
    | false => simp -implicitDefEqProofs -dsimp only [↓bind_K, ↓out_K, ↓then_K, ↓optR_K, ↓cond_K, ↓forL_K, ↓lcL_K, ↓whileL_K, ↓catch_K, ↓catchK_nx, ↓catchK_rt, ↓catchK_exc, unset_rt, hush_rt, hush_nx, hush_ct, fin_exc, ↓bindK_ok, ↓outK_ok, ↓bindK_exc, ↓outK_exc, ↓thenK_nx, ↓thenK_rt, ↓thenK_exc, ↓thenK_bk, ↓thenK_ct, ↓optRK_some, ↓quiet_ok, ↓condK_t, ↓condK_f, ↓truth_bl, qE_slot, qE_isx, qE_k, qE_glob, qE_bin, qE_neg, qE_not, qE_and, qE_or, qE_cmp, qE_chain, qE_ife, qE_ix, qE_slc, qE_rev, qE_tup, qE_lst, qE_call, qE_bi, qE_isi, qE_meth, qE_lc, qE_smeth, qE_get2, qE_setd, qE_dnew, qEs_nil, qEs_cons, qAll_nil, qAll_cons, qO_no, qO_some, qI_seq, qI_range1, qI_range2, qI_range3, qI_zip, qI_enum, qI_rev, qT_name, qT_tup, qT_sub, qTs_nil, qTs_cons, qS_asg, qS_par, qS_aug, qS_ife, qS_for, qS_forD, qS_while, qS_ret, qS_retN, qS_drop, qS_pass, qS_brk, qS_cont, qS_raise, qS_try, qS_pick, qSs_nil, qSs_cons, dv_int, dv_bl, dv_str, dv_non, List.getElem?_cons_zero, List.getElem?_cons_succ, List.set_cons_zero, List.set_cons_succ, List.length_cons, List.length_nil, Nat.reduceAdd, Nat.reduceLT, if_true, fin_rt, fin_nx, at_0, at_1, at_2, at_3, itemV_ref, itemV_tup, cmp_eq_int, cmp_ne_int, cmp_lt_int, cmp_le_int, cmp_gt_int, cmp_ge_int, bin_add, bin_sub, bi_int_int, Sn.tl, call_18, b18, q_number_load, q_number_pick, q_number_guard, q_number_apply, q_number_put, q_number_copy, q_number_loop, q_number_when, q_index_load, q_index_pick, q_index_guard, q_index_apply, q_index_put, q_index_copy, q_index_loop, q_index_when, q_load_load, q_load_pick, q_load_guard, q_load_apply, q_load_put, q_load_copy, q_load_loop, q_load_when, q_pick_load, q_pick_pick, q_pick_guard, q_pick_apply, q_pick_put, q_pick_copy, q_pick_loop, q_pick_when, q_guard_load, q_guard_pick, q_guard_guard, q_guard_apply, q_guard_put, q_guard_copy, q_guard_loop, q_guard_when, q_apply_load, q_apply_pick, q_apply_guard, q_apply_apply, q_apply_put, q_apply_copy, q_apply_loop, q_apply_when, q_put_load, q_put_pick, q_put_guard, q_put_apply, q_put_put, q_put_copy, q_put_loop, q_put_when, q_copy_load, q_copy_pick, q_copy_guard, q_copy_apply, q_copy_put, q_copy_copy, q_copy_loop, q_copy_when, q_loop_load, q_loop_pick, q_loop_guard, q_loop_apply, q_loop_put, q_loop_copy, q_loop_loop, q_loop_when, q_when_load, q_when_pick, q_when_guard, q_when_apply, q_when_put, q_when_copy, q_when_loop, q_when_when, i_number, i_index, i_load, i_pick, i_guard, i_apply, i_put, i_copy, i_loop, i_when, hj, Bool.false_or, z2]
  | .loop1 v a b c t, K, i, s, hK, D => by
    have h2 := t.ht2
    have hK : t.ht + 1 ≤ K := hK
    obtain ⟨K, rfl⟩ : ∃ K', K = K' + 1 := ⟨K - 1, by omega⟩
    have z2 := z_le 2 (by decide)
    obtain ⟨s1, e1, D1, K1⟩ := any_parts (d := d) (K := K) (f := 18) (slot := 2) (c := .ix (.slot 0) (.neg (.k (.int 1)))) (i := i) (r := [some (.tup (Sn.loop1 v a b c t).tl), some (.int i), none]) (s := s) [(t.tl, t.uses i)] (by simp) (by simp -implicitDefEqProofs -dsimp only [↓bind_K, ↓out_K, ↓then_K, ↓optR_K, ↓cond_K, ↓forL_K, ↓lcL_K, ↓whileL_K, ↓catch_K, ↓catchK_nx, ↓catchK_rt, ↓catchK_exc, unset_rt, hush_rt, hush_nx, hush_ct, fin_exc, ↓bindK_ok, ↓outK_ok, ↓bindK_exc, ↓outK_exc, ↓thenK_nx, ↓thenK_rt, ↓thenK_exc, ↓thenK_bk, ↓thenK_ct, ↓optRK_some, ↓quiet_ok, ↓condK_t, ↓condK_f, ↓truth_bl, qE_slot, qE_isx, qE_k, qE_glob, qE_bin, qE_neg, qE_not, qE_and, qE_or, qE_cmp, qE_chain, qE_ife, qE_ix, qE_slc, qE_rev, qE_tup, qE_lst, qE_call, qE_bi, qE_isi, qE_meth, qE_lc, qE_smeth, qE_get2, qE_setd, qE_dnew, qEs_nil, qEs_cons, qAll_nil, qAll_cons, qO_no, qO_some, qI_seq, qI_range1, qI_range2, qI_range3, qI_zip, qI_enum, qI_rev, qT_name, qT_tup, qT_sub, qTs_nil, qTs_cons, qS_asg, qS_par, qS_aug, qS_ife, qS_for, qS_forD, qS_while, qS_ret, qS_retN, qS_drop, qS_pass, qS_brk, qS_cont, qS_raise, qS_try, qS_pick, qSs_nil, qSs_cons, dv_int, dv_bl, dv_str, dv_non, List.getElem?_cons_zero, List.getElem?_cons_succ, List.set_cons_zero, List.set_cons_succ, List.length_cons, List.length_nil, Nat.reduceAdd, Nat.reduceLT, if_true, fin_rt, fin_nx, at_0, at_1, at_2, at_3, itemV_ref, itemV_tup, cmp_eq_int, cmp_ne_int, cmp_lt_int, cmp_le_int, cmp_gt_int, cmp_ge_int, bin_add, bin_sub, bi_int_int, Sn.tl, m1_6, List.map_cons, List.map_nil]) D rfl (show 2 < 3 by decide) (by decide) (fun p hp s0 D0 => by
      rw [List.mem_singleton] at hp
      subst hp
      exact ins_ok t K i s0 (by omega) D0)
    refine ⟨s1, ?_, D1, K1⟩
    simp only [List.map_cons, List.map_nil, List.any_cons, List.any_nil, id, Bool.or_false, Sn.tl] at e1
    simp -implicitDefEqProofs -dsimp only [↓bind_K, ↓out_K, ↓then_K, ↓optR_K, ↓cond_K, ↓forL_K, ↓lcL_K, ↓whileL_K, ↓catch_K, ↓catchK_nx, ↓catchK_rt, ↓catchK_exc, unset_rt, hush_rt, hush_nx, hush_ct, fin_exc, ↓bindK_ok, ↓outK_ok, ↓bindK_exc, ↓outK_exc, ↓thenK_nx, ↓thenK_rt, ↓thenK_exc, ↓thenK_bk, ↓thenK_ct, ↓optRK_some, ↓quiet_ok, ↓condK_t, ↓condK_f, ↓truth_bl, qE_slot, qE_isx, qE_k, qE_glob, qE_bin, qE_neg, qE_not, qE_and, qE_or, qE_cmp, qE_chain, qE_ife, qE_ix, qE_slc, qE_rev, qE_tup, qE_lst, qE_call, qE_bi, qE_isi, qE_meth, qE_lc, qE_smeth, qE_get2, qE_setd, qE_dnew, qEs_nil, qEs_cons, qAll_nil, qAll_cons, qO_no, qO_some, qI_seq, qI_range1, qI_range2, qI_range3, qI_zip, qI_enum, qI_rev, qT_name, qT_tup, qT_sub, qTs_nil, qTs_cons, qS_asg, qS_par, qS_aug, qS_ife, qS_for, qS_forD, qS_while, qS_ret, qS_retN, qS_drop, qS_pass, qS_brk, qS_cont, qS_raise, qS_try, qS_pick, qSs_nil, qSs_cons, dv_int, dv_bl, dv_str, dv_non, List.getElem?_cons_zero, List.getElem?_cons_succ, List.set_cons_zero, List.set_cons_succ, List.length_cons, List.length_nil, Nat.reduceAdd, Nat.reduceLT, if_true, fin_rt, fin_nx, at_0, at_1, at_2, at_3, itemV_ref, itemV_tup, cmp_eq_int, cmp_ne_int, cmp_lt_int, cmp_le_int, cmp_gt_int, cmp_ge_int, bin_add, bin_sub, bi_int_int, Sn.tl, call_18, b18, q_number_load, q_number_pick, q_number_guard, q_number_apply, q_number_put, q_number_copy, q_number_loop, q_number_when, q_index_load, q_index_pick, q_index_guard, q_index_apply, q_index_put, q_index_copy, q_index_loop, q_index_when, q_load_load, q_load_pick, q_load_guard, q_load_apply, q_load_put, q_load_copy, q_load_loop, q_load_when, q_pick_load, q_pick_pick, q_pick_guard, q_pick_apply, q_pick_put, q_pick_copy, q_pick_loop, q_pick_when, q_guard_load, q_guard_pick, q_guard_guard, q_guard_apply, q_guard_put, q_guard_copy, q_guard_loop, q_guard_when, q_apply_load, q_apply_pick, q_apply_guard, q_apply_apply, q_apply_put, q_apply_copy, q_apply_loop, q_apply_when, q_put_load, q_put_pick, q_put_guard, q_put_apply, q_put_put, q_put_copy, q_put_loop, q_put_when, q_copy_load, q_copy_pick, q_copy_guard, q_copy_apply, q_copy_put, q_copy_copy, q_copy_loop, q_copy_when, q_loop_load, q_loop_pick, q_loop_guard, q_loop_apply, q_loop_put, q_loop_copy, q_loop_loop, q_loop_when, q_when_load, q_when_pick, q_when_guard, q_when_apply, q_when_put, q_when_copy, q_when_loop, q_when_when, i_number, i_index, i_load, i_pick, i_guard, i_apply, i_put, i_copy, i_loop, i_when, ↓e1, Sn.uses, z2]
  | .loop2 v a b c t t', K, i, s, hK, D => by
    have h2 := t.ht2
    have hK : max t.ht t'.ht + 1 ≤ K := hK
    obtain ⟨K, rfl⟩ : ∃ K', K = K' + 1 := ⟨K - 1, by omega⟩
    have z2 := z_le 2 (by decide)
    obtain ⟨s1, e1, D1, K1⟩ := any_parts (d := d) (K := K) (f := 18) (slot := 2) (c := .ix (.slot 0) (.neg (.k (.int 1)))) (i := i) (r := [some (.tup (Sn.loop2 v a b c t t').tl), some (.int i), none]) (s := s) [(t.tl, t.uses i), (t'.tl, t'.uses i)] (by simp) (by simp -implicitDefEqProofs -dsimp only [↓bind_K, ↓out_K, ↓then_K, ↓optR_K, ↓cond_K, ↓forL_K, ↓lcL_K, ↓whileL_K, ↓catch_K, ↓catchK_nx, ↓catchK_rt, ↓catchK_exc, unset_rt, hush_rt, hush_nx, hush_ct, fin_exc, ↓bindK_ok, ↓outK_ok, ↓bindK_exc, ↓outK_exc, ↓thenK_nx, ↓thenK_rt, ↓thenK_exc, ↓thenK_bk, ↓thenK_ct, ↓optRK_some, ↓quiet_ok, ↓condK_t, ↓condK_f, ↓truth_bl, qE_slot, qE_isx, qE_k, qE_glob, qE_bin, qE_neg, qE_not, qE_and, qE_or, qE_cmp, qE_chain, qE_ife, qE_ix, qE_slc, qE_rev, qE_tup, qE_lst, qE_call, qE_bi, qE_isi, qE_meth, qE_lc, qE_smeth, qE_get2, qE_setd, qE_dnew, qEs_nil, qEs_cons, qAll_nil, qAll_cons, qO_no, qO_some, qI_seq, qI_range1, qI_range2, qI_range3, qI_zip, qI_enum, qI_rev, qT_name, qT_tup, qT_sub, qTs_nil, qTs_cons, qS_asg, qS_par, qS_aug, qS_ife, qS_for, qS_forD, qS_while, qS_ret, qS_retN, qS_drop, qS_pass, qS_brk, qS_cont, qS_raise, qS_try, qS_pick, qSs_nil, qSs_cons, dv_int, dv_bl, dv_str, dv_non, List.getElem?_cons_zero, List.getElem?_cons_succ, List.set_cons_zero, List.set_cons_succ, List.length_cons, List.length_nil, Nat.reduceAdd, Nat.reduceLT, if_true, fin_rt, fin_nx, at_0, at_1, at_2, at_3, itemV_ref, itemV_tup, cmp_eq_int, cmp_ne_int, cmp_lt_int, cmp_le_int, cmp_gt_int, cmp_ge_int, bin_add, bin_sub, bi_int_int, Sn.tl, m1_6, List.map_cons, List.map_nil]) D rfl (show 2 < 3 by decide) (by decide) (fun p hp s0 D0 => by
      rcases List.mem_cons.mp hp with rfl | hp
      · exact ins_ok t K i s0 (by omega) D0
      rw [List.mem_singleton] at hp
      subst hp
      exact ins_ok t' K i s0 (by omega) D0)
    refine ⟨s1, ?_, D1, K1⟩
    simp only [List.map_cons, List.map_nil, List.any_cons, List.any_nil, id, Bool.or_false, Sn.tl] at e1
    simp -implicitDefEqProofs -dsimp only [↓bind_K, ↓out_K, ↓then_K, ↓optR_K, ↓cond_K, ↓forL_K, ↓lcL_K, ↓whileL_K, ↓catch_K, ↓catchK_nx, ↓catchK_rt, ↓catchK_exc, unset_rt, hush_rt, hush_nx, hush_ct, fin_exc, ↓bindK_ok, ↓outK_ok, ↓bindK_exc, ↓outK_exc, ↓thenK_nx, ↓thenK_rt, ↓thenK_exc, ↓thenK_bk, ↓thenK_ct, ↓optRK_some, ↓quiet_ok, ↓condK_t, ↓condK_f, ↓truth_bl, qE_slot, qE_isx, qE_k, qE_glob, qE_bin, qE_neg, qE_not, qE_and, qE_or, qE_cmp, qE_chain, qE_ife, qE_ix, qE_slc, qE_rev, qE_tup, qE_lst, qE_call, qE_bi, qE_isi, qE_meth, qE_lc, qE_smeth, qE_get2, qE_setd, qE_dnew, qEs_nil, qEs_cons, qAll_nil, qAll_cons, qO_no, qO_some, qI_seq, qI_range1, qI_range2, qI_range3, qI_zip, qI_enum, qI_rev, qT_name, qT_tup, qT_sub, qTs_nil, qTs_cons, qS_asg, qS_par, qS_aug, qS_ife, qS_for, qS_forD, qS_while, qS_ret, qS_retN, qS_drop, qS_pass, qS_brk, qS_cont, qS_raise, qS_try, qS_pick, qSs_nil, qSs_cons, dv_int, dv_bl, dv_str, dv_non, List.getElem?_cons_zero, List.getElem?_cons_succ, List.set_cons_zero, List.set_cons_succ, List.length_cons, List.length_nil, Nat.reduceAdd, Nat.reduceLT, if_true, fin_rt, fin_nx, at_0, at_1, at_2, at_3, itemV_ref, itemV_tup, cmp_eq_int, cmp_ne_int, cmp_lt_int, cmp_le_int, cmp_gt_int, cmp_ge_int, bin_add, bin_sub, bi_int_int, Sn.tl, call_18, b18, q_number_load, q_number_pick, q_number_guard, q_number_apply, q_number_put, q_number_copy, q_number_loop, q_number_when, q_index_load, q_index_pick, q_index_guard, q_index_apply, q_index_put, q_index_copy, q_index_loop, q_index_when, q_load_load, q_load_pick, q_load_guard, q_load_apply, q_load_put, q_load_copy, q_load_loop, q_load_when, q_pick_load, q_pick_pick, q_pick_guard, q_pick_apply, q_pick_put, q_pick_copy, q_pick_loop, q_pick_when, q_guard_load, q_guard_pick, q_guard_guard, q_guard_apply, q_guard_put, q_guard_copy, q_guard_loop, q_guard_when, q_apply_load, q_apply_pick, q_apply_guard, q_apply_apply, q_apply_put, q_apply_copy, q_apply_loop, q_apply_when, q_put_load, q_put_pick, q_put_guard, q_put_apply, q_put_put, q_put_copy, q_put_loop, q_put_when, q_copy_load, q_copy_pick, q_copy_guard, q_copy_apply, q_copy_put, q_copy_copy, q_copy_loop, q_copy_when, q_loop_load, q_loop_pick, q_loop_guard, q_loop_apply, q_loop_put, q_loop_copy, q_loop_loop, q_loop_when, q_when_load, q_when_pick, q_when_guard, q_when_apply, q_when_put, q_when_copy, q_when_loop, q_when_when, i_number, i_index, i_load, i_pick, i_guard, i_apply, i_put, i_copy, i_loop, i_when, ↓e1, Sn.uses, z2]
  | .when1 x t, K, i, s, hK, D => by
    have h2 := t.ht2
    have hK : t.ht + 1 ≤ K := hK
    obtain ⟨K, rfl⟩ : ∃ K', K = K' + 1 := ⟨K - 1, by omega⟩
    have z2 := z_le 2 (by decide)
    obtain ⟨s1, e1, D1, K1⟩ := any_parts (d := d) (K := K) (f := 18) (slot := 2) (c := .ix (.slot 0) (.neg (.k (.int 1)))) (i := i) (r := [some (.tup (Sn.when1 x t).tl), some (.int i), none]) (s := s) [(t.tl, t.uses i)] (by simp) (by simp -implicitDefEqProofs -dsimp only [↓bind_K, ↓out_K, ↓then_K, ↓optR_K, ↓cond_K, ↓forL_K, ↓lcL_K, ↓whileL_K, ↓catch_K, ↓catchK_nx, ↓catchK_rt, ↓catchK_exc, unset_rt, hush_rt, hush_nx, hush_ct, fin_exc, ↓bindK_ok, ↓outK_ok, ↓bindK_exc, ↓outK_exc, ↓thenK_nx, ↓thenK_rt, ↓thenK_exc, ↓thenK_bk, ↓thenK_ct, ↓optRK_some, ↓quiet_ok, ↓condK_t, ↓condK_f, ↓truth_bl, qE_slot, qE_isx, qE_k, qE_glob, qE_bin, qE_neg, qE_not, qE_and, qE_or, qE_cmp, qE_chain, qE_ife, qE_ix, qE_slc, qE_rev, qE_tup, qE_lst, qE_call, qE_bi, qE_isi, qE_meth, qE_lc, qE_smeth, qE_get2, qE_setd, qE_dnew, qEs_nil, qEs_cons, qAll_nil, qAll_cons, qO_no, qO_some, qI_seq, qI_range1, qI_range2, qI_range3, qI_zip, qI_enum, qI_rev, qT_name, qT_tup, qT_sub, qTs_nil, qTs_cons, qS_asg, qS_par, qS_aug, qS_ife, qS_for, qS_forD, qS_while, qS_ret, qS_retN, qS_drop, qS_pass, qS_brk, qS_cont, qS_raise, qS_try, qS_pick, qSs_nil, qSs_cons, dv_int, dv_bl, dv_str, dv_non, List.getElem?_cons_zero, List.getElem?_cons_succ, List.set_cons_zero, List.set_cons_succ, List.length_cons, List.length_nil, Nat.reduceAdd, Nat.reduceLT, if_true, fin_rt, fin_nx, at_0, at_1, at_2, at_3, itemV_ref, itemV_tup, cmp_eq_int, cmp_ne_int, cmp_lt_int, cmp_le_int, cmp_gt_int, cmp_ge_int, bin_add, bin_sub, bi_int_int, Sn.tl, m1_3, List.map_cons, List.map_nil]) D rfl (show 2 < 3 by decide) (by decide) (fun p hp s0 D0 => by
      rw [List.mem_singleton] at hp
      subst hp
      exact ins_ok t K i s0 (by omega) D0)
    refine ⟨s1, ?_, D1, K1⟩
    simp only [List.map_cons, List.map_nil, List.any_cons, List.any_nil, id, Bool.or_false, Sn.tl] at e1
    simp -implicitDefEqProofs -dsimp only [↓bind_K, ↓out_K, ↓then_K, ↓optR_K, ↓cond_K, ↓forL_K, ↓lcL_K, ↓whileL_K, ↓catch_K, ↓catchK_nx, ↓catchK_rt, ↓catchK_exc, unset_rt, hush_rt, hush_nx, hush_ct, fin_exc, ↓bindK_ok, ↓outK_ok, ↓bindK_exc, ↓outK_exc, ↓thenK_nx, ↓thenK_rt, ↓thenK_exc, ↓thenK_bk, ↓thenK_ct, ↓optRK_some, ↓quiet_ok, ↓condK_t, ↓condK_f, ↓truth_bl, qE_slot, qE_isx, qE_k, qE_glob, qE_bin, qE_neg, qE_not, qE_and, qE_or, qE_cmp, qE_chain, qE_ife, qE_ix, qE_slc, qE_rev, qE_tup, qE_lst, qE_call, qE_bi, qE_isi, qE_meth, qE_lc, qE_smeth, qE_get2, qE_setd, qE_dnew, qEs_nil, qEs_cons, qAll_nil, qAll_cons, qO_no, qO_some, qI_seq, qI_range1, qI_range2, qI_range3, qI_zip, qI_enum, qI_rev, qT_name, qT_tup, qT_sub, qTs_nil, qTs_cons, qS_asg, qS_par, qS_aug, qS_ife, qS_for, qS_forD, qS_while, qS_ret, qS_retN, qS_drop, qS_pass, qS_brk, qS_cont, qS_raise, qS_try, qS_pick, qSs_nil, qSs_cons, dv_int, dv_bl, dv_str, dv_non, List.getElem?_cons_zero, List.getElem?_cons_succ, List.set_cons_zero, List.set_cons_succ, List.length_cons, List.length_nil, Nat.reduceAdd, Nat.reduceLT, if_true, fin_rt, fin_nx, at_0, at_1, at_2, at_3, itemV_ref, itemV_tup, cmp_eq_int, cmp_ne_int, cmp_lt_int, cmp_le_int, cmp_gt_int, cmp_ge_int, bin_add, bin_sub, bi_int_int, Sn.tl, call_18, b18, q_number_load, q_number_pick, q_number_guard, q_number_apply, q_number_put, q_number_copy, q_number_loop, q_number_when, q_index_load, q_index_pick, q_index_guard, q_index_apply, q_index_put, q_index_copy, q_index_loop, q_index_when, q_load_load, q_load_pick, q_load_guard, q_load_apply, q_load_put, q_load_copy, q_load_loop, q_load_when, q_pick_load, q_pick_pick, q_pick_guard, q_pick_apply, q_pick_put, q_pick_copy, q_pick_loop, q_pick_when, q_guard_load, q_guard_pick, q_guard_guard, q_guard_apply, q_guard_put, q_guard_copy, q_guard_loop, q_guard_when, q_apply_load, q_apply_pick, q_apply_guard, q_apply_apply, q_apply_put, q_apply_copy, q_apply_loop, q_apply_when, q_put_load, q_put_pick, q_put_guard, q_put_apply, q_put_put, q_put_copy, q_put_loop, q_put_when, q_copy_load, q_copy_pick, q_copy_guard, q_copy_apply, q_copy_put, q_copy_copy, q_copy_loop, q_copy_when, q_loop_load, q_loop_pick, q_loop_guard, q_loop_apply, q_loop_put, q_loop_copy, q_loop_loop, q_loop_when, q_when_load, q_when_pick, q_when_guard, q_when_apply, q_when_put, q_when_copy, q_when_loop, q_when_when, i_number, i_index, i_load, i_pick, i_guard, i_apply, i_put, i_copy, i_loop, i_when, ↓e1, Sn.uses, z2]
  | .when2 x t t', K, i, s, hK, D => by
    have h2 := t.ht2
    have hK : max t.ht t'.ht + 1 ≤ K := hK
    obtain ⟨K, rfl⟩ : ∃ K', K = K' + 1 := ⟨K - 1, by omega⟩
    have z2 := z_le 2 (by decide)
    obtain ⟨s1, e1, D1, K1⟩ := any_parts (d := d) (K := K) (f := 18) (slot := 2) (c := .ix (.slot 0) (.neg (.k (.int 1)))) (i := i) (r := [some (.tup (Sn.when2 x t t').tl), some (.int i), none]) (s := s) [(t.tl, t.uses i), (t'.tl, t'.uses i)] (by simp) (by simp -implicitDefEqProofs -dsimp only [↓bind_K, ↓out_K, ↓then_K, ↓optR_K, ↓cond_K, ↓forL_K, ↓lcL_K, ↓whileL_K, ↓catch_K, ↓catchK_nx, ↓catchK_rt, ↓catchK_exc, unset_rt, hush_rt, hush_nx, hush_ct, fin_exc, ↓bindK_ok, ↓outK_ok, ↓bindK_exc, ↓outK_exc, ↓thenK_nx, ↓thenK_rt, ↓thenK_exc, ↓thenK_bk, ↓thenK_ct, ↓optRK_some, ↓quiet_ok, ↓condK_t, ↓condK_f, ↓truth_bl, qE_slot, qE_isx, qE_k, qE_glob, qE_bin, qE_neg, qE_not, qE_and, qE_or, qE_cmp, qE_chain, qE_ife, qE_ix, qE_slc, qE_rev, qE_tup, qE_lst, qE_call, qE_bi, qE_isi, qE_meth, qE_lc, qE_smeth, qE_get2, qE_setd, qE_dnew, qEs_nil, qEs_cons, qAll_nil, qAll_cons, qO_no, qO_some, qI_seq, qI_range1, qI_range2, qI_range3, qI_zip, qI_enum, qI_rev, qT_name, qT_tup, qT_sub, qTs_nil, qTs_cons, qS_asg, qS_par, qS_aug, qS_ife, qS_for, qS_forD, qS_while, qS_ret, qS_retN, qS_drop, qS_pass, qS_brk, qS_cont, qS_raise, qS_try, qS_pick, qSs_nil, qSs_cons, dv_int, dv_bl, dv_str, dv_non, List.getElem?_cons_zero, List.getElem?_cons_succ, List.set_cons_zero, List.set_cons_succ, List.length_cons, List.length_nil, Nat.reduceAdd, Nat.reduceLT, if_true, fin_rt, fin_nx, at_0, at_1, at_2, at_3, itemV_ref, itemV_tup, cmp_eq_int, cmp_ne_int, cmp_lt_int, cmp_le_int, cmp_gt_int, cmp_ge_int, bin_add, bin_sub, bi_int_int, Sn.tl, m1_3, List.map_cons, List.map_nil]) D rfl (show 2 < 3 by decide) (by decide) (fun p hp s0 D0 => by
      rcases List.mem_cons.mp hp with rfl | hp
      · exact ins_ok t K i s0 (by omega) D0
      rw [List.mem_singleton] at hp
      subst hp
      exact ins_ok t' K i s0 (by omega) D0)
    refine ⟨s1, ?_, D1, K1⟩
    simp only [List.map_cons, List.map_nil, List.any_cons, List.any_nil, id, Bool.or_false, Sn.tl] at e1
    simp -implicitDefEqProofs -dsimp only [↓bind_K, ↓out_K, ↓then_K, ↓optR_K, ↓cond_K, ↓forL_K, ↓lcL_K, ↓whileL_K, ↓catch_K, ↓catchK_nx, ↓catchK_rt, ↓catchK_exc, unset_rt, hush_rt, hush_nx, hush_ct, fin_exc, ↓bindK_ok, ↓outK_ok, ↓bindK_exc, ↓outK_exc, ↓thenK_nx, ↓thenK_rt, ↓thenK_exc, ↓thenK_bk, ↓thenK_ct, ↓optRK_some, ↓quiet_ok, ↓condK_t, ↓condK_f, ↓truth_bl, qE_slot, qE_isx, qE_k, qE_glob, qE_bin, qE_neg, qE_not, qE_and, qE_or, qE_cmp, qE_chain, qE_ife, qE_ix, qE_slc, qE_rev, qE_tup, qE_lst, qE_call, qE_bi, qE_isi, qE_meth, qE_lc, qE_smeth, qE_get2, qE_setd, qE_dnew, qEs_nil, qEs_cons, qAll_nil, qAll_cons, qO_no, qO_some, qI_seq, qI_range1, qI_range2, qI_range3, qI_zip, qI_enum, qI_rev, qT_name, qT_tup, qT_sub, qTs_nil, qTs_cons, qS_asg, qS_par, qS_aug, qS_ife, qS_for, qS_forD, qS_while, qS_ret, qS_retN, qS_drop, qS_pass, qS_brk, qS_cont, qS_raise, qS_try, qS_pick, qSs_nil, qSs_cons, dv_int, dv_bl, dv_str, dv_non, List.getElem?_cons_zero, List.getElem?_cons_succ, List.set_cons_zero, List.set_cons_succ, List.length_cons, List.length_nil, Nat.reduceAdd, Nat.reduceLT, if_true, fin_rt, fin_nx, at_0, at_1, at_2, at_3, itemV_ref, itemV_tup, cmp_eq_int, cmp_ne_int, cmp_lt_int, cmp_le_int, cmp_gt_int, cmp_ge_int, bin_add, bin_sub, bi_int_int, Sn.tl, call_18, b18, q_number_load, q_number_pick, q_number_guard, q_number_apply, q_number_put, q_number_copy, q_number_loop, q_number_when, q_index_load, q_index_pick, q_index_guard, q_index_apply, q_index_put, q_index_copy, q_index_loop, q_index_when, q_load_load, q_load_pick, q_load_guard, q_load_apply, q_load_put, q_load_copy, q_load_loop, q_load_when, q_pick_load, q_pick_pick, q_pick_guard, q_pick_apply, q_pick_put, q_pick_copy, q_pick_loop, q_pick_when, q_guard_load, q_guard_pick, q_guard_guard, q_guard_apply, q_guard_put, q_guard_copy, q_guard_loop, q_guard_when, q_apply_load, q_apply_pick, q_apply_guard, q_apply_apply, q_apply_put, q_apply_copy, q_apply_loop, q_apply_when, q_put_load, q_put_pick, q_put_guard, q_put_apply, q_put_put, q_put_copy, q_put_loop, q_put_when, q_copy_load, q_copy_pick, q_copy_guard, q_copy_apply, q_copy_put, q_copy_copy, q_copy_loop, q_copy_when, q_loop_load, q_loop_pick, q_loop_guard, q_loop_apply, q_loop_put, q_loop_copy, q_loop_loop, q_loop_when, q_when_load, q_when_pick, q_when_guard, q_when_apply, q_when_put, q_when_copy, q_when_loop, q_when_when, i_number, i_index, i_load, i_pick, i_guard, i_apply, i_put, i_copy, i_loop, i_when, ↓e1, Sn.uses, z2]
end
section
variable {k d : Nat} {s : Store}
/-! ### what dicts answer -/
theorem getD_nil {k : L2.Key} : getD [] k = none := rfl
theorem getD_cons {k0 k : L2.Key} {v : DV} {m : Kvs} : getD ((k0, v) :: m) k = if k0 = k then some v else getD m k := by
  unfold getD
  rw [List.find?_cons]
  by_cases e : k0 = k <;> simp [e]
theorem getD_snoc {k0 k : L2.Key} {v : DV} : ∀ {m : Kvs}, (m.any fun z => decide (z.1 = k0)) = false → getD (m ++ [(k0, v)]) k = if k0 = k then some v else getD m k
  | [], _ => by rw [List.nil_append, getD_cons, getD_nil]
  | (k1, w) :: m, h => by
    rw [List.any_cons, Bool.or_eq_false_iff] at h
    rw [List.cons_append, getD_cons, getD_cons, getD_snoc h.2]
    have h1 := of_decide_eq_false h.1
    by_cases e : k1 = k
    · have : k0 ≠ k := fun z => h1 (e.trans z.symm)
      rw [if_pos e, if_neg this, if_pos e]
    · rw [if_neg e, if_neg e]
theorem getD_over {k0 k : L2.Key} {v : DV} : ∀ {m : Kvs}, (m.any fun z => decide (z.1 = k0)) = true → getD (m.map fun z => if z.1 = k0 then (z.1, v) else z) k = if k0 = k then some v else getD m k
  | [], h => by cases h
  | (k1, w) :: m, h => by
    rw [List.map_cons]
    by_cases e1 : k1 = k0
    · subst e1
      simp only [if_true]
      rw [getD_cons, getD_cons]
      by_cases e : k1 = k
      · rw [if_pos e, if_pos e]
      · rw [if_neg e, if_neg e, if_neg e]
        -- no key k is changed
        clear h
        induction m with
        | nil => rfl
        | cons z m ih =>
          obtain ⟨k2, u⟩ := z
          rw [List.map_cons]
          by_cases e2 : k2 = k1
          · subst e2
            simp only [if_true]
            rw [getD_cons, getD_cons, if_neg e, if_neg e]
            exact ih
          · simp only [if_neg e2]
            rw [getD_cons, getD_cons]
            by_cases e3 : k2 = k
            · rw [if_pos e3, if_pos e3]
            · rw [if_neg e3, if_neg e3]
              exact ih
    · simp only [if_neg e1]
      rw [List.any_cons, decide_eq_false e1, Bool.false_or] at h
      rw [getD_cons, getD_cons, getD_over h]
      by_cases e : k1 = k
      · have : k0 ≠ k := fun z => e1 (e.trans z.symm)
        rw [if_pos e, if_neg this, if_pos e]
      · rw [if_neg e, if_neg e]
theorem getD_put {k0 k : L2.Key} {v : DV} {m : Kvs} : getD (putD m k0 v) k = if k0 = k then some v else getD m k := by
  unfold putD
  cases h : m.any fun z => decide (z.1 = k0) with
  | true => rw [if_pos rfl]; exact getD_over h
  | false => rw [if_neg (by decide)]; exact getD_snoc h
theorem mem_keys {k : L2.Key} : ∀ {m : Kvs}, k ∈ m.map (·.1) ↔ (getD m k).isSome = true
  | [] => by simp [getD_nil]
  | (k1, w) :: m => by
    rw [List.map_cons, List.mem_cons, getD_cons, mem_keys (m := m)]
    by_cases e : k1 = k
    · rw [if_pos e]
      simp [e]
    · rw [if_neg e]
      have : k ≠ k1 := fun z => e z.symm
      simp [this]
theorem mark_at {j i : Int} {m : Kvs} : getD (mark j m) (.inl i) = if (j == i) = true then some (.bl true) else getD m (.inl i) := by
  unfold mark
  rw [getD_put]
  by_cases e : j = i
  · subst e; simp
  · have e2 : (Sum.inl j : L2.Key) ≠ .inl i := fun z => e (by cases z; rfl)
    rw [if_neg e2, if_neg (by rw [beq_iff_eq]; exact e)]
theorem or_if {a b : Bool} {x y : Option DV} : (if b = true then x else if a = true then x else y) = if (a || b) = true then x else y := by
  cases a <;> cases b <;> rfl
theorem Ex.at_ (i : Int) : ∀ (e : Ex) (m : Kvs), getD (e.notes m) (.inl i) = if e.uses i = true then some (.bl true) else getD m (.inl i)
  | .num _, m => rfl
  | .idx _, m => rfl
  | .load j _, m => mark_at
  | .pick j _ _ _ e, m => by
    show getD (e.notes (mark j m)) _ = if (j == i || e.uses i) = true then _ else _
    rw [e.at_ i, mark_at, or_if]
  | .guard _ a b, m => by
    show getD (b.notes (a.notes m)) _ = if (a.uses i || b.uses i) = true then _ else _
    rw [b.at_ i, a.at_ i, or_if]
  | .app1 _ a _, m => a.at_ i m
  | .app2 _ a b _, m => by
    show getD (b.notes (a.notes m)) _ = if (a.uses i || b.uses i) = true then _ else _
    rw [b.at_ i, a.at_ i, or_if]
  | .app3 _ a b c _, m => by
    show getD (c.notes (b.notes (a.notes m))) _ = if (a.uses i || (b.uses i || c.uses i)) = true then _ else _
    rw [c.at_ i, b.at_ i, a.at_ i, or_if, or_if]
theorem Sn.at_ (i : Int) : ∀ (t : Sn) (m : Kvs), getD (t.notes m) (.inl i) = if t.uses i = true then some (.bl true) else getD m (.inl i)
  | .put j _ e, m => by
    show getD (e.notes (mark j m)) _ = if (j == i || e.uses i) = true then _ else _
    rw [e.at_ i, mark_at, or_if]
  | .copy a _ b _ _, m => by
    show getD (mark b (mark a m)) _ = if (a == i || b == i) = true then _ else _
    rw [mark_at, mark_at, or_if]
  | .loop1 _ _ _ _ t, m => t.at_ i m
  | .loop2 _ _ _ _ t t', m => by
    show getD (t'.notes (t.notes m)) _ = if (t.uses i || t'.uses i) = true then _ else _
    rw [t'.at_ i, t.at_ i, or_if]
  | .when1 _ t, m => t.at_ i m
  | .when2 _ t t', m => by
    show getD (t'.notes (t.notes m)) _ = if (t.uses i || t'.uses i) = true then _ else _
    rw [t'.at_ i, t.at_ i, or_if]
/-- the first time, the last time -/
def setF (v : DV) (F : Kvs) (k : L2.Key) : Kvs := match getD F k with
  | some _ => F
  | none => putD F k v
def setL (v : DV) (L : Kvs) (k : L2.Key) : Kvs := putD L k v
theorem setF_at {v : DV} {F : Kvs} {k0 k : L2.Key} : getD (setF v F k0) k = match getD F k with
    | some w => some w
    | none => if k0 = k then some v else none := by
  unfold setF
  cases h : getD F k0 with
  | some w =>
    simp only
    cases h2 : getD F k with
    | some _ => rfl
    | none =>
      have : k0 ≠ k := fun z => by
        subst z
        rw [h] at h2
        cases h2
      simp only
      rw [if_neg this]
  | none =>
    simp only
    rw [getD_put]
    by_cases e : k0 = k
    · subst e
      simp only [h, if_true]
    · rw [if_neg e]
      cases getD F k with
      | some _ => rfl
      | none => simp only; rw [if_neg e]
open Classical in
theorem foldF_at {v : DV} {k : L2.Key} : ∀ (ks : List L2.Key) (F : Kvs), getD (ks.foldl (setF v) F) k = match getD F k with
    | some w => some w
    | none => if k ∈ ks then some v else none
  | [], F => by
    rw [List.foldl_nil]
    cases getD F k <;> simp
  | k0 :: ks, F => by
    rw [List.foldl_cons, foldF_at ks, setF_at]
    cases getD F k with
    | some _ => rfl
    | none =>
      simp only
      by_cases e : k0 = k
      · subst e
        simp
      · have : k ≠ k0 := fun z => e z.symm
        simp [e, this]
open Classical in
theorem foldL_at {v : DV} {k : L2.Key} : ∀ (ks : List L2.Key) (L : Kvs), getD (ks.foldl (setL v) L) k = if k ∈ ks then some v else getD L k
  | [], L => by simp
  | k0 :: ks, L => by
    rw [List.foldl_cons, foldL_at ks]
    unfold setL
    rw [getD_put]
    by_cases e : k0 = k
    · subst e
      simp
    · have : k ≠ k0 := fun z => e z.symm
      simp [e, this]
theorem setF_len (v : DV) (F : Kvs) (k : L2.Key) : (setF v F k).length ≤ F.length + 1 := by
  unfold setF
  split
  · exact Nat.le_succ _
  · exact put_len _ _ _
theorem foldF_len (v : DV) : ∀ (ks : List L2.Key) (F : Kvs), (ks.foldl (setF v) F).length ≤ F.length + ks.length
  | [], F => Nat.le_refl _
  | k :: ks, F => by
    have h1 := foldF_len v ks (setF v F k)
    have h2 := setF_len v F k
    rw [List.foldl_cons, List.length_cons]
    omega
theorem foldL_len (v : DV) : ∀ (ks : List L2.Key) (F : Kvs), (ks.foldl (setL v) F).length ≤ F.length + ks.length
  | [], F => Nat.le_refl _
  | k :: ks, F => by
    have h1 := foldL_len v ks (setL v F k)
    have h2 : (setL v F k).length ≤ F.length + 1 := put_len F k v
    rw [List.foldl_cons, List.length_cons]
    omega
theorem key_keyD (k : L2.Key) : key? (keyD k) = some k := by cases k <;> rfl
theorem keyD_slot (k : L2.Key) : (∃ i, keyD k = .int i) ∨ ∃ z, keyD k = .str z := by
  cases k with
  | inl i => exact .inl ⟨i, rfl⟩
  | inr z => exact .inr ⟨z, rfl⟩
noncomputable def B4 (K : Nat) : DV → Ip.Loc → Store → Out := fun x r s => (evT (callAt Dt Gt subt K) Gt subt (.name 9) x r s).out r fun r s => evSs (callAt Dt Gt subt K) Gt subt b4l1 r s
theorem key_turn {K f l : Nat} {F L : Kvs} {s : Store} {key : L2.Key} {a : Int} {w0 w1 w2 w3 w7 w8 w9 w10 w11 w12 w13 : Option DV} (hf : s[f]? = some (.dct F)) (hl : s[l]? = some (.dct L)) (hne : f ≠ l) (zF : F.length ≤ 2000000) (zL : L.length ≤ 2000000) :
    B4 K (keyD key) [w0, w1, w2, w3, some (.ref f), some (.ref l), some (.int a), w7, w8, w9, w10, w11, w12, w13] s = .nx [w0, w1, w2, w3, some (.ref f), some (.ref l), some (.int a), w7, w8, some (keyD key), w10, w11, w12, w13] ((s.set f (.dct (setF (.int a) F key))).set l (.dct (setL (.int a) L key))) := by
  have df : dctAt s f = some F := by simp only [dctAt, hf]
  have kk := key_keyD key
  have tz : (F.length < sizeLine) = True := eq_true (Nat.lt_of_le_of_lt zF (by decide))
  have st : ∀ r : Ip.Loc, r[9]? = some (some (keyD key)) → ∀ s, evE (callAt Dt Gt subt K) Gt subt (.slot 9) r s = .ok (keyD key) s := fun r h s => by
    rw [qE_slot, h]
    rcases keyD_slot key with ⟨i, e⟩ | ⟨z, e⟩ <;> rw [e]
  have x9 := st [w0, w1, w2, w3, some (.ref f), some (.ref l), some (.int a), w7, w8, some (keyD key), w10, w11, w12, w13] rfl
  have sd : evE (callAt Dt Gt subt K) Gt subt (.setd (.slot 4) (.slot 9) (.slot 6)) [w0, w1, w2, w3, some (.ref f), some (.ref l), some (.int a), w7, w8, some (keyD key), w10, w11, w12, w13] s = (match getD F key with | some v => Res.ok v s | none => .ok (.int a) (s.set f (.dct (putD F key (.int a))))) := by
    have q4 : evE (callAt Dt Gt subt K) Gt subt (.slot 4) [w0, w1, w2, w3, some (.ref f), some (.ref l), some (.int a), w7, w8, some (keyD key), w10, w11, w12, w13] s = .ok (.ref f) s := rfl
    have q6 : evE (callAt Dt Gt subt K) Gt subt (.slot 6) [w0, w1, w2, w3, some (.ref f), some (.ref l), some (.int a), w7, w8, some (keyD key), w10, w11, w12, w13] s = .ok (.int a) s := rfl
    rw [qE_setd, q4]
    simp only [bind_ok]
    rw [df]
    simp only [optR_some]
    rw [x9 s]
    simp only [bind_ok]
    rw [q6]
    simp only [bind_ok]
    rw [hf]
    simp only
    rw [kk]
    simp only [optR_some, tz, if_true]
    all_goals (cases getD F key <;> rfl)
  have sl : ∀ s' : Store, s'[l]? = some (.dct L) → setV (.ref l) (keyD key) (.int a) s' = some (s'.set l (.dct (putD L key (.int a)))) := fun s' h => by
    simp only [setV, h, kk]
    rw [if_pos (Nat.lt_of_le_of_lt zL (by decide))]
  have h2 : ∃ v, evE (callAt Dt Gt subt K) Gt subt (.setd (.slot 4) (.slot 9) (.slot 6)) [w0, w1, w2, w3, some (.ref f), some (.ref l), some (.int a), w7, w8, some (keyD key), w10, w11, w12, w13] s = .ok v (s.set f (.dct (setF (.int a) F key))) := by
    rw [sd]
    unfold setF
    cases getD F key with
    | some v => exact ⟨v, by simp only; rw [set_self hf]⟩
    | none => exact ⟨_, rfl⟩
  obtain ⟨v, h2⟩ := h2
  have hl' : (s.set f (.dct (setF (.int a) F key)))[l]? = some (.dct L) := by rw [get_set_ne hne]; exact hl
  have s3 := sl _ hl'
  show _ = Out.nx _ ((s.set f (.dct (setF (.int a) F key))).set l (.dct (putD L key (.int a))))
  have x9' := fun s => x9 s
  simp -implicitDefEqProofs -dsimp only [↓bind_K, ↓out_K, ↓then_K, ↓optR_K, ↓cond_K, ↓forL_K, ↓lcL_K, ↓whileL_K, ↓catch_K, ↓catchK_nx, ↓catchK_rt, ↓catchK_exc, unset_rt, hush_rt, hush_nx, hush_ct, fin_exc, ↓bindK_ok, ↓outK_ok, ↓bindK_exc, ↓outK_exc, ↓thenK_nx, ↓thenK_rt, ↓thenK_exc, ↓thenK_bk, ↓thenK_ct, ↓optRK_some, ↓quiet_ok, ↓condK_t, ↓condK_f, ↓truth_bl, qE_slot, qE_isx, qE_k, qE_glob, qE_bin, qE_neg, qE_not, qE_and, qE_or, qE_cmp, qE_chain, qE_ife, qE_ix, qE_slc, qE_rev, qE_tup, qE_lst, qE_call, qE_bi, qE_isi, qE_meth, qE_lc, qE_smeth, qE_get2, qE_setd, qE_dnew, qEs_nil, qEs_cons, qAll_nil, qAll_cons, qO_no, qO_some, qI_seq, qI_range1, qI_range2, qI_range3, qI_zip, qI_enum, qI_rev, qT_name, qT_tup, qT_sub, qTs_nil, qTs_cons, qS_asg, qS_par, qS_aug, qS_ife, qS_for, qS_forD, qS_while, qS_ret, qS_retN, qS_drop, qS_pass, qS_brk, qS_cont, qS_raise, qS_try, qS_pick, qSs_nil, qSs_cons, dv_int, dv_bl, dv_str, dv_non, List.getElem?_cons_zero, List.getElem?_cons_succ, List.set_cons_zero, List.set_cons_succ, List.length_cons, List.length_nil, Nat.reduceAdd, Nat.reduceLT, if_true, fin_rt, fin_nx, at_0, at_1, at_2, at_3, itemV_ref, itemV_tup, cmp_eq_int, cmp_ne_int, cmp_lt_int, cmp_le_int, cmp_gt_int, cmp_ge_int, bin_add, bin_sub, bi_int_int, B4, b4l1, ↓h2, ↓x9', s3]
theorem comm4 {s : Store} {f l : Nat} {a b c e : Cell} (h : f ≠ l) : (((s.set f a).set l b).set f c).set l e = (s.set f c).set l e := by
  rw [List.set_comm b c (Ne.symm h), List.set_set, List.set_set]
theorem keys_run {K f l : Nat} {a : Int} {w0 w1 w2 w3 w7 w8 w10 w11 w12 w13 : Option DV} (hne : f ≠ l) : ∀ (ks : List L2.Key) (F L : Kvs) (s : Store) (w9 : Option DV), s[f]? = some (.dct F) → s[l]? = some (.dct L) → F.length + ks.length ≤ 2000000 → L.length + ks.length ≤ 2000000 →
    ∃ w9', forL .free (B4 K) (ks.map keyD) [w0, w1, w2, w3, some (.ref f), some (.ref l), some (.int a), w7, w8, w9, w10, w11, w12, w13] s = .nx [w0, w1, w2, w3, some (.ref f), some (.ref l), some (.int a), w7, w8, w9', w10, w11, w12, w13] ((s.set f (.dct (ks.foldl (setF (.int a)) F))).set l (.dct (ks.foldl (setL (.int a)) L)))
  | [], F, L, s, w9, hf, hl, _, _ => ⟨w9, by
    rw [List.map_nil, List.foldl_nil, List.foldl_nil, set_self hf, set_self hl]
    exact forL_nil free_ok⟩
  | k :: ks, F, L, s, w9, hf, hl, zF, zL => by
    rw [List.length_cons] at zF zL
    have t := key_turn (K := K) (key := k) (a := a) (w0 := w0) (w1 := w1) (w2 := w2) (w3 := w3) (w7 := w7) (w8 := w8) (w9 := w9) (w10 := w10) (w11 := w11) (w12 := w12) (w13 := w13) hf hl hne (by omega) (by omega)
    have n1 := setF_len (.int a) F k
    have n2 : (setL (.int a) L k).length ≤ L.length + 1 := put_len L k _
    have f1 : ((s.set f (.dct (setF (.int a) F k))).set l (.dct (setL (.int a) L k)))[f]? = some (.dct (setF (.int a) F k)) := by rw [get_set_ne (Ne.symm hne)]; exact get_set hf
    have l1 : ((s.set f (.dct (setF (.int a) F k))).set l (.dct (setL (.int a) L k)))[l]? = some (.dct (setL (.int a) L k)) := get_set (by rw [get_set_ne hne]; exact hl)
    obtain ⟨w9', h⟩ := keys_run hne ks _ _ _ (some (keyD k)) f1 l1 (by omega) (by omega)
    refine ⟨w9', ?_⟩
    rw [List.map_cons, forL_nx free_ok t, h, comm4 hne, List.foldl_cons, List.foldl_cons]
/-- the times at which a buffer is used -/
def hits (i : Int) : List Sn → Int → List Int
  | [], _ => []
  | t :: ts, a => if t.uses i = true then a :: hits i ts (a + 1) else hits i ts (a + 1)
noncomputable def B5 (K : Nat) : DV → Ip.Loc → Store → Out := fun x r s => (evT (callAt Dt Gt subt K) Gt subt (.tup (.cons (.name 6) (.cons (.name 7) (.nil)))) x r s).out r fun r s => evSs (callAt Dt Gt subt K) Gt subt b4l2 r s
theorem sn_turn {K f l : Nat} {F L : Kvs} {s s0 : Store} {t : Sn} {a : Int} {w0 w1 w2 w3 w6 w7 w8 w9 w10 w11 w12 w13 : Option DV} (hK : 9 ≤ K) (ht : t.ht ≤ 9) (hf : s[f]? = some (.dct F)) (hl : s[l]? = some (.dct L)) (hne : f ≠ l) (zF : F.length ≤ 1000000) (zL : L.length ≤ 1000000) (h0 : s0.length ≤ f) (h1 : s0.length ≤ l) (Kp0 : Kp d s0 s) :
    ∃ F' L' w8' w9' s', B5 K (.tup [.int a, .tup t.tl]) [w0, w1, w2, w3, some (.ref f), some (.ref l), w6, w7, w8, w9, w10, w11, w12, w13] s = .nx [w0, w1, w2, w3, some (.ref f), some (.ref l), some (.int a), some (.tup t.tl), w8', w9', w10, w11, w12, w13] s' ∧
      s'[f]? = some (.dct F') ∧ s'[l]? = some (.dct L') ∧ F'.length ≤ F.length + 20000 ∧ L'.length ≤ L.length + 20000 ∧ Kp d s0 s' ∧
      (∀ i, getD F' (.inl i) = match getD F (.inl i) with | some v => some v | none => if t.uses i = true then some (.int a) else none) ∧ ∀ i, getD L' (.inl i) = if t.uses i = true then some (.int a) else getD L (.inl i) := by
  obtain ⟨U, hU⟩ : ∃ U, U = t.notes [] := ⟨_, rfl⟩
  have lf := lt_of_get hf
  have ll := lt_of_get hl
  have p9 : 3 ^ t.ht ≤ 19683 := Nat.le_trans (pow3m ht) (by decide)
  have n := note3_ok (u := s.length) t K (s ++ [.dct []]) [] (by omega) get_snoc (by rw [List.length_nil]; omega)
  rw [set_snoc, ← hU] at n
  have Ul : U.length ≤ 19683 := by
    have := t.len []
    rw [← hU, List.length_nil] at this
    omega
  have sz : ∀ i, (Sum.inl i : L2.Key) ∈ U.map (·.1) ↔ t.uses i = true := fun i => by
    rw [mem_keys, hU, t.at_ i, getD_nil]
    cases t.uses i <;> simp
  -- the walk
  obtain ⟨S1, hS1⟩ : ∃ S, S = s ++ [Cell.fdct U] := ⟨_, rfl⟩
  have fl : (s ++ [Cell.dct U]).set s.length (.fdct U) = S1 := by rw [set_snoc, hS1]
  have f1 : S1[f]? = some (.dct F) := by rw [hS1]; exact get_more hf
  have l1 : S1[l]? = some (.dct L) := by rw [hS1]; exact get_more hl
  have u1 : S1[s.length]? = some (.fdct U) := by rw [hS1]; exact get_snoc
  obtain ⟨w9', run⟩ := keys_run (K := K) (a := a) (w0 := w0) (w1 := w1) (w2 := w2) (w3 := w3) (w7 := some (.tup t.tl)) (w8 := some (.ref s.length)) (w10 := w10) (w11 := w11) (w12 := w12) (w13 := w13) hne (U.map (·.1)) F L S1 w9 f1 l1 (by rw [List.length_map]; omega) (by rw [List.length_map]; omega)
  obtain ⟨F', hF'⟩ : ∃ F', F' = (U.map (·.1)).foldl (setF (.int a)) F := ⟨_, rfl⟩
  obtain ⟨L', hL'⟩ : ∃ L', L' = (U.map (·.1)).foldl (setL (.int a)) L := ⟨_, rfl⟩
  rw [← hF', ← hL'] at run
  have u2 : ((S1.set f (.dct F')).set l (.dct L'))[s.length]? = some (.fdct U) := by rw [get_set_ne (by omega), get_set_ne (by omega)]; exact u1
  have walk : evS (callAt Dt Gt subt K) Gt subt (.forD (.name 9) 8 b4l1) [w0, w1, w2, w3, some (.ref f), some (.ref l), some (.int a), some (.tup t.tl), some (.ref s.length), w9, w10, w11, w12, w13] (s ++ [.dct U]) = .nx [w0, w1, w2, w3, some (.ref f), some (.ref l), some (.int a), some (.tup t.tl), some (.ref s.length), w9', w10, w11, w12, w13] (((S1.set f (.dct F')).set l (.dct L')).set s.length (.dct U)) := by
    have g : (s ++ [Cell.dct U])[s.length]? = some (.dct U) := get_snoc
    rw [qS_forD]
    show (match (s ++ [Cell.dct U])[s.length]? with | some (.dct kvs) => (forL .free (B4 K) (kvs.map fun (kv : L2.Key × DV) => keyD kv.1) _ ((s ++ [Cell.dct U]).set s.length (.fdct kvs))).unlock s.length | _ => .stuck) = _
    rw [g]
    simp only
    rw [fl, show (U.map fun (kv : L2.Key × DV) => keyD kv.1) = (U.map (·.1)).map keyD from by rw [List.map_map]; rfl, run]
    simp only [Out.unlock]
    rw [u2]
  refine ⟨F', L', some (.ref s.length), w9', ((S1.set f (.dct F')).set l (.dct L')).set s.length (.dct U), ?_, ?_, ?_, ?_, ?_, ?_, fun i => ?_, fun i => ?_⟩
  · simp -implicitDefEqProofs -dsimp only [↓bind_K, ↓out_K, ↓then_K, ↓optR_K, ↓cond_K, ↓forL_K, ↓lcL_K, ↓whileL_K, ↓catch_K, ↓catchK_nx, ↓catchK_rt, ↓catchK_exc, unset_rt, hush_rt, hush_nx, hush_ct, fin_exc, ↓bindK_ok, ↓outK_ok, ↓bindK_exc, ↓outK_exc, ↓thenK_nx, ↓thenK_rt, ↓thenK_exc, ↓thenK_bk, ↓thenK_ct, ↓optRK_some, ↓quiet_ok, ↓condK_t, ↓condK_f, ↓truth_bl, qE_slot, qE_isx, qE_k, qE_glob, qE_bin, qE_neg, qE_not, qE_and, qE_or, qE_cmp, qE_chain, qE_ife, qE_ix, qE_slc, qE_rev, qE_tup, qE_lst, qE_call, qE_bi, qE_isi, qE_meth, qE_lc, qE_smeth, qE_get2, qE_setd, qE_dnew, qEs_nil, qEs_cons, qAll_nil, qAll_cons, qO_no, qO_some, qI_seq, qI_range1, qI_range2, qI_range3, qI_zip, qI_enum, qI_rev, qT_name, qT_tup, qT_sub, qTs_nil, qTs_cons, qS_asg, qS_par, qS_aug, qS_ife, qS_for, qS_forD, qS_while, qS_ret, qS_retN, qS_drop, qS_pass, qS_brk, qS_cont, qS_raise, qS_try, qS_pick, qSs_nil, qSs_cons, dv_int, dv_bl, dv_str, dv_non, List.getElem?_cons_zero, List.getElem?_cons_succ, List.set_cons_zero, List.set_cons_succ, List.length_cons, List.length_nil, Nat.reduceAdd, Nat.reduceLT, if_true, fin_rt, fin_nx, at_0, at_1, at_2, at_3, itemV_ref, itemV_tup, cmp_eq_int, cmp_ne_int, cmp_lt_int, cmp_le_int, cmp_gt_int, cmp_ge_int, bin_add, bin_sub, bi_int_int, B5, b4l2, n, ↓walk]
  · rw [get_set_ne (by omega), get_set_ne (Ne.symm hne)]
    exact get_set f1
  · rw [get_set_ne (by omega)]
    exact get_set (by rw [get_set_ne hne]; exact l1)
  · rw [hF']
    have := foldF_len (.int a) (U.map (·.1)) F
    rw [List.length_map] at this
    omega
  · rw [hL']
    have := foldL_len (.int a) (U.map (·.1)) L
    rw [List.length_map] at this
    omega
  · have K1 : Kp d s0 S1 := by rw [hS1]; exact Kp0.trans Kp.app
    exact kp_up (kp_up (kp_up K1 h0) h1) (Nat.le_trans h0 (Nat.le_of_lt lf))
  · rw [hF', foldF_at]
    cases getD F (.inl i) with
    | some _ => rfl
    | none =>
      simp only
      by_cases e : t.uses i = true
      · rw [if_pos ((sz i).mpr e), if_pos e]
      · rw [if_neg fun z => e ((sz i).mp z), if_neg e]
  · rw [hL', foldL_at]
    by_cases e : t.uses i = true
    · rw [if_pos ((sz i).mpr e), if_pos e]
    · rw [if_neg fun z => e ((sz i).mp z), if_neg e]
end
section
variable {k d : Nat} {s : Store}
/-- the statements with their times -/
def itemsF : List Sn → Int → List DV
  | [], _ => []
  | t :: ts, a => .tup [.int a, .tup t.tl] :: itemsF ts (a + 1)
theorem shift_is (xs : List DV) (a : Int) : (xs.mapIdx fun (i : Nat) x => DV.tup [.int (a + ((i + 1 : Nat) : Int)), x]) = xs.mapIdx fun (i : Nat) x => DV.tup [.int (a + 1 + (i : Int)), x] := by
  refine congrArg (fun f => List.mapIdx f xs) (funext fun i => funext fun x => ?_)
  rw [show a + ((i + 1 : Nat) : Int) = a + 1 + (i : Int) by omega]
theorem items_is : ∀ (ts : List Sn) (a : Int), ((ts.map snD).mapIdx fun (i : Nat) x => DV.tup [.int (a + (i : Int)), x]) = itemsF ts a
  | [], a => rfl
  | t :: ts, a => by
    rw [List.map_cons, List.mapIdx_cons, shift_is, items_is ts (a + 1), show a + ((0 : Nat) : Int) = a by omega]
    rfl
theorem sns_run {K f l : Nat} {s0 : Store} {w0 w1 w2 w3 w10 w11 w12 w13 : Option DV} (hK : 9 ≤ K) (hne : f ≠ l) (h0 : s0.length ≤ f) (h1 : s0.length ≤ l) : ∀ (ts : List Sn) (a : Int) (F L : Kvs) (s : Store) (w6 w7 w8 w9 : Option DV), (∀ t ∈ ts, t.ht ≤ 9) → s[f]? = some (.dct F) → s[l]? = some (.dct L) → F.length + 20000 * ts.length ≤ 900000 → L.length + 20000 * ts.length ≤ 900000 → Kp d s0 s →
    ∃ F' L' w6' w7' w8' w9' s', forL .free (B5 K) (itemsF ts a) [w0, w1, w2, w3, some (.ref f), some (.ref l), w6, w7, w8, w9, w10, w11, w12, w13] s = .nx [w0, w1, w2, w3, some (.ref f), some (.ref l), w6', w7', w8', w9', w10, w11, w12, w13] s' ∧
      s'[f]? = some (.dct F') ∧ s'[l]? = some (.dct L') ∧ L'.length ≤ L.length + 20000 * ts.length ∧ Kp d s0 s' ∧
      (∀ i, getD F' (.inl i) = match getD F (.inl i) with | some v => some v | none => ((hits i ts a).head?).map DV.int) ∧ ∀ i, getD L' (.inl i) = match (hits i ts a).getLast? with | some x => some (.int x) | none => getD L (.inl i)
  | [], a, F, L, s, w6, w7, w8, w9, ht, hf, hl, zF, zL, K0 => ⟨F, L, w6, w7, w8, w9, s, forL_nil free_ok, hf, hl, by omega, K0, fun i => by cases getD F (.inl i) <;> rfl, fun i => rfl⟩
  | t :: ts, a, F, L, s, w6, w7, w8, w9, ht, hf, hl, zF, zL, K0 => by
    rw [List.length_cons] at zF zL
    obtain ⟨F1, L1, x8, x9, s1, e1, f1, l1, nF, nL, K1, gF, gL⟩ := sn_turn (d := d) (K := K) (t := t) (a := a) (w0 := w0) (w1 := w1) (w2 := w2) (w3 := w3) (w6 := w6) (w7 := w7) (w8 := w8) (w9 := w9) (w10 := w10) (w11 := w11) (w12 := w12) (w13 := w13) hK (ht t List.mem_cons_self) hf hl hne (by omega) (by omega) h0 h1 K0
    obtain ⟨F', L', y6, y7, y8, y9, s', e2, f2, l2, nL2, K2, gF2, gL2⟩ := sns_run hK hne h0 h1 ts (a + 1) F1 L1 s1 (some (.int a)) (some (.tup t.tl)) x8 x9 (fun u hu => ht u (List.mem_cons_of_mem _ hu)) f1 l1 (by omega) (by omega) K1
    refine ⟨F', L', y6, y7, y8, y9, s', ?_, f2, l2, by rw [List.length_cons]; omega, K2, fun i => ?_, fun i => ?_⟩
    · rw [show itemsF (t :: ts) a = .tup [.int a, .tup t.tl] :: itemsF ts (a + 1) from rfl, forL_nx free_ok e1]
      exact e2
    · rw [gF2 i, gF i, show hits i (t :: ts) a = if t.uses i = true then a :: hits i ts (a + 1) else hits i ts (a + 1) from rfl]
      cases getD F (.inl i) with
      | some v => rfl
      | none =>
        simp only
        by_cases e : t.uses i = true
        · rw [if_pos e, if_pos e]
          rfl
        · rw [if_neg e, if_neg e]
    · rw [gL2 i, gL i, show hits i (t :: ts) a = if t.uses i = true then a :: hits i ts (a + 1) else hits i ts (a + 1) from rfl]
      by_cases e : t.uses i = true
      · rw [if_pos e, if_pos e, List.getLast?_cons]
        cases (hits i ts (a + 1)).getLast? <;> rfl
      · rw [if_neg e, if_neg e]
noncomputable def B6 (K : Nat) : DV → Ip.Loc → Store → Out := fun x r s => (evT (callAt Dt Gt subt K) Gt subt (.name 10) x r s).out r fun r s => evSs (callAt Dt Gt subt K) Gt subt b4l0 r s
theorem outs_run {K f l : Nat} {bd : List DV} {w0 w1 w2 w4 w6 w7 w8 w9 w11 w12 w13 : Option DV} : ∀ (os : List Int) (L : Kvs) (s : Store) (w10 : Option DV), s[l]? = some (.dct L) → L.length + os.length ≤ 2000000 →
    ∃ w10', forL .free (B6 K) (os.map DV.int) [w0, w1, w2, some (.tup bd), w4, some (.ref l), w6, w7, w8, w9, w10, w11, w12, w13] s = .nx [w0, w1, w2, some (.tup bd), w4, some (.ref l), w6, w7, w8, w9, w10', w11, w12, w13] (s.set l (.dct ((os.map Sum.inl).foldl (setL (.int bd.length)) L)))
  | [], L, s, w10, hl, _ => ⟨w10, by
    rw [List.map_nil, List.map_nil, List.foldl_nil, set_self hl]
    exact forL_nil free_ok⟩
  | o :: os, L, s, w10, hl, zL => by
    rw [List.length_cons] at zL
    have st : setV (.ref l) (.int o) (.int bd.length) s = some (s.set l (.dct (setL (.int bd.length) L (.inl o)))) := by
      simp only [setV, hl, key?]
      rw [if_pos (Nat.lt_of_le_of_lt (show L.length ≤ 2000000 by omega) (by decide))]
      rfl
    have t : B6 K (.int o) [w0, w1, w2, some (.tup bd), w4, some (.ref l), w6, w7, w8, w9, w10, w11, w12, w13] s = .nx [w0, w1, w2, some (.tup bd), w4, some (.ref l), w6, w7, w8, w9, some (.int o), w11, w12, w13] (s.set l (.dct (setL (.int bd.length) L (.inl o)))) := by
      simp -implicitDefEqProofs -dsimp only [↓bind_K, ↓out_K, ↓then_K, ↓optR_K, ↓cond_K, ↓forL_K, ↓lcL_K, ↓whileL_K, ↓catch_K, ↓catchK_nx, ↓catchK_rt, ↓catchK_exc, unset_rt, hush_rt, hush_nx, hush_ct, fin_exc, ↓bindK_ok, ↓outK_ok, ↓bindK_exc, ↓outK_exc, ↓thenK_nx, ↓thenK_rt, ↓thenK_exc, ↓thenK_bk, ↓thenK_ct, ↓optRK_some, ↓quiet_ok, ↓condK_t, ↓condK_f, ↓truth_bl, qE_slot, qE_isx, qE_k, qE_glob, qE_bin, qE_neg, qE_not, qE_and, qE_or, qE_cmp, qE_chain, qE_ife, qE_ix, qE_slc, qE_rev, qE_tup, qE_lst, qE_call, qE_bi, qE_isi, qE_meth, qE_lc, qE_smeth, qE_get2, qE_setd, qE_dnew, qEs_nil, qEs_cons, qAll_nil, qAll_cons, qO_no, qO_some, qI_seq, qI_range1, qI_range2, qI_range3, qI_zip, qI_enum, qI_rev, qT_name, qT_tup, qT_sub, qTs_nil, qTs_cons, qS_asg, qS_par, qS_aug, qS_ife, qS_for, qS_forD, qS_while, qS_ret, qS_retN, qS_drop, qS_pass, qS_brk, qS_cont, qS_raise, qS_try, qS_pick, qSs_nil, qSs_cons, dv_int, dv_bl, dv_str, dv_non, List.getElem?_cons_zero, List.getElem?_cons_succ, List.set_cons_zero, List.set_cons_succ, List.length_cons, List.length_nil, Nat.reduceAdd, Nat.reduceLT, if_true, fin_rt, fin_nx, at_0, at_1, at_2, at_3, itemV_ref, itemV_tup, cmp_eq_int, cmp_ne_int, cmp_lt_int, cmp_le_int, cmp_gt_int, cmp_ge_int, bin_add, bin_sub, bi_int_int, B6, b4l0, len_tup, st]
    have n : (setL (.int bd.length) L (.inl o)).length ≤ L.length + 1 := put_len _ _ _
    obtain ⟨w10', h⟩ := outs_run (K := K) (f := f) (bd := bd) (w0 := w0) (w1 := w1) (w2 := w2) (w4 := w4) (w6 := w6) (w7 := w7) (w8 := w8) (w9 := w9) (w11 := w11) (w12 := w12) (w13 := w13) os (setL (.int bd.length) L (.inl o)) _ (some (.int o)) (get_set hl) (by omega)
    refine ⟨w10', ?_⟩
    rw [List.map_cons, forL_nx free_ok t, h, set2, List.map_cons, List.foldl_cons]
/-- the buffers in main memory -/
def mains : List (Str × Int) → Int → List Int
  | [], _ => []
  | b :: bs, a => if decide (b.1 = ("main" : Str)) = true then a :: mains bs (a + 1) else mains bs (a + 1)
def mainO (x : DV) : Option DV := match x with
  | .tup [.int i, .tup [.str z, _]] => if decide (z = ("main" : Str)) = true then some (.int i) else none
  | _ => none
theorem mains_is : ∀ (bs : List (Str × Int)) (a : Int), (((bs.map bD).mapIdx fun (i : Nat) x => DV.tup [.int (a + (i : Int)), x]).filterMap mainO) = (mains bs a).map DV.int
  | [], a => rfl
  | b :: bs, a => by
    have ih := mains_is bs (a + 1)
    have m : mainO (DV.tup [.int a, bD b]) = if decide (b.1 = ("main" : Str)) = true then some (.int a) else none := rfl
    have m2 : mains (b :: bs) a = if decide (b.1 = ("main" : Str)) = true then a :: mains bs (a + 1) else mains bs (a + 1) := rfl
    rw [List.map_cons, List.mapIdx_cons, shift_is, List.filterMap_cons, ih, show a + ((0 : Nat) : Int) = a by omega, m, m2]
    by_cases e : decide (b.1 = ("main" : Str)) = true
    · rw [if_pos e, if_pos e]
      rfl
    · rw [if_neg e, if_neg e]
/-- when a buffer lives -/
def fstO (ts : List Sn) (i : Int) : Int := ((hits i ts 0).head?).getD 0
def lstO (ts : List Sn) (os : List Int) (i : Int) : Int := if (os.any fun o => decide (o = i)) = true then (ts.length : Int) else ((hits i ts 0).getLast?).getD 0
def pD (p : Int × Int) : DV := .tup [.int p.1, .int p.2]
def liveL (bs : List (Str × Int)) (ts : List Sn) (os : List Int) : List (Int × Int) := (mains bs 0).map fun i => (fstO ts i, lstO ts os i)
theorem pick_all (g : Int → DV) (h : DV → Option DV) (hg : ∀ i, h (.int i) = some (g i)) : ∀ l : List Int, (l.map DV.int).filterMap h = l.map g
  | [] => rfl
  | i :: l => by rw [List.map_cons, List.filterMap_cons, hg, pick_all g h hg l, List.map_cons]
theorem mains_le : ∀ (bs : List (Str × Int)) (a : Int), (mains bs a).length ≤ bs.length
  | [], _ => Nat.le_refl _
  | b :: bs, a => by
    have := mains_le bs (a + 1)
    unfold mains
    split
    · rw [List.length_cons, List.length_cons]; omega
    · rw [List.length_cons]; omega
theorem int_or (o : Option Int) : (o.map DV.int).getD (.int 0) = .int (o.getD 0) := by cases o <;> rfl
theorem lives_ok {K : Nat} {bs : List (Str × Int)} {ts : List Sn} {os : List Int} {s : Store} (hK : 9 ≤ K) (hD : Dr s d) (hb : BsV bs) (ht : ∀ t ∈ ts, t.ht ≤ 9) (hl : ts.length ≤ 40) (ho : os.length ≤ 10) :
    ∃ s', callAt Dt Gt subt (K + 1) 4 [.tup [.tup (bs.map bD), .tup (ts.map snD)], .tup (os.map DV.int)] s = .ok (.tup ((liveL bs ts os).map pD)) s' ∧ Dr s' d ∧ Kp d s s' := by
  obtain ⟨S1, hS1⟩ : ∃ S, S = s ++ [Cell.dct []] ++ [Cell.dct []] := ⟨_, rfl⟩
  have hf : S1[s.length]? = some (.dct []) := by rw [hS1]; exact get_more get_snoc
  obtain ⟨l, hln⟩ : ∃ l, l = (s ++ [Cell.dct []]).length := ⟨_, rfl⟩
  have ln : l = s.length + 1 := by rw [hln, List.length_append]; rfl
  have hl1 : S1[l]? = some (.dct []) := by rw [hS1, hln]; exact get_snoc
  have K1 : Kp s.length s S1 := by rw [hS1]; exact Kp.app.trans Kp.app
  obtain ⟨F, L, w6, w7, w8, w9, s2, e2, f2, l2, nL, K2, gF, gL⟩ := sns_run (d := s.length) (K := K) (f := s.length) (l := l) (s0 := s) (w0 := some (.tup [.tup (bs.map bD), .tup (ts.map snD)])) (w1 := some (.tup (os.map DV.int))) (w2 := some (.tup (bs.map bD))) (w3 := some (.tup (ts.map snD))) (w10 := none) (w11 := none) (w12 := none) (w13 := none) hK (by omega) (Nat.le_refl _) (by omega) ts 0 [] [] S1 none none none none ht hf hl1 (by rw [List.length_nil]; omega) (by rw [List.length_nil]; omega) K1
  have c1 : evS (callAt Dt Gt subt K) Gt subt (.for_ (.tup (.cons (.name 6) (.cons (.name 7) (.nil)))) (.enum (.slot 3)) b4l2) [some (.tup [.tup (bs.map bD), .tup (ts.map snD)]), some (.tup (os.map DV.int)), some (.tup (bs.map bD)), some (.tup (ts.map snD)), some (.ref s.length), some (.ref l), none, none, none, none, none, none, none, none] S1 = _ := evS_for (by
    simp -implicitDefEqProofs -dsimp only [↓bind_K, ↓out_K, ↓then_K, ↓optR_K, ↓cond_K, ↓forL_K, ↓lcL_K, ↓whileL_K, ↓catch_K, ↓catchK_nx, ↓catchK_rt, ↓catchK_exc, unset_rt, hush_rt, hush_nx, hush_ct, fin_exc, ↓bindK_ok, ↓outK_ok, ↓bindK_exc, ↓outK_exc, ↓thenK_nx, ↓thenK_rt, ↓thenK_exc, ↓thenK_bk, ↓thenK_ct, ↓optRK_some, ↓quiet_ok, ↓condK_t, ↓condK_f, ↓truth_bl, qE_slot, qE_isx, qE_k, qE_glob, qE_bin, qE_neg, qE_not, qE_and, qE_or, qE_cmp, qE_chain, qE_ife, qE_ix, qE_slc, qE_rev, qE_tup, qE_lst, qE_call, qE_bi, qE_isi, qE_meth, qE_lc, qE_smeth, qE_get2, qE_setd, qE_dnew, qEs_nil, qEs_cons, qAll_nil, qAll_cons, qO_no, qO_some, qI_seq, qI_range1, qI_range2, qI_range3, qI_zip, qI_enum, qI_rev, qT_name, qT_tup, qT_sub, qTs_nil, qTs_cons, qS_asg, qS_par, qS_aug, qS_ife, qS_for, qS_forD, qS_while, qS_ret, qS_retN, qS_drop, qS_pass, qS_brk, qS_cont, qS_raise, qS_try, qS_pick, qSs_nil, qSs_cons, dv_int, dv_bl, dv_str, dv_non, List.getElem?_cons_zero, List.getElem?_cons_succ, List.set_cons_zero, List.set_cons_succ, List.length_cons, List.length_nil, Nat.reduceAdd, Nat.reduceLT, if_true, fin_rt, fin_nx, at_0, at_1, at_2, at_3, itemV_ref, itemV_tup, cmp_eq_int, cmp_ne_int, cmp_lt_int, cmp_le_int, cmp_gt_int, cmp_ge_int, bin_add, bin_sub, bi_int_int, items_is]) e2
  rw [List.length_nil] at nL
  obtain ⟨w10, e3⟩ := outs_run (K := K) (f := s.length) (l := l) (bd := ts.map snD) (w0 := some (.tup [.tup (bs.map bD), .tup (ts.map snD)])) (w1 := some (.tup (os.map DV.int))) (w2 := some (.tup (bs.map bD))) (w4 := some (.ref s.length)) (w6 := w6) (w7 := w7) (w8 := w8) (w9 := w9) (w11 := none) (w12 := none) (w13 := none) os L s2 none l2 (by omega)
  have c2 : evS (callAt Dt Gt subt K) Gt subt (.for_ (.name 10) (.seq (.slot 1)) b4l0) [some (.tup [.tup (bs.map bD), .tup (ts.map snD)]), some (.tup (os.map DV.int)), some (.tup (bs.map bD)), some (.tup (ts.map snD)), some (.ref s.length), some (.ref l), w6, w7, w8, w9, none, none, none, none] s2 = _ := evS_for (by
    simp -implicitDefEqProofs -dsimp only [↓bind_K, ↓out_K, ↓then_K, ↓optR_K, ↓cond_K, ↓forL_K, ↓lcL_K, ↓whileL_K, ↓catch_K, ↓catchK_nx, ↓catchK_rt, ↓catchK_exc, unset_rt, hush_rt, hush_nx, hush_ct, fin_exc, ↓bindK_ok, ↓outK_ok, ↓bindK_exc, ↓outK_exc, ↓thenK_nx, ↓thenK_rt, ↓thenK_exc, ↓thenK_bk, ↓thenK_ct, ↓optRK_some, ↓quiet_ok, ↓condK_t, ↓condK_f, ↓truth_bl, qE_slot, qE_isx, qE_k, qE_glob, qE_bin, qE_neg, qE_not, qE_and, qE_or, qE_cmp, qE_chain, qE_ife, qE_ix, qE_slc, qE_rev, qE_tup, qE_lst, qE_call, qE_bi, qE_isi, qE_meth, qE_lc, qE_smeth, qE_get2, qE_setd, qE_dnew, qEs_nil, qEs_cons, qAll_nil, qAll_cons, qO_no, qO_some, qI_seq, qI_range1, qI_range2, qI_range3, qI_zip, qI_enum, qI_rev, qT_name, qT_tup, qT_sub, qTs_nil, qTs_cons, qS_asg, qS_par, qS_aug, qS_ife, qS_for, qS_forD, qS_while, qS_ret, qS_retN, qS_drop, qS_pass, qS_brk, qS_cont, qS_raise, qS_try, qS_pick, qSs_nil, qSs_cons, dv_int, dv_bl, dv_str, dv_non, List.getElem?_cons_zero, List.getElem?_cons_succ, List.set_cons_zero, List.set_cons_succ, List.length_cons, List.length_nil, Nat.reduceAdd, Nat.reduceLT, if_true, fin_rt, fin_nx, at_0, at_1, at_2, at_3, itemV_ref, itemV_tup, cmp_eq_int, cmp_ne_int, cmp_lt_int, cmp_le_int, cmp_gt_int, cmp_ge_int, bin_add, bin_sub, bi_int_int]) e3
  obtain ⟨L2', hL2⟩ : ∃ X, X = (os.map Sum.inl).foldl (setL (.int ((ts.map snD).length : Int))) L := ⟨_, rfl⟩
  rw [← hL2] at c2
  obtain ⟨S3, hS3⟩ : ∃ S, S = s2.set l (.dct L2') := ⟨_, rfl⟩
  rw [← hS3] at c2
  have K3 : Kp s.length s S3 := by rw [hS3]; exact kp_up K2 (by omega)
  have f3 : S3[s.length]? = some (.dct F) := by rw [hS3, get_set_ne (by omega)]; exact f2
  have l3 : S3[l]? = some (.dct L2') := by rw [hS3]; exact get_set l2
  have D3 : Dr S3 d := hD.keep fun n hn => by
    have lt := hD.lt
    exact K3.2 n (by omega) (by omega)
  have K3' : Kp d s S3 := ⟨K3.1, fun n hn _ => K3.2 n hn (by omega)⟩
  -- the buffers in main memory
  have mm : evE (callAt Dt Gt subt K) Gt subt (.lc (.tup (.cons (.name 9) (.cons (.tup (.cons (.name 12) (.cons (.name 13) (.nil)))) (.nil)))) (.enum (.slot 2)) (.cons (.cmp .eq (.slot 12) (.k (.str "main"))) .nil) (.slot 9) [9, 12, 13])
      [some (.tup [.tup (bs.map bD), .tup (ts.map snD)]), some (.tup (os.map DV.int)), some (.tup (bs.map bD)), some (.tup (ts.map snD)), some (.ref s.length), some (.ref l), w6, w7, w8, w9, w10, none, none, none] S3 = .ok (.ref S3.length) (S3 ++ [.lst ((mains bs 0).map DV.int)]) := by
    rw [← mains_is]
    refine lc_run mainO (f := .free) ?_ (fun _ => free_ok) (fun x hx acc => ?_) ?_
    · simp -implicitDefEqProofs -dsimp only [↓bind_K, ↓out_K, ↓then_K, ↓optR_K, ↓cond_K, ↓forL_K, ↓lcL_K, ↓whileL_K, ↓catch_K, ↓catchK_nx, ↓catchK_rt, ↓catchK_exc, unset_rt, hush_rt, hush_nx, hush_ct, fin_exc, ↓bindK_ok, ↓outK_ok, ↓bindK_exc, ↓outK_exc, ↓thenK_nx, ↓thenK_rt, ↓thenK_exc, ↓thenK_bk, ↓thenK_ct, ↓optRK_some, ↓quiet_ok, ↓condK_t, ↓condK_f, ↓truth_bl, qE_slot, qE_isx, qE_k, qE_glob, qE_bin, qE_neg, qE_not, qE_and, qE_or, qE_cmp, qE_chain, qE_ife, qE_ix, qE_slc, qE_rev, qE_tup, qE_lst, qE_call, qE_bi, qE_isi, qE_meth, qE_lc, qE_smeth, qE_get2, qE_setd, qE_dnew, qEs_nil, qEs_cons, qAll_nil, qAll_cons, qO_no, qO_some, qI_seq, qI_range1, qI_range2, qI_range3, qI_zip, qI_enum, qI_rev, qT_name, qT_tup, qT_sub, qTs_nil, qTs_cons, qS_asg, qS_par, qS_aug, qS_ife, qS_for, qS_forD, qS_while, qS_ret, qS_retN, qS_drop, qS_pass, qS_brk, qS_cont, qS_raise, qS_try, qS_pick, qSs_nil, qSs_cons, dv_int, dv_bl, dv_str, dv_non, List.getElem?_cons_zero, List.getElem?_cons_succ, List.set_cons_zero, List.set_cons_succ, List.length_cons, List.length_nil, Nat.reduceAdd, Nat.reduceLT, if_true, fin_rt, fin_nx, at_0, at_1, at_2, at_3, itemV_ref, itemV_tup, cmp_eq_int, cmp_ne_int, cmp_lt_int, cmp_le_int, cmp_gt_int, cmp_ge_int, bin_add, bin_sub, bi_int_int]
    · obtain ⟨i, hi, rfl⟩ := List.mem_mapIdx.mp hx
      rw [List.length_map] at hi
      have hg : (bs.map bD)[i]'(by rw [List.length_map]; exact hi) = .tup [.str (bs[i]).1, .int (bs[i]).2] := by
        rw [List.getElem_map]
        rfl
      rw [hg]
      have q := eq_str (s := S3 ++ [Cell.lst acc]) (hb.2.2.1 _ (List.getElem_mem hi)).2.2 (b := "main") (by decide +kernel)
      show _ = Res.ok (if decide ((bs[i]).1 = ("main" : Str)) = true then some (DV.int (0 + (i : Int))) else none) _
      generalize decide ((bs[i]).1 = ("main" : Str)) = x1 at q
      cases x1 with
      | true =>
        simp -implicitDefEqProofs -dsimp only [↓bind_K, ↓out_K, ↓then_K, ↓optR_K, ↓cond_K, ↓forL_K, ↓lcL_K, ↓whileL_K, ↓catch_K, ↓catchK_nx, ↓catchK_rt, ↓catchK_exc, unset_rt, hush_rt, hush_nx, hush_ct, fin_exc, ↓bindK_ok, ↓outK_ok, ↓bindK_exc, ↓outK_exc, ↓thenK_nx, ↓thenK_rt, ↓thenK_exc, ↓thenK_bk, ↓thenK_ct, ↓optRK_some, ↓quiet_ok, ↓condK_t, ↓condK_f, ↓truth_bl, qE_slot, qE_isx, qE_k, qE_glob, qE_bin, qE_neg, qE_not, qE_and, qE_or, qE_cmp, qE_chain, qE_ife, qE_ix, qE_slc, qE_rev, qE_tup, qE_lst, qE_call, qE_bi, qE_isi, qE_meth, qE_lc, qE_smeth, qE_get2, qE_setd, qE_dnew, qEs_nil, qEs_cons, qAll_nil, qAll_cons, qO_no, qO_some, qI_seq, qI_range1, qI_range2, qI_range3, qI_zip, qI_enum, qI_rev, qT_name, qT_tup, qT_sub, qTs_nil, qTs_cons, qS_asg, qS_par, qS_aug, qS_ife, qS_for, qS_forD, qS_while, qS_ret, qS_retN, qS_drop, qS_pass, qS_brk, qS_cont, qS_raise, qS_try, qS_pick, qSs_nil, qSs_cons, dv_int, dv_bl, dv_str, dv_non, List.getElem?_cons_zero, List.getElem?_cons_succ, List.set_cons_zero, List.set_cons_succ, List.length_cons, List.length_nil, Nat.reduceAdd, Nat.reduceLT, if_true, fin_rt, fin_nx, at_0, at_1, at_2, at_3, itemV_ref, itemV_tup, cmp_eq_int, cmp_ne_int, cmp_lt_int, cmp_le_int, cmp_gt_int, cmp_ge_int, bin_add, bin_sub, bi_int_int, wipe, q]
      | false =>
        simp -implicitDefEqProofs -dsimp only [↓bind_K, ↓out_K, ↓then_K, ↓optR_K, ↓cond_K, ↓forL_K, ↓lcL_K, ↓whileL_K, ↓catch_K, ↓catchK_nx, ↓catchK_rt, ↓catchK_exc, unset_rt, hush_rt, hush_nx, hush_ct, fin_exc, ↓bindK_ok, ↓outK_ok, ↓bindK_exc, ↓outK_exc, ↓thenK_nx, ↓thenK_rt, ↓thenK_exc, ↓thenK_bk, ↓thenK_ct, ↓optRK_some, ↓quiet_ok, ↓condK_t, ↓condK_f, ↓truth_bl, qE_slot, qE_isx, qE_k, qE_glob, qE_bin, qE_neg, qE_not, qE_and, qE_or, qE_cmp, qE_chain, qE_ife, qE_ix, qE_slc, qE_rev, qE_tup, qE_lst, qE_call, qE_bi, qE_isi, qE_meth, qE_lc, qE_smeth, qE_get2, qE_setd, qE_dnew, qEs_nil, qEs_cons, qAll_nil, qAll_cons, qO_no, qO_some, qI_seq, qI_range1, qI_range2, qI_range3, qI_zip, qI_enum, qI_rev, qT_name, qT_tup, qT_sub, qTs_nil, qTs_cons, qS_asg, qS_par, qS_aug, qS_ife, qS_for, qS_forD, qS_while, qS_ret, qS_retN, qS_drop, qS_pass, qS_brk, qS_cont, qS_raise, qS_try, qS_pick, qSs_nil, qSs_cons, dv_int, dv_bl, dv_str, dv_non, List.getElem?_cons_zero, List.getElem?_cons_succ, List.set_cons_zero, List.set_cons_succ, List.length_cons, List.length_nil, Nat.reduceAdd, Nat.reduceLT, if_true, fin_rt, fin_nx, at_0, at_1, at_2, at_3, itemV_ref, itemV_tup, cmp_eq_int, cmp_ne_int, cmp_lt_int, cmp_le_int, cmp_gt_int, cmp_ge_int, bin_add, bin_sub, bi_int_int, wipe, q]
        rfl
    · rw [List.length_mapIdx, List.length_map]
      exact Nat.le_trans hb.2.1 (by decide)
  -- their lives
  obtain ⟨S4, hS4⟩ : ∃ S, S = S3 ++ [Cell.lst ((mains bs 0).map DV.int)] := ⟨_, rfl⟩
  rw [← hS4] at mm
  have f4 : S4[s.length]? = some (.dct F) := by rw [hS4]; exact get_more f3
  have l4 : S4[l]? = some (.dct L2') := by rw [hS4]; exact get_more l3
  have m4 : cellL S4 S3.length = some ((mains bs 0).map DV.int) := by rw [hS4]; exact cell_snoc
  have gF' : ∀ i, (getD F (.inl i)).getD (.int 0) = .int (fstO ts i) := fun i => by
    rw [gF i, getD_nil]
    exact int_or _
  have gL' : ∀ i, (getD L2' (.inl i)).getD (.int 0) = .int (lstO ts os i) := fun i => by
    rw [hL2, foldL_at, List.length_map]
    unfold lstO
    by_cases e : (os.any fun o => decide (o = i)) = true
    · have mem : (Sum.inl i : L2.Key) ∈ os.map Sum.inl := by
        obtain ⟨o, ho, hd⟩ := List.any_eq_true.mp e
        have := of_decide_eq_true hd
        subst this
        exact List.mem_map.mpr ⟨o, ho, rfl⟩
      rw [if_pos e, if_pos mem]
      rfl
    · have mem : ¬ (Sum.inl i : L2.Key) ∈ os.map Sum.inl := fun h => by
        obtain ⟨o, ho, hd⟩ := List.mem_map.mp h
        cases hd
        exact e (List.any_eq_true.mpr ⟨i, ho, decide_eq_true rfl⟩)
      rw [if_neg e, if_neg mem, gL i, getD_nil]
      cases (hits i ts 0).getLast? <;> rfl
  have z2 := z_le 2 (by decide)
  have pp : evE (callAt Dt Gt subt K) Gt subt (.lc (.name 9) (.seq (.slot 11)) (.nil) (.tup (.cons (.get2 (.slot 4) (.slot 9) (.k (.int 0))) (.cons (.get2 (.slot 5) (.slot 9) (.k (.int 0))) (.nil)))) [9])
      [some (.tup [.tup (bs.map bD), .tup (ts.map snD)]), some (.tup (os.map DV.int)), some (.tup (bs.map bD)), some (.tup (ts.map snD)), some (.ref s.length), some (.ref l), w6, w7, w8, w9, w10, some (.ref S3.length), none, none] S4 = .ok (.ref S4.length) (S4 ++ [.lst ((liveL bs ts os).map pD)]) := by
    have sh : (liveL bs ts os).map pD = ((mains bs 0).map DV.int).filterMap (fun x => match x with | .int i => some (pD (fstO ts i, lstO ts os i)) | _ => none) := by
      rw [pick_all (fun i => pD (fstO ts i, lstO ts os i)) _ (fun i => rfl)]
      unfold liveL
      rw [List.map_map]
      rfl
    rw [sh]
    refine lc_run _ (f := .cell S3.length ((mains bs 0).map DV.int)) ?_ (fun acc => cell_app m4) (fun x hx acc => ?_) ?_
    · simp -implicitDefEqProofs -dsimp only [↓bind_K, ↓out_K, ↓then_K, ↓optR_K, ↓cond_K, ↓forL_K, ↓lcL_K, ↓whileL_K, ↓catch_K, ↓catchK_nx, ↓catchK_rt, ↓catchK_exc, unset_rt, hush_rt, hush_nx, hush_ct, fin_exc, ↓bindK_ok, ↓outK_ok, ↓bindK_exc, ↓outK_exc, ↓thenK_nx, ↓thenK_rt, ↓thenK_exc, ↓thenK_bk, ↓thenK_ct, ↓optRK_some, ↓quiet_ok, ↓condK_t, ↓condK_f, ↓truth_bl, qE_slot, qE_isx, qE_k, qE_glob, qE_bin, qE_neg, qE_not, qE_and, qE_or, qE_cmp, qE_chain, qE_ife, qE_ix, qE_slc, qE_rev, qE_tup, qE_lst, qE_call, qE_bi, qE_isi, qE_meth, qE_lc, qE_smeth, qE_get2, qE_setd, qE_dnew, qEs_nil, qEs_cons, qAll_nil, qAll_cons, qO_no, qO_some, qI_seq, qI_range1, qI_range2, qI_range3, qI_zip, qI_enum, qI_rev, qT_name, qT_tup, qT_sub, qTs_nil, qTs_cons, qS_asg, qS_par, qS_aug, qS_ife, qS_for, qS_forD, qS_while, qS_ret, qS_retN, qS_drop, qS_pass, qS_brk, qS_cont, qS_raise, qS_try, qS_pick, qSs_nil, qSs_cons, dv_int, dv_bl, dv_str, dv_non, List.getElem?_cons_zero, List.getElem?_cons_succ, List.set_cons_zero, List.set_cons_succ, List.length_cons, List.length_nil, Nat.reduceAdd, Nat.reduceLT, if_true, fin_rt, fin_nx, at_0, at_1, at_2, at_3, itemV_ref, itemV_tup, cmp_eq_int, cmp_ne_int, cmp_lt_int, cmp_le_int, cmp_gt_int, cmp_ge_int, bin_add, bin_sub, bi_int_int, m4]
    · obtain ⟨i, _, rfl⟩ := List.mem_map.mp hx
      have df : dctAt (S4 ++ [Cell.lst acc]) s.length = some F := by
        unfold dctAt
        rw [get_more f4]
      have dl : dctAt (S4 ++ [Cell.lst acc]) l = some L2' := by
        unfold dctAt
        rw [get_more l4]
      have ki : key? (.int i) = some (.inl i) := rfl
      simp -implicitDefEqProofs -dsimp only [↓bind_K, ↓out_K, ↓then_K, ↓optR_K, ↓cond_K, ↓forL_K, ↓lcL_K, ↓whileL_K, ↓catch_K, ↓catchK_nx, ↓catchK_rt, ↓catchK_exc, unset_rt, hush_rt, hush_nx, hush_ct, fin_exc, ↓bindK_ok, ↓outK_ok, ↓bindK_exc, ↓outK_exc, ↓thenK_nx, ↓thenK_rt, ↓thenK_exc, ↓thenK_bk, ↓thenK_ct, ↓optRK_some, ↓quiet_ok, ↓condK_t, ↓condK_f, ↓truth_bl, qE_slot, qE_isx, qE_k, qE_glob, qE_bin, qE_neg, qE_not, qE_and, qE_or, qE_cmp, qE_chain, qE_ife, qE_ix, qE_slc, qE_rev, qE_tup, qE_lst, qE_call, qE_bi, qE_isi, qE_meth, qE_lc, qE_smeth, qE_get2, qE_setd, qE_dnew, qEs_nil, qEs_cons, qAll_nil, qAll_cons, qO_no, qO_some, qI_seq, qI_range1, qI_range2, qI_range3, qI_zip, qI_enum, qI_rev, qT_name, qT_tup, qT_sub, qTs_nil, qTs_cons, qS_asg, qS_par, qS_aug, qS_ife, qS_for, qS_forD, qS_while, qS_ret, qS_retN, qS_drop, qS_pass, qS_brk, qS_cont, qS_raise, qS_try, qS_pick, qSs_nil, qSs_cons, dv_int, dv_bl, dv_str, dv_non, List.getElem?_cons_zero, List.getElem?_cons_succ, List.set_cons_zero, List.set_cons_succ, List.length_cons, List.length_nil, Nat.reduceAdd, Nat.reduceLT, if_true, fin_rt, fin_nx, at_0, at_1, at_2, at_3, itemV_ref, itemV_tup, cmp_eq_int, cmp_ne_int, cmp_lt_int, cmp_le_int, cmp_gt_int, cmp_ge_int, bin_add, bin_sub, bi_int_int, wipe, qAll_nil, df, dl, ki, gF', gL', z2, pD]
    · rw [List.length_map]
      exact Nat.le_trans (mains_le bs 0) (Nat.le_trans hb.2.1 (by decide))
  have t5 : cellL (S4 ++ [Cell.lst ((liveL bs ts os).map pD)]) S4.length = some ((liveL bs ts os).map pD) := cell_snoc
  refine ⟨S4 ++ [.lst ((liveL bs ts os).map pD)], ?_, by rw [hS4]; exact D3.more.more, by rw [hS4]; exact K3'.trans (Kp.app.trans Kp.app)⟩
  rw [hln] at c1 c2 mm pp
  simp -implicitDefEqProofs -dsimp only [↓bind_K, ↓out_K, ↓then_K, ↓optR_K, ↓cond_K, ↓forL_K, ↓lcL_K, ↓whileL_K, ↓catch_K, ↓catchK_nx, ↓catchK_rt, ↓catchK_exc, unset_rt, hush_rt, hush_nx, hush_ct, fin_exc, ↓bindK_ok, ↓outK_ok, ↓bindK_exc, ↓outK_exc, ↓thenK_nx, ↓thenK_rt, ↓thenK_exc, ↓thenK_bk, ↓thenK_ct, ↓optRK_some, ↓quiet_ok, ↓condK_t, ↓condK_f, ↓truth_bl, qE_slot, qE_isx, qE_k, qE_glob, qE_bin, qE_neg, qE_not, qE_and, qE_or, qE_cmp, qE_chain, qE_ife, qE_ix, qE_slc, qE_rev, qE_tup, qE_lst, qE_call, qE_bi, qE_isi, qE_meth, qE_lc, qE_smeth, qE_get2, qE_setd, qE_dnew, qEs_nil, qEs_cons, qAll_nil, qAll_cons, qO_no, qO_some, qI_seq, qI_range1, qI_range2, qI_range3, qI_zip, qI_enum, qI_rev, qT_name, qT_tup, qT_sub, qTs_nil, qTs_cons, qS_asg, qS_par, qS_aug, qS_ife, qS_for, qS_forD, qS_while, qS_ret, qS_retN, qS_drop, qS_pass, qS_brk, qS_cont, qS_raise, qS_try, qS_pick, qSs_nil, qSs_cons, dv_int, dv_bl, dv_str, dv_non, List.getElem?_cons_zero, List.getElem?_cons_succ, List.set_cons_zero, List.set_cons_succ, List.length_cons, List.length_nil, Nat.reduceAdd, Nat.reduceLT, if_true, fin_rt, fin_nx, at_0, at_1, at_2, at_3, itemV_ref, itemV_tup, cmp_eq_int, cmp_ne_int, cmp_lt_int, cmp_le_int, cmp_gt_int, cmp_ge_int, bin_add, bin_sub, bi_int_int, call_4, b4, ← hS1, ↓c1, ↓c2, ↓mm, ↓pp, tuple_ref t5]
end
section
variable {k d : Nat} {s : Store}
/-! ### what is due -/
def psF (i : Int) : List Sn → Int → List (DV × Option DV)
  | [], _ => []
  | t :: ts, a => (.int a, if t.uses i = true then some (.int a) else none) :: psF i ts (a + 1)
def rngI : Nat → Int → List DV
  | 0, _ => []
  | n + 1, a => .int a :: rngI n (a + 1)
theorem rng_is : ∀ (n : Nat) (a : Int), ((List.range n).map fun (j : Nat) => DV.int (a + (j : Int))) = rngI n a
  | 0, a => rfl
  | n + 1, a => by
    rw [List.range_succ_eq_map, List.map_cons, List.map_map, show rngI (n + 1) a = .int a :: rngI n (a + 1) from rfl, ← rng_is n (a + 1), show a + ((0 : Nat) : Int) = a by omega]
    congr 1
    refine congrArg (fun f => List.map f (List.range n)) (funext fun j => ?_)
    show DV.int (a + ((j + 1 : Nat) : Int)) = _
    rw [show a + ((j + 1 : Nat) : Int) = a + 1 + (j : Int) by omega]
theorem psF_fst (i : Int) : ∀ (ts : List Sn) (a : Int), (psF i ts a).map Prod.fst = rngI ts.length a
  | [], a => rfl
  | t :: ts, a => by
    show DV.int a :: (psF i ts (a + 1)).map Prod.fst = DV.int a :: rngI ts.length (a + 1)
    rw [psF_fst i ts]
theorem psF_snd (i : Int) : ∀ (ts : List Sn) (a : Int), (psF i ts a).filterMap Prod.snd = (hits i ts a).map DV.int
  | [], a => rfl
  | t :: ts, a => by
    rw [show psF i (t :: ts) a = (.int a, if t.uses i = true then some (.int a) else none) :: psF i ts (a + 1) from rfl, List.filterMap_cons, psF_snd i ts, show hits i (t :: ts) a = if t.uses i = true then a :: hits i ts (a + 1) else hits i ts (a + 1) from rfl]
    by_cases e : t.uses i = true
    · simp only [if_pos e]
      rfl
    · simp only [if_neg e]
theorem psF_len (i : Int) : ∀ (ts : List Sn) (a : Int), (psF i ts a).length = ts.length
  | [], _ => rfl
  | t :: ts, a => by
    show (psF i ts (a + 1)).length + 1 = ts.length + 1
    rw [psF_len i ts]
theorem psF_mem {i : Int} {p : DV × Option DV} : ∀ {ts : List Sn} {a : Int}, p ∈ psF i ts a → ∃ (j : Nat) (t : Sn), ts[j]? = some t ∧ p = (.int (a + (j : Int)), if t.uses i = true then some (.int (a + (j : Int))) else none)
  | [], _, h => by cases h
  | t :: ts, a, h => by
    rcases List.mem_cons.mp h with rfl | h
    · exact ⟨0, t, rfl, by rw [show a + ((0 : Nat) : Int) = a by omega]⟩
    · obtain ⟨j, u, h1, h2⟩ := psF_mem h
      exact ⟨j + 1, u, h1, by rw [h2, show a + 1 + (j : Int) = a + ((j + 1 : Nat) : Int) by omega]⟩
theorem hits_le (i : Int) : ∀ (ts : List Sn) (a : Int), (hits i ts a).length ≤ ts.length
  | [], _ => Nat.le_refl _
  | t :: ts, a => by
    have := hits_le i ts (a + 1)
    rw [show hits i (t :: ts) a = if t.uses i = true then a :: hits i ts (a + 1) else hits i ts (a + 1) from rfl]
    split
    · rw [List.length_cons, List.length_cons]; omega
    · rw [List.length_cons]; omega
theorem last_at {l : List Int} (h : l ≠ []) : L2.atI (l.map DV.int) (-1) = some (.int (l.getLast?.getD 0)) := by
  have hn : 0 < l.length := List.length_pos_iff.mpr h
  have e : L2.ixN (l.map DV.int).length (-1) = some (l.length - 1) := by
    rw [List.length_map]
    unfold L2.ixN
    split
    · omega
    · split
      · congr 1
        omega
      · omega
  unfold L2.atI
  rw [e]
  show (l.map DV.int)[l.length - 1]? = _
  rw [List.getElem?_map, List.getLast?_eq_getElem?]
  cases g : l[l.length - 1]? with
  | none =>
    rw [List.getElem?_eq_none_iff] at g
    omega
  | some v => rfl
theorem head_at {l : List Int} (h : l ≠ []) : L2.atI (l.map DV.int) 0 = some (.int (l.head?.getD 0)) := by
  cases l with
  | nil => exact absurd rfl h
  | cons a l => exact at_0
theorem in_ints {i : Int} {os : List Int} {s : Store} : cmpV .in (.int i) (.tup (os.map DV.int)) s = .ok (os.any fun o => decide (o = i)) s := by
  show optR (ints? (os.map DV.int)) _ = _
  rw [ints_map]
  rfl
noncomputable def B7 (K : Nat) : DV → Ip.Loc → Store → Out := fun x r s => (evT (callAt Dt Gt subt K) Gt subt (.name 4) x r s).out r fun r s => evSs (callAt Dt Gt subt K) Gt subt b19l1 r s
theorem due_turn {K m : Nat} {bs : List (Str × Int)} {ts : List Sn} {os : List Int} {s0 : Store} {due : List DV} {a : Int} {b : Str × Int} {w0 w1 w4 w7 w8 w9 w10 w11 w12 w13 w14 w15 : Option DV} (hK : 9 ≤ K) (D : Dr s d) (hb : BsV bs) (hbi : L2.atI bs a = some b) (hbm : b ∈ bs) (ht : ∀ t ∈ ts, t.ht ≤ 9) (hl : ts.length ≤ 40) (hm : s[m]? = some (.lst due)) (zd : due.length ≤ 100) (h0 : s0.length ≤ m) (hdm : d < m) (K0 : Kp d s0 s) :
    ∃ w7' w8' w9' w15' s', B7 K (.int a) [w0, w1, some (.tup (bs.map bD)), some (.tup (ts.map snD)), w4, some (.tup (os.map DV.int)), some (.ref m), w7, w8, w9, w10, w11, w12, w13, w14, w15] s = .nx [w0, w1, some (.tup (bs.map bD)), some (.tup (ts.map snD)), some (.int a), some (.tup (os.map DV.int)), some (.ref m), w7', w8', w9', w10, w11, w12, w13, w14, w15'] s' ∧
      s'[m]? = some (.lst (due ++ if decide (b.1 = ("main" : Str)) = true then [pD (fstO ts a, lstO ts os a)] else [])) ∧ Dr s' d ∧ Kp d s0 s' := by
  have q := eq_str (s := s) (hb.2.2.1 b hbm).2.2 (b := "main") (by decide +kernel)
  have hB : BufV d s (.tup (bs.map bD)) bs := .inl rfl
  have i1 : itemV (.tup (bs.map bD)) (.int a) s = .ok (.tup [.str b.1, .int b.2]) s := hB.at_ hbi
  have a1 : L2.atI (bs.map bD) a = some (.tup [.str b.1, .int b.2]) := by
    rw [itemV_tup] at i1
    cases e : L2.atI (bs.map bD) a with
    | none => rw [e] at i1; cases i1
    | some v =>
      rw [e] at i1
      cases i1
      rfl
  generalize decide (b.1 = ("main" : Str)) = x1 at q
  cases x1 with
  | false =>
    refine ⟨w7, w8, w9, w15, s, ?_, by rw [if_neg (by decide), List.append_nil]; exact hm, D, K0⟩
    simp -implicitDefEqProofs -dsimp only [↓bind_K, ↓out_K, ↓then_K, ↓optR_K, ↓cond_K, ↓forL_K, ↓lcL_K, ↓whileL_K, ↓catch_K, ↓catchK_nx, ↓catchK_rt, ↓catchK_exc, unset_rt, hush_rt, hush_nx, hush_ct, fin_exc, ↓bindK_ok, ↓outK_ok, ↓bindK_exc, ↓outK_exc, ↓thenK_nx, ↓thenK_rt, ↓thenK_exc, ↓thenK_bk, ↓thenK_ct, ↓optRK_some, ↓quiet_ok, ↓condK_t, ↓condK_f, ↓truth_bl, qE_slot, qE_isx, qE_k, qE_glob, qE_bin, qE_neg, qE_not, qE_and, qE_or, qE_cmp, qE_chain, qE_ife, qE_ix, qE_slc, qE_rev, qE_tup, qE_lst, qE_call, qE_bi, qE_isi, qE_meth, qE_lc, qE_smeth, qE_get2, qE_setd, qE_dnew, qEs_nil, qEs_cons, qAll_nil, qAll_cons, qO_no, qO_some, qI_seq, qI_range1, qI_range2, qI_range3, qI_zip, qI_enum, qI_rev, qT_name, qT_tup, qT_sub, qTs_nil, qTs_cons, qS_asg, qS_par, qS_aug, qS_ife, qS_for, qS_forD, qS_while, qS_ret, qS_retN, qS_drop, qS_pass, qS_brk, qS_cont, qS_raise, qS_try, qS_pick, qSs_nil, qSs_cons, dv_int, dv_bl, dv_str, dv_non, List.getElem?_cons_zero, List.getElem?_cons_succ, List.set_cons_zero, List.set_cons_succ, List.length_cons, List.length_nil, Nat.reduceAdd, Nat.reduceLT, if_true, fin_rt, fin_nx, at_0, at_1, at_2, at_3, itemV_ref, itemV_tup, cmp_eq_int, cmp_ne_int, cmp_lt_int, cmp_le_int, cmp_gt_int, cmp_ge_int, bin_add, bin_sub, bi_int_int, B7, b19l1, a1, q]
  | true =>
    have rg : (-(2 ^ 62) ≤ (ts.length : Int) ∧ (ts.length : Int) < 2 ^ 62) = True := eq_true (by omega)
    have tl : biV .len [.tup (ts.map snD)] s = .ok (.int ts.length) s := by rw [len_tup, List.length_map]
    obtain ⟨s1, e1, c1, D1, K1⟩ := lc_pairs (d := d) (K0 := K) (t := .name 15) (it := .range1 (.bi .len (.cons (.slot 3) (.nil)))) (ifs := .cons (.call 18 (.cons (.ix (.slot 3) (.slot 15)) (.cons (.slot 4) (.nil)))) .nil) (e := .slot 15) (own := [15])
      (r := [w0, w1, some (.tup (bs.map bD)), some (.tup (ts.map snD)), some (.int a), some (.tup (os.map DV.int)), some (.ref m), w7, w8, w9, w10, w11, w12, w13, w14, w15]) (s := s) (s1 := s) (f := .free) (psF a ts 0) (by
        rw [psF_fst, ← rng_is]
        simp -implicitDefEqProofs -dsimp only [↓bind_K, ↓out_K, ↓then_K, ↓optR_K, ↓cond_K, ↓forL_K, ↓lcL_K, ↓whileL_K, ↓catch_K, ↓catchK_nx, ↓catchK_rt, ↓catchK_exc, unset_rt, hush_rt, hush_nx, hush_ct, fin_exc, ↓bindK_ok, ↓outK_ok, ↓bindK_exc, ↓outK_exc, ↓thenK_nx, ↓thenK_rt, ↓thenK_exc, ↓thenK_bk, ↓thenK_ct, ↓optRK_some, ↓quiet_ok, ↓condK_t, ↓condK_f, ↓truth_bl, qE_slot, qE_isx, qE_k, qE_glob, qE_bin, qE_neg, qE_not, qE_and, qE_or, qE_cmp, qE_chain, qE_ife, qE_ix, qE_slc, qE_rev, qE_tup, qE_lst, qE_call, qE_bi, qE_isi, qE_meth, qE_lc, qE_smeth, qE_get2, qE_setd, qE_dnew, qEs_nil, qEs_cons, qAll_nil, qAll_cons, qO_no, qO_some, qI_seq, qI_range1, qI_range2, qI_range3, qI_zip, qI_enum, qI_rev, qT_name, qT_tup, qT_sub, qTs_nil, qTs_cons, qS_asg, qS_par, qS_aug, qS_ife, qS_for, qS_forD, qS_while, qS_ret, qS_retN, qS_drop, qS_pass, qS_brk, qS_cont, qS_raise, qS_try, qS_pick, qSs_nil, qSs_cons, dv_int, dv_bl, dv_str, dv_non, List.getElem?_cons_zero, List.getElem?_cons_succ, List.set_cons_zero, List.set_cons_succ, List.length_cons, List.length_nil, Nat.reduceAdd, Nat.reduceLT, if_true, fin_rt, fin_nx, at_0, at_1, at_2, at_3, itemV_ref, itemV_tup, cmp_eq_int, cmp_ne_int, cmp_lt_int, cmp_le_int, cmp_gt_int, cmp_ge_int, bin_add, bin_sub, bi_int_int, tl, rg]
        rfl) D (fun _ _ => free_ok) (by rw [psF_len]; omega) (fun p hp s2 D2 K2 => by
        obtain ⟨j, t, hj, rfl⟩ := psF_mem hp
        have htm := List.mem_of_getElem? hj
        obtain ⟨s3, e3, D3, K3⟩ := ins_ok (d := d) t K a s2 (by have := ht t htm; omega) D2
        have it : L2.atI (ts.map snD) (0 + (j : Int)) = some (.tup t.tl) := by
          rw [Int.zero_add]
          refine L2.atI_nat ?_
          rw [List.getElem?_map, hj]
          rfl
        refine ⟨s3, ?_, D3, K3⟩
        cases hu : t.uses a with
        | true =>
          rw [hu] at e3
          simp -implicitDefEqProofs -dsimp only [↓bind_K, ↓out_K, ↓then_K, ↓optR_K, ↓cond_K, ↓forL_K, ↓lcL_K, ↓whileL_K, ↓catch_K, ↓catchK_nx, ↓catchK_rt, ↓catchK_exc, unset_rt, hush_rt, hush_nx, hush_ct, fin_exc, ↓bindK_ok, ↓outK_ok, ↓bindK_exc, ↓outK_exc, ↓thenK_nx, ↓thenK_rt, ↓thenK_exc, ↓thenK_bk, ↓thenK_ct, ↓optRK_some, ↓quiet_ok, ↓condK_t, ↓condK_f, ↓truth_bl, qE_slot, qE_isx, qE_k, qE_glob, qE_bin, qE_neg, qE_not, qE_and, qE_or, qE_cmp, qE_chain, qE_ife, qE_ix, qE_slc, qE_rev, qE_tup, qE_lst, qE_call, qE_bi, qE_isi, qE_meth, qE_lc, qE_smeth, qE_get2, qE_setd, qE_dnew, qEs_nil, qEs_cons, qAll_nil, qAll_cons, qO_no, qO_some, qI_seq, qI_range1, qI_range2, qI_range3, qI_zip, qI_enum, qI_rev, qT_name, qT_tup, qT_sub, qTs_nil, qTs_cons, qS_asg, qS_par, qS_aug, qS_ife, qS_for, qS_forD, qS_while, qS_ret, qS_retN, qS_drop, qS_pass, qS_brk, qS_cont, qS_raise, qS_try, qS_pick, qSs_nil, qSs_cons, dv_int, dv_bl, dv_str, dv_non, List.getElem?_cons_zero, List.getElem?_cons_succ, List.set_cons_zero, List.set_cons_succ, List.length_cons, List.length_nil, Nat.reduceAdd, Nat.reduceLT, if_true, fin_rt, fin_nx, at_0, at_1, at_2, at_3, itemV_ref, itemV_tup, cmp_eq_int, cmp_ne_int, cmp_lt_int, cmp_le_int, cmp_gt_int, cmp_ge_int, bin_add, bin_sub, bi_int_int, wipe, it, e3]
        | false =>
          rw [hu] at e3
          simp -implicitDefEqProofs -dsimp only [↓bind_K, ↓out_K, ↓then_K, ↓optR_K, ↓cond_K, ↓forL_K, ↓lcL_K, ↓whileL_K, ↓catch_K, ↓catchK_nx, ↓catchK_rt, ↓catchK_exc, unset_rt, hush_rt, hush_nx, hush_ct, fin_exc, ↓bindK_ok, ↓outK_ok, ↓bindK_exc, ↓outK_exc, ↓thenK_nx, ↓thenK_rt, ↓thenK_exc, ↓thenK_bk, ↓thenK_ct, ↓optRK_some, ↓quiet_ok, ↓condK_t, ↓condK_f, ↓truth_bl, qE_slot, qE_isx, qE_k, qE_glob, qE_bin, qE_neg, qE_not, qE_and, qE_or, qE_cmp, qE_chain, qE_ife, qE_ix, qE_slc, qE_rev, qE_tup, qE_lst, qE_call, qE_bi, qE_isi, qE_meth, qE_lc, qE_smeth, qE_get2, qE_setd, qE_dnew, qEs_nil, qEs_cons, qAll_nil, qAll_cons, qO_no, qO_some, qI_seq, qI_range1, qI_range2, qI_range3, qI_zip, qI_enum, qI_rev, qT_name, qT_tup, qT_sub, qTs_nil, qTs_cons, qS_asg, qS_par, qS_aug, qS_ife, qS_for, qS_forD, qS_while, qS_ret, qS_retN, qS_drop, qS_pass, qS_brk, qS_cont, qS_raise, qS_try, qS_pick, qSs_nil, qSs_cons, dv_int, dv_bl, dv_str, dv_non, List.getElem?_cons_zero, List.getElem?_cons_succ, List.set_cons_zero, List.set_cons_succ, List.length_cons, List.length_nil, Nat.reduceAdd, Nat.reduceLT, if_true, fin_rt, fin_nx, at_0, at_1, at_2, at_3, itemV_ref, itemV_tup, cmp_eq_int, cmp_ne_int, cmp_lt_int, cmp_le_int, cmp_gt_int, cmp_ge_int, bin_add, bin_sub, bi_int_int, wipe, it, e3]
          rfl)
    rw [psF_snd] at c1
    have g1 := cellL_of c1
    have lenf : biV .len [.ref s.length] s1 = .ok (.int (hits a ts 0).length) s1 := by rw [len_ref g1, List.length_map]
    have m1 := K1.get hm (by omega)
    have cm := cellL_of m1
    have z2 := z_le 2 (by decide)
    have ap := fun v => append_ok (v := v) m1 (Nat.lt_of_le_of_lt zd (by decide))
    have hin := fun s => in_ints (s := s) (i := a) (os := os)
    have tl1 : biV .len [.tup (ts.map snD)] s1 = .ok (.int ts.length) s1 := by rw [len_tup, List.length_map]
    have f8 : ∀ w8 w9 w15, evE (callAt Dt Gt subt K) Gt subt (.ife (.cmp .gt (.bi .len (.cons (.slot 7) (.nil))) (.k (.int 0))) (.ix (.slot 7) (.k (.int 0))) (.k (.int 0))) [w0, w1, some (.tup (bs.map bD)), some (.tup (ts.map snD)), some (.int a), some (.tup (os.map DV.int)), some (.ref m), some (.ref s.length), w8, w9, w10, w11, w12, w13, w14, w15] s1 = .ok (.int (fstO ts a)) s1 := fun w8 w9 w15 => by
      unfold fstO
      by_cases e : hits a ts 0 = []
      · rw [e] at lenf ⊢
        simp -implicitDefEqProofs -dsimp only [↓bind_K, ↓out_K, ↓then_K, ↓optR_K, ↓cond_K, ↓forL_K, ↓lcL_K, ↓whileL_K, ↓catch_K, ↓catchK_nx, ↓catchK_rt, ↓catchK_exc, unset_rt, hush_rt, hush_nx, hush_ct, fin_exc, ↓bindK_ok, ↓outK_ok, ↓bindK_exc, ↓outK_exc, ↓thenK_nx, ↓thenK_rt, ↓thenK_exc, ↓thenK_bk, ↓thenK_ct, ↓optRK_some, ↓quiet_ok, ↓condK_t, ↓condK_f, ↓truth_bl, qE_slot, qE_isx, qE_k, qE_glob, qE_bin, qE_neg, qE_not, qE_and, qE_or, qE_cmp, qE_chain, qE_ife, qE_ix, qE_slc, qE_rev, qE_tup, qE_lst, qE_call, qE_bi, qE_isi, qE_meth, qE_lc, qE_smeth, qE_get2, qE_setd, qE_dnew, qEs_nil, qEs_cons, qAll_nil, qAll_cons, qO_no, qO_some, qI_seq, qI_range1, qI_range2, qI_range3, qI_zip, qI_enum, qI_rev, qT_name, qT_tup, qT_sub, qTs_nil, qTs_cons, qS_asg, qS_par, qS_aug, qS_ife, qS_for, qS_forD, qS_while, qS_ret, qS_retN, qS_drop, qS_pass, qS_brk, qS_cont, qS_raise, qS_try, qS_pick, qSs_nil, qSs_cons, dv_int, dv_bl, dv_str, dv_non, List.getElem?_cons_zero, List.getElem?_cons_succ, List.set_cons_zero, List.set_cons_succ, List.length_cons, List.length_nil, Nat.reduceAdd, Nat.reduceLT, if_true, fin_rt, fin_nx, at_0, at_1, at_2, at_3, itemV_ref, itemV_tup, cmp_eq_int, cmp_ne_int, cmp_lt_int, cmp_le_int, cmp_gt_int, cmp_ge_int, bin_add, bin_sub, bi_int_int, lenf, List.length_nil, show decide ((0 : Int) < ((0 : Nat) : Int)) = false from rfl]
        rfl
      · have q1 : decide ((0 : Int) < ((hits a ts 0).length : Int)) = true := decide_eq_true (by have := List.length_pos_iff.mpr e; omega)
        simp -implicitDefEqProofs -dsimp only [↓bind_K, ↓out_K, ↓then_K, ↓optR_K, ↓cond_K, ↓forL_K, ↓lcL_K, ↓whileL_K, ↓catch_K, ↓catchK_nx, ↓catchK_rt, ↓catchK_exc, unset_rt, hush_rt, hush_nx, hush_ct, fin_exc, ↓bindK_ok, ↓outK_ok, ↓bindK_exc, ↓outK_exc, ↓thenK_nx, ↓thenK_rt, ↓thenK_exc, ↓thenK_bk, ↓thenK_ct, ↓optRK_some, ↓quiet_ok, ↓condK_t, ↓condK_f, ↓truth_bl, qE_slot, qE_isx, qE_k, qE_glob, qE_bin, qE_neg, qE_not, qE_and, qE_or, qE_cmp, qE_chain, qE_ife, qE_ix, qE_slc, qE_rev, qE_tup, qE_lst, qE_call, qE_bi, qE_isi, qE_meth, qE_lc, qE_smeth, qE_get2, qE_setd, qE_dnew, qEs_nil, qEs_cons, qAll_nil, qAll_cons, qO_no, qO_some, qI_seq, qI_range1, qI_range2, qI_range3, qI_zip, qI_enum, qI_rev, qT_name, qT_tup, qT_sub, qTs_nil, qTs_cons, qS_asg, qS_par, qS_aug, qS_ife, qS_for, qS_forD, qS_while, qS_ret, qS_retN, qS_drop, qS_pass, qS_brk, qS_cont, qS_raise, qS_try, qS_pick, qSs_nil, qSs_cons, dv_int, dv_bl, dv_str, dv_non, List.getElem?_cons_zero, List.getElem?_cons_succ, List.set_cons_zero, List.set_cons_succ, List.length_cons, List.length_nil, Nat.reduceAdd, Nat.reduceLT, if_true, fin_rt, fin_nx, at_0, at_1, at_2, at_3, itemV_ref, itemV_tup, cmp_eq_int, cmp_ne_int, cmp_lt_int, cmp_le_int, cmp_gt_int, cmp_ge_int, bin_add, bin_sub, bi_int_int, lenf, q1, g1, head_at e]
    have f9 : ∀ w8 w9 w15, evE (callAt Dt Gt subt K) Gt subt (.ife (.cmp .«in» (.slot 4) (.slot 5)) (.bi .len (.cons (.slot 3) (.nil))) (.ife (.cmp .gt (.bi .len (.cons (.slot 7) (.nil))) (.k (.int 0))) (.ix (.slot 7) (.neg (.k (.int 1)))) (.k (.int 0)))) [w0, w1, some (.tup (bs.map bD)), some (.tup (ts.map snD)), some (.int a), some (.tup (os.map DV.int)), some (.ref m), some (.ref s.length), w8, w9, w10, w11, w12, w13, w14, w15] s1 = .ok (.int (lstO ts os a)) s1 := fun w8 w9 w15 => by
      unfold lstO
      generalize (os.any fun o => decide (o = a)) = x2 at hin ⊢
      cases x2 with
      | true =>
        simp -implicitDefEqProofs -dsimp only [↓bind_K, ↓out_K, ↓then_K, ↓optR_K, ↓cond_K, ↓forL_K, ↓lcL_K, ↓whileL_K, ↓catch_K, ↓catchK_nx, ↓catchK_rt, ↓catchK_exc, unset_rt, hush_rt, hush_nx, hush_ct, fin_exc, ↓bindK_ok, ↓outK_ok, ↓bindK_exc, ↓outK_exc, ↓thenK_nx, ↓thenK_rt, ↓thenK_exc, ↓thenK_bk, ↓thenK_ct, ↓optRK_some, ↓quiet_ok, ↓condK_t, ↓condK_f, ↓truth_bl, qE_slot, qE_isx, qE_k, qE_glob, qE_bin, qE_neg, qE_not, qE_and, qE_or, qE_cmp, qE_chain, qE_ife, qE_ix, qE_slc, qE_rev, qE_tup, qE_lst, qE_call, qE_bi, qE_isi, qE_meth, qE_lc, qE_smeth, qE_get2, qE_setd, qE_dnew, qEs_nil, qEs_cons, qAll_nil, qAll_cons, qO_no, qO_some, qI_seq, qI_range1, qI_range2, qI_range3, qI_zip, qI_enum, qI_rev, qT_name, qT_tup, qT_sub, qTs_nil, qTs_cons, qS_asg, qS_par, qS_aug, qS_ife, qS_for, qS_forD, qS_while, qS_ret, qS_retN, qS_drop, qS_pass, qS_brk, qS_cont, qS_raise, qS_try, qS_pick, qSs_nil, qSs_cons, dv_int, dv_bl, dv_str, dv_non, List.getElem?_cons_zero, List.getElem?_cons_succ, List.set_cons_zero, List.set_cons_succ, List.length_cons, List.length_nil, Nat.reduceAdd, Nat.reduceLT, if_true, fin_rt, fin_nx, at_0, at_1, at_2, at_3, itemV_ref, itemV_tup, cmp_eq_int, cmp_ne_int, cmp_lt_int, cmp_le_int, cmp_gt_int, cmp_ge_int, bin_add, bin_sub, bi_int_int, hin, tl1]
      | false =>
        by_cases e : hits a ts 0 = []
        · rw [e] at lenf ⊢
          simp -implicitDefEqProofs -dsimp only [↓bind_K, ↓out_K, ↓then_K, ↓optR_K, ↓cond_K, ↓forL_K, ↓lcL_K, ↓whileL_K, ↓catch_K, ↓catchK_nx, ↓catchK_rt, ↓catchK_exc, unset_rt, hush_rt, hush_nx, hush_ct, fin_exc, ↓bindK_ok, ↓outK_ok, ↓bindK_exc, ↓outK_exc, ↓thenK_nx, ↓thenK_rt, ↓thenK_exc, ↓thenK_bk, ↓thenK_ct, ↓optRK_some, ↓quiet_ok, ↓condK_t, ↓condK_f, ↓truth_bl, qE_slot, qE_isx, qE_k, qE_glob, qE_bin, qE_neg, qE_not, qE_and, qE_or, qE_cmp, qE_chain, qE_ife, qE_ix, qE_slc, qE_rev, qE_tup, qE_lst, qE_call, qE_bi, qE_isi, qE_meth, qE_lc, qE_smeth, qE_get2, qE_setd, qE_dnew, qEs_nil, qEs_cons, qAll_nil, qAll_cons, qO_no, qO_some, qI_seq, qI_range1, qI_range2, qI_range3, qI_zip, qI_enum, qI_rev, qT_name, qT_tup, qT_sub, qTs_nil, qTs_cons, qS_asg, qS_par, qS_aug, qS_ife, qS_for, qS_forD, qS_while, qS_ret, qS_retN, qS_drop, qS_pass, qS_brk, qS_cont, qS_raise, qS_try, qS_pick, qSs_nil, qSs_cons, dv_int, dv_bl, dv_str, dv_non, List.getElem?_cons_zero, List.getElem?_cons_succ, List.set_cons_zero, List.set_cons_succ, List.length_cons, List.length_nil, Nat.reduceAdd, Nat.reduceLT, if_true, fin_rt, fin_nx, at_0, at_1, at_2, at_3, itemV_ref, itemV_tup, cmp_eq_int, cmp_ne_int, cmp_lt_int, cmp_le_int, cmp_gt_int, cmp_ge_int, bin_add, bin_sub, bi_int_int, hin, lenf, List.length_nil, show decide ((0 : Int) < ((0 : Nat) : Int)) = false from rfl]
          rfl
        · have q1 : decide ((0 : Int) < ((hits a ts 0).length : Int)) = true := decide_eq_true (by have := List.length_pos_iff.mpr e; omega)
          simp -implicitDefEqProofs -dsimp only [↓bind_K, ↓out_K, ↓then_K, ↓optR_K, ↓cond_K, ↓forL_K, ↓lcL_K, ↓whileL_K, ↓catch_K, ↓catchK_nx, ↓catchK_rt, ↓catchK_exc, unset_rt, hush_rt, hush_nx, hush_ct, fin_exc, ↓bindK_ok, ↓outK_ok, ↓bindK_exc, ↓outK_exc, ↓thenK_nx, ↓thenK_rt, ↓thenK_exc, ↓thenK_bk, ↓thenK_ct, ↓optRK_some, ↓quiet_ok, ↓condK_t, ↓condK_f, ↓truth_bl, qE_slot, qE_isx, qE_k, qE_glob, qE_bin, qE_neg, qE_not, qE_and, qE_or, qE_cmp, qE_chain, qE_ife, qE_ix, qE_slc, qE_rev, qE_tup, qE_lst, qE_call, qE_bi, qE_isi, qE_meth, qE_lc, qE_smeth, qE_get2, qE_setd, qE_dnew, qEs_nil, qEs_cons, qAll_nil, qAll_cons, qO_no, qO_some, qI_seq, qI_range1, qI_range2, qI_range3, qI_zip, qI_enum, qI_rev, qT_name, qT_tup, qT_sub, qTs_nil, qTs_cons, qS_asg, qS_par, qS_aug, qS_ife, qS_for, qS_forD, qS_while, qS_ret, qS_retN, qS_drop, qS_pass, qS_brk, qS_cont, qS_raise, qS_try, qS_pick, qSs_nil, qSs_cons, dv_int, dv_bl, dv_str, dv_non, List.getElem?_cons_zero, List.getElem?_cons_succ, List.set_cons_zero, List.set_cons_succ, List.length_cons, List.length_nil, Nat.reduceAdd, Nat.reduceLT, if_true, fin_rt, fin_nx, at_0, at_1, at_2, at_3, itemV_ref, itemV_tup, cmp_eq_int, cmp_ne_int, cmp_lt_int, cmp_le_int, cmp_gt_int, cmp_ge_int, bin_add, bin_sub, bi_int_int, hin, lenf, q1, g1, last_at e]
          rfl
    refine ⟨some (.ref s.length), some (.int (fstO ts a)), some (.int (lstO ts os a)), w15, s1.set m (.lst (due ++ [pD (fstO ts a, lstO ts os a)])), ?_, by rw [if_pos rfl]; exact get_set m1, D1.up hdm, kp_up (K0.trans K1) h0⟩
    simp -implicitDefEqProofs -dsimp only [↓bind_K, ↓out_K, ↓then_K, ↓optR_K, ↓cond_K, ↓forL_K, ↓lcL_K, ↓whileL_K, ↓catch_K, ↓catchK_nx, ↓catchK_rt, ↓catchK_exc, unset_rt, hush_rt, hush_nx, hush_ct, fin_exc, ↓bindK_ok, ↓outK_ok, ↓bindK_exc, ↓outK_exc, ↓thenK_nx, ↓thenK_rt, ↓thenK_exc, ↓thenK_bk, ↓thenK_ct, ↓optRK_some, ↓quiet_ok, ↓condK_t, ↓condK_f, ↓truth_bl, qE_slot, qE_isx, qE_k, qE_glob, qE_bin, qE_neg, qE_not, qE_and, qE_or, qE_cmp, qE_chain, qE_ife, qE_ix, qE_slc, qE_rev, qE_tup, qE_lst, qE_call, qE_bi, qE_isi, qE_meth, qE_lc, qE_smeth, qE_get2, qE_setd, qE_dnew, qEs_nil, qEs_cons, qAll_nil, qAll_cons, qO_no, qO_some, qI_seq, qI_range1, qI_range2, qI_range3, qI_zip, qI_enum, qI_rev, qT_name, qT_tup, qT_sub, qTs_nil, qTs_cons, qS_asg, qS_par, qS_aug, qS_ife, qS_for, qS_forD, qS_while, qS_ret, qS_retN, qS_drop, qS_pass, qS_brk, qS_cont, qS_raise, qS_try, qS_pick, qSs_nil, qSs_cons, dv_int, dv_bl, dv_str, dv_non, List.getElem?_cons_zero, List.getElem?_cons_succ, List.set_cons_zero, List.set_cons_succ, List.length_cons, List.length_nil, Nat.reduceAdd, Nat.reduceLT, if_true, fin_rt, fin_nx, at_0, at_1, at_2, at_3, itemV_ref, itemV_tup, cmp_eq_int, cmp_ne_int, cmp_lt_int, cmp_le_int, cmp_gt_int, cmp_ge_int, bin_add, bin_sub, bi_int_int, B7, b19l1, a1, q, ↓e1, ↓f8, ↓f9, cm, ap, z2, pD]
theorem due_run {K m : Nat} {bs : List (Str × Int)} {ts : List Sn} {os : List Int} {s0 : Store} {w0 w1 w10 w11 w12 w13 w14 : Option DV} (hK : 9 ≤ K) (hb : BsV bs) (ht : ∀ t ∈ ts, t.ht ≤ 9) (hl : ts.length ≤ 40) (h0 : s0.length ≤ m) (hdm : d < m) : ∀ (bs' : List (Str × Int)) (a : Int) (due : List DV) (s : Store) (w4 w7 w8 w9 w15 : Option DV), (∀ (j : Nat) (b : Str × Int), bs'[j]? = some b → L2.atI bs (a + (j : Int)) = some b ∧ b ∈ bs) → Dr s d → s[m]? = some (.lst due) → due.length + bs'.length ≤ 100 → Kp d s0 s →
    ∃ w4' w7' w8' w9' w15' s', forL .free (B7 K) (rngI bs'.length a) [w0, w1, some (.tup (bs.map bD)), some (.tup (ts.map snD)), w4, some (.tup (os.map DV.int)), some (.ref m), w7, w8, w9, w10, w11, w12, w13, w14, w15] s = .nx [w0, w1, some (.tup (bs.map bD)), some (.tup (ts.map snD)), w4', some (.tup (os.map DV.int)), some (.ref m), w7', w8', w9', w10, w11, w12, w13, w14, w15'] s' ∧
      s'[m]? = some (.lst (due ++ (mains bs' a).map fun i => pD (fstO ts i, lstO ts os i))) ∧ Dr s' d ∧ Kp d s0 s'
  | [], a, due, s, w4, w7, w8, w9, w15, hbs, D, hm, zd, K0 => ⟨w4, w7, w8, w9, w15, s, forL_nil free_ok, by
    show _ = some (Cell.lst (due ++ []))
    rw [List.append_nil]
    exact hm, D, K0⟩
  | b :: bs', a, due, s, w4, w7, w8, w9, w15, hbs, D, hm, zd, K0 => by
    rw [List.length_cons] at zd
    obtain ⟨hbi, hbm⟩ := hbs 0 b rfl
    rw [show a + ((0 : Nat) : Int) = a by omega] at hbi
    obtain ⟨x7, x8, x9, x15, s1, e1, m1, D1, K1⟩ := due_turn (d := d) (K := K) (bs := bs) (ts := ts) (os := os) (s0 := s0) (a := a) (b := b) (w0 := w0) (w1 := w1) (w4 := w4) (w7 := w7) (w8 := w8) (w9 := w9) (w10 := w10) (w11 := w11) (w12 := w12) (w13 := w13) (w14 := w14) (w15 := w15) hK D hb hbi hbm ht hl hm (by omega) h0 hdm K0
    have nl : (due ++ if decide (b.1 = ("main" : Str)) = true then [pD (fstO ts a, lstO ts os a)] else []).length ≤ due.length + 1 := by
      rw [List.length_append]
      split
      · exact Nat.le_refl _
      · exact Nat.le_succ _
    obtain ⟨y4, y7, y8, y9, y15, s', e2, m2, D2, K2⟩ := due_run hK hb ht hl h0 hdm bs' (a + 1) _ s1 (some (.int a)) x7 x8 x9 x15 (fun j c hj => by
      have := hbs (j + 1) c hj
      rw [show a + ((j + 1 : Nat) : Int) = a + 1 + (j : Int) by omega] at this
      exact this) D1 m1 (by omega) K1
    refine ⟨y4, y7, y8, y9, y15, s', ?_, ?_, D2, K2⟩
    · rw [show rngI (b :: bs').length a = .int a :: rngI bs'.length (a + 1) from rfl, forL_nx free_ok e1]
      exact e2
    · rw [m2, show mains (b :: bs') a = if decide (b.1 = ("main" : Str)) = true then a :: mains bs' (a + 1) else mains bs' (a + 1) from rfl]
      by_cases e : decide (b.1 = ("main" : Str)) = true
      · rw [if_pos e, if_pos e, List.map_cons, List.append_assoc]
        rfl
      · rw [if_neg e, if_neg e, List.append_nil]
/-! ### pairs compared -/
theorem pure_pD : ∀ l : List (Int × Int), pures? (l.map pD) = true
  | [] => rfl
  | a :: l => by
    rw [List.map_cons, show pD a = .tup [.int a.1, .int a.2] from rfl]
    simp only [pures?, pure?, pure_pD l, Bool.and_true]
theorem lay_pD : ∀ l : List (Int × Int), PyData.canLayAll0 (pds (l.map pD)) = true
  | [] => rfl
  | a :: l => by
    rw [List.map_cons, show pD a = .tup [.int a.1, .int a.2] from rfl]
    simp only [pds, pd, PyData.canLayAll0, PyData.canLay0, lay_pD l, Bool.and_true]
theorem deep_pD : ∀ l : List (Int × Int), PyData.depthAll (pds (l.map pD)) ≤ 1
  | [] => by decide
  | a :: l => by
    have := deep_pD l
    rw [List.map_cons, show pD a = .tup [.int a.1, .int a.2] from rfl]
    simp only [pds, pd, PyData.depthAll, PyData.depth]
    omega
theorem same_pD : ∀ l : List (Int × Int), PyData.eqvAll (pds (l.map pD)) (pds (l.map pD)) = true
  | [] => by simp [pds, PyData.eqvAll]
  | a :: l => by
    rw [List.map_cons, show pD a = .tup [.int a.1, .int a.2] from rfl]
    simp only [pds, pd, PyData.eqvAll, PyData.eqv, same_pD l, beq_self_eq_true, Bool.and_true]
theorem ne_pD {l : List (Int × Int)} : cmpV .ne (.tup (l.map pD)) (.tup (l.map pD)) s = .ok false s := by
  have c : cmpable (.tup (l.map pD)) = true := by
    unfold cmpable SeqAt.shaped
    have d := deep_pD l
    rw [show pure? (.tup (l.map pD)) = pures? (l.map pD) from by simp only [pure?], pure_pD, Bool.true_and, show pd (.tup (l.map pD)) = .tuple (pds (l.map pD)) from by simp only [pd]]
    rw [show PyData.canLay0 (.tuple (pds (l.map pD))) = PyData.canLayAll0 (pds (l.map pD)) from by simp only [PyData.canLay0], lay_pD l, Bool.true_and]
    simp only [PyData.depth]
    exact decide_eq_true (by omega)
  have q : deq (.tup (l.map pD)) (.tup (l.map pD)) = true := by
    unfold deq
    simp only [pd, PyData.eqv]
    exact same_pD l
  simp only [cmpV, c, q]
  rfl
end
section
variable {k d : Nat} {s : Store}
theorem cl_bl {x : Bool} : clIs (.bl x) s (.ty "bool") = some true := rfl
theorem cl_tup {xs : List DV} : clIs (.tup xs) s (.ty "tuple") = some true := rfl
theorem ne_bl {x : Bool} : cmpV .ne (.bl x) (.bl x) s = .ok false s := by cases x <;> rfl
theorem meet_ok {a b c e : Int} : callAt Dt Gt subt (k + 1) 5 [.tup [.int a, .int b], .tup [.int c, .int e]] s = .ok (.bl (decide (a ≤ e) && decide (c ≤ b))) s := by
  cases h : decide (a ≤ e) with
  | true => simp -implicitDefEqProofs -dsimp only [↓bind_K, ↓out_K, ↓then_K, ↓optR_K, ↓cond_K, ↓forL_K, ↓lcL_K, ↓whileL_K, ↓catch_K, ↓catchK_nx, ↓catchK_rt, ↓catchK_exc, unset_rt, hush_rt, hush_nx, hush_ct, fin_exc, ↓bindK_ok, ↓outK_ok, ↓bindK_exc, ↓outK_exc, ↓thenK_nx, ↓thenK_rt, ↓thenK_exc, ↓thenK_bk, ↓thenK_ct, ↓optRK_some, ↓quiet_ok, ↓condK_t, ↓condK_f, ↓truth_bl, qE_slot, qE_isx, qE_k, qE_glob, qE_bin, qE_neg, qE_not, qE_and, qE_or, qE_cmp, qE_chain, qE_ife, qE_ix, qE_slc, qE_rev, qE_tup, qE_lst, qE_call, qE_bi, qE_isi, qE_meth, qE_lc, qE_smeth, qE_get2, qE_setd, qE_dnew, qEs_nil, qEs_cons, qAll_nil, qAll_cons, qO_no, qO_some, qI_seq, qI_range1, qI_range2, qI_range3, qI_zip, qI_enum, qI_rev, qT_name, qT_tup, qT_sub, qTs_nil, qTs_cons, qS_asg, qS_par, qS_aug, qS_ife, qS_for, qS_forD, qS_while, qS_ret, qS_retN, qS_drop, qS_pass, qS_brk, qS_cont, qS_raise, qS_try, qS_pick, qSs_nil, qSs_cons, dv_int, dv_bl, dv_str, dv_non, List.getElem?_cons_zero, List.getElem?_cons_succ, List.set_cons_zero, List.set_cons_succ, List.length_cons, List.length_nil, Nat.reduceAdd, Nat.reduceLT, if_true, fin_rt, fin_nx, at_0, at_1, at_2, at_3, itemV_ref, itemV_tup, cmp_eq_int, cmp_ne_int, cmp_lt_int, cmp_le_int, cmp_gt_int, cmp_ge_int, bin_add, bin_sub, bi_int_int, call_5, b5, h, Bool.true_and]
  | false => simp -implicitDefEqProofs -dsimp only [↓bind_K, ↓out_K, ↓then_K, ↓optR_K, ↓cond_K, ↓forL_K, ↓lcL_K, ↓whileL_K, ↓catch_K, ↓catchK_nx, ↓catchK_rt, ↓catchK_exc, unset_rt, hush_rt, hush_nx, hush_ct, fin_exc, ↓bindK_ok, ↓outK_ok, ↓bindK_exc, ↓outK_exc, ↓thenK_nx, ↓thenK_rt, ↓thenK_exc, ↓thenK_bk, ↓thenK_ct, ↓optRK_some, ↓quiet_ok, ↓condK_t, ↓condK_f, ↓truth_bl, qE_slot, qE_isx, qE_k, qE_glob, qE_bin, qE_neg, qE_not, qE_and, qE_or, qE_cmp, qE_chain, qE_ife, qE_ix, qE_slc, qE_rev, qE_tup, qE_lst, qE_call, qE_bi, qE_isi, qE_meth, qE_lc, qE_smeth, qE_get2, qE_setd, qE_dnew, qEs_nil, qEs_cons, qAll_nil, qAll_cons, qO_no, qO_some, qI_seq, qI_range1, qI_range2, qI_range3, qI_zip, qI_enum, qI_rev, qT_name, qT_tup, qT_sub, qTs_nil, qTs_cons, qS_asg, qS_par, qS_aug, qS_ife, qS_for, qS_forD, qS_while, qS_ret, qS_retN, qS_drop, qS_pass, qS_brk, qS_cont, qS_raise, qS_try, qS_pick, qSs_nil, qSs_cons, dv_int, dv_bl, dv_str, dv_non, List.getElem?_cons_zero, List.getElem?_cons_succ, List.set_cons_zero, List.set_cons_succ, List.length_cons, List.length_nil, Nat.reduceAdd, Nat.reduceLT, if_true, fin_rt, fin_nx, at_0, at_1, at_2, at_3, itemV_ref, itemV_tup, cmp_eq_int, cmp_ne_int, cmp_lt_int, cmp_le_int, cmp_gt_int, cmp_ge_int, bin_add, bin_sub, bi_int_int, call_5, b5, h, Bool.false_and]
def inO (c e : Int) (x : DV) : Option DV := match x with
  | .int t => if (decide (c ≤ t) && decide (t ≤ e)) = true then some (.int t) else none
  | _ => none
def inP (c e : Int) (x : DV) : Bool := match x with
  | .int t => decide (c ≤ t) && decide (t ≤ e)
  | _ => false
theorem some_in {a b c e : Int} (h1 : a ≤ b) (h2 : c ≤ e) : (((List.range (b + 1 - a).toNat).map fun (i : Nat) => DV.int (a + (i : Int))).any (inP c e)) = (decide (a ≤ e) && decide (c ≤ b)) := by
  by_cases h : a ≤ e ∧ c ≤ b
  · rw [decide_eq_true h.1, decide_eq_true h.2, Bool.true_and]
    refine List.any_eq_true.mpr ⟨.int (a + ((max a c - a).toNat : Int)), List.mem_map.mpr ⟨(max a c - a).toNat, List.mem_range.mpr (by omega), rfl⟩, ?_⟩
    show (decide (c ≤ a + ((max a c - a).toNat : Int)) && decide (a + ((max a c - a).toNat : Int) ≤ e)) = true
    rw [decide_eq_true (by omega), decide_eq_true (by omega)]
    rfl
  · have : (decide (a ≤ e) && decide (c ≤ b)) = false := by
      by_cases q : a ≤ e
      · rw [decide_eq_false fun z => h ⟨q, z⟩, Bool.and_false]
      · rw [decide_eq_false q, Bool.false_and]
    rw [this, List.any_eq_false]
    intro x hx
    obtain ⟨i, hi, rfl⟩ := List.mem_map.mp hx
    rw [List.mem_range] at hi
    show ¬(decide (c ≤ a + (i : Int)) && decide (a + (i : Int) ≤ e)) = true
    rw [Bool.and_eq_true, decide_eq_true_eq, decide_eq_true_eq]
    omega
noncomputable def B8 (K : Nat) : DV → Ip.Loc → Store → Out := fun x r s => (evT (callAt Dt Gt subt K) Gt subt (.name 11) x r s).out r fun r s => evSs (callAt Dt Gt subt K) Gt subt b19l0 r s
theorem meet_turn {x : DV} {w0 w2 w3 w4 w5 w6 w7 w8 w9 w10 w11 w12 w13 w14 w15 : Option DV} (D : Dr s d) : ∃ w12' w13' w14' s', B8 (k + 1) x [w0, some (.ref d), w2, w3, w4, w5, w6, w7, w8, w9, w10, w11, w12, w13, w14, w15] s = .nx [w0, some (.ref d), w2, w3, w4, w5, w6, w7, w8, w9, w10, some x, w12', w13', w14', w15] s' ∧ Dr s' d := by
  obtain ⟨a, s1, e1, a0, a1, D1, K1⟩ := draw (k := k) (many := 5) D (by decide) (by decide)
  obtain ⟨b', s2, e2, b0, b1, D2, K2⟩ := draw (k := k) (many := 5) D1 (by decide) (by decide)
  obtain ⟨c, s3, e3, c0, c1, D3, K3⟩ := draw (k := k) (many := 9) D2 (by decide) (by decide)
  obtain ⟨e', s4, e4, p0, p1, D4, K4⟩ := draw (k := k) (many := 5) D3 (by decide) (by decide)
  have z2 := z_le 2 (by decide)
  have m1 := fun s => meet_ok (k := k) (s := s) (a := a) (b := 4 + b') (c := c) (e := 8 + e')
  have m2 := fun s => meet_ok (k := k) (s := s) (a := c) (b := 8 + e') (c := a) (e := 4 + b')
  have m3 := fun s => meet_ok (k := k) (s := s) (a := a) (b := 4 + b') (c := a) (e := 4 + b')
  rw [decide_eq_true (show a ≤ 4 + b' by omega)] at m3
  have sw : (decide (c ≤ 4 + b') && decide (a ≤ 8 + e')) = (decide (a ≤ 8 + e') && decide (c ≤ 4 + b')) := Bool.and_comm _ _
  rw [sw] at m2
  have si := some_in (a := a) (b := 4 + b') (c := c) (e := 8 + e') (by omega) (by omega)
  obtain ⟨T, hT⟩ : ∃ T, T = (decide (a ≤ 8 + e') && decide (c ≤ 4 + b')) := ⟨_, rfl⟩
  rw [← hT] at m1 m2 si
  have rg : ((-(2 ^ 62) ≤ a ∧ a < 2 ^ 62) ∧ -(2 ^ 62) ≤ (4 + b' + 1) ∧ (4 + b' + 1) < 2 ^ 62) = True := eq_true (by omega)
  have lc : evE (callAt Dt Gt subt (k + 1)) Gt subt (.lc (.name 15) (.range2 (.ix (.slot 12) (.k (.int 0))) (.bin .add (.ix (.slot 12) (.k (.int 1))) (.k (.int 1)))) (.cons (.chain .le .le (.ix (.slot 13) (.k (.int 0))) (.slot 15) (.ix (.slot 13) (.k (.int 1)))) .nil) (.slot 15) [15]) [w0, some (.ref d), w2, w3, w4, w5, w6, w7, w8, w9, w10, some x, some (.tup [.int a, .int (4 + b')]), some (.tup [.int c, .int (8 + e')]), some (.bl T), w15] s4 =
      .ok (.ref s4.length) (s4 ++ [.lst (((List.range (4 + b' + 1 - a).toNat).map fun (i : Nat) => DV.int (a + (i : Int))).filterMap (inO c (8 + e')))]) := by
    refine lc_run (inO c (8 + e')) (f := .free) ?_ (fun _ => free_ok) (fun y hy acc => ?_) ?_
    · simp -implicitDefEqProofs -dsimp only [↓bind_K, ↓out_K, ↓then_K, ↓optR_K, ↓cond_K, ↓forL_K, ↓lcL_K, ↓whileL_K, ↓catch_K, ↓catchK_nx, ↓catchK_rt, ↓catchK_exc, unset_rt, hush_rt, hush_nx, hush_ct, fin_exc, ↓bindK_ok, ↓outK_ok, ↓bindK_exc, ↓outK_exc, ↓thenK_nx, ↓thenK_rt, ↓thenK_exc, ↓thenK_bk, ↓thenK_ct, ↓optRK_some, ↓quiet_ok, ↓condK_t, ↓condK_f, ↓truth_bl, qE_slot, qE_isx, qE_k, qE_glob, qE_bin, qE_neg, qE_not, qE_and, qE_or, qE_cmp, qE_chain, qE_ife, qE_ix, qE_slc, qE_rev, qE_tup, qE_lst, qE_call, qE_bi, qE_isi, qE_meth, qE_lc, qE_smeth, qE_get2, qE_setd, qE_dnew, qEs_nil, qEs_cons, qAll_nil, qAll_cons, qO_no, qO_some, qI_seq, qI_range1, qI_range2, qI_range3, qI_zip, qI_enum, qI_rev, qT_name, qT_tup, qT_sub, qTs_nil, qTs_cons, qS_asg, qS_par, qS_aug, qS_ife, qS_for, qS_forD, qS_while, qS_ret, qS_retN, qS_drop, qS_pass, qS_brk, qS_cont, qS_raise, qS_try, qS_pick, qSs_nil, qSs_cons, dv_int, dv_bl, dv_str, dv_non, List.getElem?_cons_zero, List.getElem?_cons_succ, List.set_cons_zero, List.set_cons_succ, List.length_cons, List.length_nil, Nat.reduceAdd, Nat.reduceLT, if_true, fin_rt, fin_nx, at_0, at_1, at_2, at_3, itemV_ref, itemV_tup, cmp_eq_int, cmp_ne_int, cmp_lt_int, cmp_le_int, cmp_gt_int, cmp_ge_int, bin_add, bin_sub, bi_int_int, rg]
    · obtain ⟨i, _, rfl⟩ := List.mem_map.mp hy
      show _ = Res.ok (if (decide (c ≤ a + (i : Int)) && decide (a + (i : Int) ≤ 8 + e')) = true then some (DV.int (a + (i : Int))) else none) _
      cases h1 : decide (c ≤ a + (i : Int)) with
      | false =>
        simp -implicitDefEqProofs -dsimp only [↓bind_K, ↓out_K, ↓then_K, ↓optR_K, ↓cond_K, ↓forL_K, ↓lcL_K, ↓whileL_K, ↓catch_K, ↓catchK_nx, ↓catchK_rt, ↓catchK_exc, unset_rt, hush_rt, hush_nx, hush_ct, fin_exc, ↓bindK_ok, ↓outK_ok, ↓bindK_exc, ↓outK_exc, ↓thenK_nx, ↓thenK_rt, ↓thenK_exc, ↓thenK_bk, ↓thenK_ct, ↓optRK_some, ↓quiet_ok, ↓condK_t, ↓condK_f, ↓truth_bl, qE_slot, qE_isx, qE_k, qE_glob, qE_bin, qE_neg, qE_not, qE_and, qE_or, qE_cmp, qE_chain, qE_ife, qE_ix, qE_slc, qE_rev, qE_tup, qE_lst, qE_call, qE_bi, qE_isi, qE_meth, qE_lc, qE_smeth, qE_get2, qE_setd, qE_dnew, qEs_nil, qEs_cons, qAll_nil, qAll_cons, qO_no, qO_some, qI_seq, qI_range1, qI_range2, qI_range3, qI_zip, qI_enum, qI_rev, qT_name, qT_tup, qT_sub, qTs_nil, qTs_cons, qS_asg, qS_par, qS_aug, qS_ife, qS_for, qS_forD, qS_while, qS_ret, qS_retN, qS_drop, qS_pass, qS_brk, qS_cont, qS_raise, qS_try, qS_pick, qSs_nil, qSs_cons, dv_int, dv_bl, dv_str, dv_non, List.getElem?_cons_zero, List.getElem?_cons_succ, List.set_cons_zero, List.set_cons_succ, List.length_cons, List.length_nil, Nat.reduceAdd, Nat.reduceLT, if_true, fin_rt, fin_nx, at_0, at_1, at_2, at_3, itemV_ref, itemV_tup, cmp_eq_int, cmp_ne_int, cmp_lt_int, cmp_le_int, cmp_gt_int, cmp_ge_int, bin_add, bin_sub, bi_int_int, wipe, h1, Bool.false_and]
        rfl
      | true =>
        cases h2 : decide (a + (i : Int) ≤ 8 + e') with
        | false =>
          simp -implicitDefEqProofs -dsimp only [↓bind_K, ↓out_K, ↓then_K, ↓optR_K, ↓cond_K, ↓forL_K, ↓lcL_K, ↓whileL_K, ↓catch_K, ↓catchK_nx, ↓catchK_rt, ↓catchK_exc, unset_rt, hush_rt, hush_nx, hush_ct, fin_exc, ↓bindK_ok, ↓outK_ok, ↓bindK_exc, ↓outK_exc, ↓thenK_nx, ↓thenK_rt, ↓thenK_exc, ↓thenK_bk, ↓thenK_ct, ↓optRK_some, ↓quiet_ok, ↓condK_t, ↓condK_f, ↓truth_bl, qE_slot, qE_isx, qE_k, qE_glob, qE_bin, qE_neg, qE_not, qE_and, qE_or, qE_cmp, qE_chain, qE_ife, qE_ix, qE_slc, qE_rev, qE_tup, qE_lst, qE_call, qE_bi, qE_isi, qE_meth, qE_lc, qE_smeth, qE_get2, qE_setd, qE_dnew, qEs_nil, qEs_cons, qAll_nil, qAll_cons, qO_no, qO_some, qI_seq, qI_range1, qI_range2, qI_range3, qI_zip, qI_enum, qI_rev, qT_name, qT_tup, qT_sub, qTs_nil, qTs_cons, qS_asg, qS_par, qS_aug, qS_ife, qS_for, qS_forD, qS_while, qS_ret, qS_retN, qS_drop, qS_pass, qS_brk, qS_cont, qS_raise, qS_try, qS_pick, qSs_nil, qSs_cons, dv_int, dv_bl, dv_str, dv_non, List.getElem?_cons_zero, List.getElem?_cons_succ, List.set_cons_zero, List.set_cons_succ, List.length_cons, List.length_nil, Nat.reduceAdd, Nat.reduceLT, if_true, fin_rt, fin_nx, at_0, at_1, at_2, at_3, itemV_ref, itemV_tup, cmp_eq_int, cmp_ne_int, cmp_lt_int, cmp_le_int, cmp_gt_int, cmp_ge_int, bin_add, bin_sub, bi_int_int, wipe, h1, h2, Bool.true_and]
          rfl
        | true => simp -implicitDefEqProofs -dsimp only [↓bind_K, ↓out_K, ↓then_K, ↓optR_K, ↓cond_K, ↓forL_K, ↓lcL_K, ↓whileL_K, ↓catch_K, ↓catchK_nx, ↓catchK_rt, ↓catchK_exc, unset_rt, hush_rt, hush_nx, hush_ct, fin_exc, ↓bindK_ok, ↓outK_ok, ↓bindK_exc, ↓outK_exc, ↓thenK_nx, ↓thenK_rt, ↓thenK_exc, ↓thenK_bk, ↓thenK_ct, ↓optRK_some, ↓quiet_ok, ↓condK_t, ↓condK_f, ↓truth_bl, qE_slot, qE_isx, qE_k, qE_glob, qE_bin, qE_neg, qE_not, qE_and, qE_or, qE_cmp, qE_chain, qE_ife, qE_ix, qE_slc, qE_rev, qE_tup, qE_lst, qE_call, qE_bi, qE_isi, qE_meth, qE_lc, qE_smeth, qE_get2, qE_setd, qE_dnew, qEs_nil, qEs_cons, qAll_nil, qAll_cons, qO_no, qO_some, qI_seq, qI_range1, qI_range2, qI_range3, qI_zip, qI_enum, qI_rev, qT_name, qT_tup, qT_sub, qTs_nil, qTs_cons, qS_asg, qS_par, qS_aug, qS_ife, qS_for, qS_forD, qS_while, qS_ret, qS_retN, qS_drop, qS_pass, qS_brk, qS_cont, qS_raise, qS_try, qS_pick, qSs_nil, qSs_cons, dv_int, dv_bl, dv_str, dv_non, List.getElem?_cons_zero, List.getElem?_cons_succ, List.set_cons_zero, List.set_cons_succ, List.length_cons, List.length_nil, Nat.reduceAdd, Nat.reduceLT, if_true, fin_rt, fin_nx, at_0, at_1, at_2, at_3, itemV_ref, itemV_tup, cmp_eq_int, cmp_ne_int, cmp_lt_int, cmp_le_int, cmp_gt_int, cmp_ge_int, bin_add, bin_sub, bi_int_int, wipe, h1, h2, Bool.and_self]
    · rw [List.length_map, List.length_range]
      exact Nat.le_trans (show (4 + b' + 1 - a).toNat ≤ 100 by omega) (by decide)
  have pf := pos_filter (g := inO c (8 + e')) (p := inP c (8 + e')) (l := (List.range (4 + b' + 1 - a).toNat).map fun (i : Nat) => DV.int (a + (i : Int))) (fun y hy => by
    obtain ⟨i, _, rfl⟩ := List.mem_map.mp hy
    show (if (decide (c ≤ a + (i : Int)) && decide (a + (i : Int) ≤ 8 + e')) = true then some (DV.int (a + (i : Int))) else none).isSome = (decide (c ≤ a + (i : Int)) && decide (a + (i : Int) ≤ 8 + e'))
    cases (decide (c ≤ a + (i : Int)) && decide (a + (i : Int) ≤ 8 + e')) <;> rfl)
  rw [si] at pf
  have ln := len_ref (s := s4 ++ [Cell.lst (((List.range (4 + b' + 1 - a).toNat).map fun (i : Nat) => DV.int (a + (i : Int))).filterMap (inO c (8 + e')))]) (n := s4.length) cell_snoc
  refine ⟨some (.tup [.int a, .int (4 + b')]), some (.tup [.int c, .int (8 + e')]), some (.bl T), s4 ++ [.lst (((List.range (4 + b' + 1 - a).toNat).map fun (i : Nat) => DV.int (a + (i : Int))).filterMap (inO c (8 + e')))], ?_, D4.more⟩
  simp -implicitDefEqProofs -dsimp only [↓bind_K, ↓out_K, ↓then_K, ↓optR_K, ↓cond_K, ↓forL_K, ↓lcL_K, ↓whileL_K, ↓catch_K, ↓catchK_nx, ↓catchK_rt, ↓catchK_exc, unset_rt, hush_rt, hush_nx, hush_ct, fin_exc, ↓bindK_ok, ↓outK_ok, ↓bindK_exc, ↓outK_exc, ↓thenK_nx, ↓thenK_rt, ↓thenK_exc, ↓thenK_bk, ↓thenK_ct, ↓optRK_some, ↓quiet_ok, ↓condK_t, ↓condK_f, ↓truth_bl, qE_slot, qE_isx, qE_k, qE_glob, qE_bin, qE_neg, qE_not, qE_and, qE_or, qE_cmp, qE_chain, qE_ife, qE_ix, qE_slc, qE_rev, qE_tup, qE_lst, qE_call, qE_bi, qE_isi, qE_meth, qE_lc, qE_smeth, qE_get2, qE_setd, qE_dnew, qEs_nil, qEs_cons, qAll_nil, qAll_cons, qO_no, qO_some, qI_seq, qI_range1, qI_range2, qI_range3, qI_zip, qI_enum, qI_rev, qT_name, qT_tup, qT_sub, qTs_nil, qTs_cons, qS_asg, qS_par, qS_aug, qS_ife, qS_for, qS_forD, qS_while, qS_ret, qS_retN, qS_drop, qS_pass, qS_brk, qS_cont, qS_raise, qS_try, qS_pick, qSs_nil, qSs_cons, dv_int, dv_bl, dv_str, dv_non, List.getElem?_cons_zero, List.getElem?_cons_succ, List.set_cons_zero, List.set_cons_succ, List.length_cons, List.length_nil, Nat.reduceAdd, Nat.reduceLT, if_true, fin_rt, fin_nx, at_0, at_1, at_2, at_3, itemV_ref, itemV_tup, cmp_eq_int, cmp_ne_int, cmp_lt_int, cmp_le_int, cmp_gt_int, cmp_ge_int, bin_add, bin_sub, bi_int_int, B8, b19l0, e1, e2, e3, e4, z2, m1, m2, m3, cl_bl, Bool.not_true, ↓lc, ln, pf, ne_bl, Bool.and_self]
theorem outs_of : ∀ vs : List DV, (∀ v ∈ vs, ∃ i : Int, v = .int i) → ∃ os : List Int, vs = os.map DV.int
  | [], _ => ⟨[], rfl⟩
  | v :: vs, h => by
    obtain ⟨os, rfl⟩ := outs_of vs fun w hw => h w (List.mem_cons_of_mem _ hw)
    obtain ⟨i, rfl⟩ := h v List.mem_cons_self
    exact ⟨i :: os, rfl⟩
theorem law_go {ns : List Int} : ∃ s', callAt Dt Gt subt (k + 16) 19 [.ref 0] [.frz (ns.map DV.int)] = .ok (.bl true) s' := by
  obtain ⟨seed, hb⟩ := begin_ok (k := k + 14) (ns := ns)
  obtain ⟨S0, hS0⟩ : ∃ S : Store, S = [.frz (ns.map DV.int), .lst (ns.map DV.int), .lst [.ref 1, .int 0, .int 0, .int seed]] := ⟨_, rfl⟩
  have D0 : Dr S0 2 := by rw [hS0]; exact ⟨1, ns, 0, 0, seed, rfl, rfl, Int.le_refl 0, Int.le_refl 0, by decide⟩
  rw [← hS0] at hb
  clear hS0
  have z0 := z_le 0 (by decide)
  have z2 := z_le 2 (by decide)
  obtain ⟨x, s1, e1, x0, x1, D1, K1⟩ := draw (k := k + 14) (many := 2) D0 (by decide) (by decide)
  obtain ⟨bs, ts, s2, e2, hbs, hts, ltl, D2, K2⟩ := program_ok (k := k) (x := x == 1) D1
  -- more statements
  have lt2 := D2.lt
  obtain ⟨y, s3, e3, y0, y1, D3, K3⟩ := draw (k := k + 14) (many := 2) (s := s2 ++ [.lst []]) D2.more (by decide) (by decide)
  obtain ⟨n, hn⟩ : ∃ n : Nat, 1 + y = (n : Int) := ⟨(1 + y).toNat, by omega⟩
  have hE : EnvV 2 s3 (.ref s2.length) 1 := by
    refine EnvV.kp ?_ K3
    exact ⟨_, [], rfl, by omega, get_snoc, by decide, fun x h => by cases h⟩
  obtain ⟨us, s4, e4, l4, h4, D4, K4⟩ := body_any (k := k + 1) 2 s3 (.tup (bs.map bD)) (.ref s2.length) bs n D3 hE (.inl rfl) hbs (by omega) (by omega)
  have cat : binV .add (.tup (ts.map snD)) (.tup (us.map snD)) s4 = .ok (.tup ((ts ++ us).map snD)) s4 := by
    simp only [binV]
    rw [if_pos (by rw [List.length_map, List.length_map]; exact Nat.le_trans (show ts.length + us.length ≤ 1000 by omega) (by decide)), List.map_append]
  have hT : ∀ t ∈ ts ++ us, t.ht ≤ 9 := fun t ht => by
    rcases List.mem_append.mp ht with h | h
    · exact hts t h
    · exact h4 t h
  have lT : (ts ++ us).length ≤ 40 := by rw [List.length_append]; omega
  generalize ts ++ us = tt at *
  -- the outputs
  obtain ⟨o, s5, e5, o0, o1, D5, K5⟩ := draw (k := k + 14) (many := 3) D4 (by decide) (by decide)
  have rgo : (-(2 ^ 62) ≤ o ∧ o < 2 ^ 62) = True := eq_true (by omega)
  have hbl := hbs.2.1
  have lenb : ∀ s, biV .len [.tup (bs.map bD)] s = .ok (.int bs.length) s := fun s => by rw [len_tup, List.length_map]
  obtain ⟨vs, s6, e6, c6, n6, g6, D6, K6⟩ := lc_draw (d := 2) (K0 := k + 15) (t := .name 4) (it := .range1 (.call 7 (.cons (.slot 1) (.cons (.k (.int 3)) (.nil))))) (e := .call 7 (.cons (.slot 1) (.cons (.bi .len (.cons (.slot 2) (.nil))) (.nil)))) (own := [4])
    (r := [some (.ref 0), some (.ref 2), some (.tup (bs.map bD)), some (.tup (tt.map snD)), none, none, none, none, none, none, none, none, none, none, none, none]) (s := s4) (s1 := s5) (f := .free) (xs := (List.range o.toNat).map fun (i : Nat) => DV.int (0 + (i : Int))) (fun v => ∃ i : Int, v = .int i) (by
      simp -implicitDefEqProofs -dsimp only [↓bind_K, ↓out_K, ↓then_K, ↓optR_K, ↓cond_K, ↓forL_K, ↓lcL_K, ↓whileL_K, ↓catch_K, ↓catchK_nx, ↓catchK_rt, ↓catchK_exc, unset_rt, hush_rt, hush_nx, hush_ct, fin_exc, ↓bindK_ok, ↓outK_ok, ↓bindK_exc, ↓outK_exc, ↓thenK_nx, ↓thenK_rt, ↓thenK_exc, ↓thenK_bk, ↓thenK_ct, ↓optRK_some, ↓quiet_ok, ↓condK_t, ↓condK_f, ↓truth_bl, qE_slot, qE_isx, qE_k, qE_glob, qE_bin, qE_neg, qE_not, qE_and, qE_or, qE_cmp, qE_chain, qE_ife, qE_ix, qE_slc, qE_rev, qE_tup, qE_lst, qE_call, qE_bi, qE_isi, qE_meth, qE_lc, qE_smeth, qE_get2, qE_setd, qE_dnew, qEs_nil, qEs_cons, qAll_nil, qAll_cons, qO_no, qO_some, qI_seq, qI_range1, qI_range2, qI_range3, qI_zip, qI_enum, qI_rev, qT_name, qT_tup, qT_sub, qTs_nil, qTs_cons, qS_asg, qS_par, qS_aug, qS_ife, qS_for, qS_forD, qS_while, qS_ret, qS_retN, qS_drop, qS_pass, qS_brk, qS_cont, qS_raise, qS_try, qS_pick, qSs_nil, qSs_cons, dv_int, dv_bl, dv_str, dv_non, List.getElem?_cons_zero, List.getElem?_cons_succ, List.set_cons_zero, List.set_cons_succ, List.length_cons, List.length_nil, Nat.reduceAdd, Nat.reduceLT, if_true, fin_rt, fin_nx, at_0, at_1, at_2, at_3, itemV_ref, itemV_tup, cmp_eq_int, cmp_ne_int, cmp_lt_int, cmp_le_int, cmp_gt_int, cmp_ge_int, bin_add, bin_sub, bi_int_int, e5, rgo]) D5 (fun _ _ => free_ok) (by rw [List.length_map, List.length_range]; omega) (fun z hz s' D' K' => by
      obtain ⟨i, s7, e7, i0, i1, D7, K7⟩ := draw (k := k + 14) (many := (bs.length : Int)) D' hbs.pos (small_log (by omega) (by omega))
      refine ⟨_, s7, ?_, D7, K7, i, rfl⟩
      simp -implicitDefEqProofs -dsimp only [↓bind_K, ↓out_K, ↓then_K, ↓optR_K, ↓cond_K, ↓forL_K, ↓lcL_K, ↓whileL_K, ↓catch_K, ↓catchK_nx, ↓catchK_rt, ↓catchK_exc, unset_rt, hush_rt, hush_nx, hush_ct, fin_exc, ↓bindK_ok, ↓outK_ok, ↓bindK_exc, ↓outK_exc, ↓thenK_nx, ↓thenK_rt, ↓thenK_exc, ↓thenK_bk, ↓thenK_ct, ↓optRK_some, ↓quiet_ok, ↓condK_t, ↓condK_f, ↓truth_bl, qE_slot, qE_isx, qE_k, qE_glob, qE_bin, qE_neg, qE_not, qE_and, qE_or, qE_cmp, qE_chain, qE_ife, qE_ix, qE_slc, qE_rev, qE_tup, qE_lst, qE_call, qE_bi, qE_isi, qE_meth, qE_lc, qE_smeth, qE_get2, qE_setd, qE_dnew, qEs_nil, qEs_cons, qAll_nil, qAll_cons, qO_no, qO_some, qI_seq, qI_range1, qI_range2, qI_range3, qI_zip, qI_enum, qI_rev, qT_name, qT_tup, qT_sub, qTs_nil, qTs_cons, qS_asg, qS_par, qS_aug, qS_ife, qS_for, qS_forD, qS_while, qS_ret, qS_retN, qS_drop, qS_pass, qS_brk, qS_cont, qS_raise, qS_try, qS_pick, qSs_nil, qSs_cons, dv_int, dv_bl, dv_str, dv_non, List.getElem?_cons_zero, List.getElem?_cons_succ, List.set_cons_zero, List.set_cons_succ, List.length_cons, List.length_nil, Nat.reduceAdd, Nat.reduceLT, if_true, fin_rt, fin_nx, at_0, at_1, at_2, at_3, itemV_ref, itemV_tup, cmp_eq_int, cmp_ne_int, cmp_lt_int, cmp_le_int, cmp_gt_int, cmp_ge_int, bin_add, bin_sub, bi_int_int, wipe, lenb, e7])
  obtain ⟨os, rfl⟩ := outs_of vs g6
  rw [List.length_map, List.length_map, List.length_range] at n6
  have c6' := cellL_of c6
  -- what is due
  have rgb : (-(2 ^ 62) ≤ (bs.length : Int) ∧ (bs.length : Int) < 2 ^ 62) = True := eq_true (by omega)
  obtain ⟨w4, w7, w8, w9, w15, s8, e8, m8, D8, K8⟩ := due_run (d := 2) (K := k + 15) (m := s6.length) (bs := bs) (ts := tt) (os := os) (s0 := s6) (w0 := some (.ref 0)) (w1 := some (.ref 2)) (w10 := none) (w11 := none) (w12 := none) (w13 := none) (w14 := none) (by omega) hbs hT lT (Nat.le_refl _) D6.lt bs 0 [] (s6 ++ [.lst []]) none none none none none (fun j b hj => ⟨by rw [Int.zero_add]; exact L2.atI_nat hj, List.mem_of_getElem? hj⟩) D6.more get_snoc (by rw [List.length_nil]; omega) Kp.app
  have c8 : evS (callAt Dt Gt subt (k + 15)) Gt subt (.for_ (.name 4) (.range1 (.bi .len (.cons (.slot 2) (.nil)))) b19l1) [some (.ref 0), some (.ref 2), some (.tup (bs.map bD)), some (.tup (tt.map snD)), none, some (.tup (os.map DV.int)), some (.ref s6.length), none, none, none, none, none, none, none, none, none] (s6 ++ [.lst []]) = _ := evS_for (by
    rw [← rng_is]
    simp -implicitDefEqProofs -dsimp only [↓bind_K, ↓out_K, ↓then_K, ↓optR_K, ↓cond_K, ↓forL_K, ↓lcL_K, ↓whileL_K, ↓catch_K, ↓catchK_nx, ↓catchK_rt, ↓catchK_exc, unset_rt, hush_rt, hush_nx, hush_ct, fin_exc, ↓bindK_ok, ↓outK_ok, ↓bindK_exc, ↓outK_exc, ↓thenK_nx, ↓thenK_rt, ↓thenK_exc, ↓thenK_bk, ↓thenK_ct, ↓optRK_some, ↓quiet_ok, ↓condK_t, ↓condK_f, ↓truth_bl, qE_slot, qE_isx, qE_k, qE_glob, qE_bin, qE_neg, qE_not, qE_and, qE_or, qE_cmp, qE_chain, qE_ife, qE_ix, qE_slc, qE_rev, qE_tup, qE_lst, qE_call, qE_bi, qE_isi, qE_meth, qE_lc, qE_smeth, qE_get2, qE_setd, qE_dnew, qEs_nil, qEs_cons, qAll_nil, qAll_cons, qO_no, qO_some, qI_seq, qI_range1, qI_range2, qI_range3, qI_zip, qI_enum, qI_rev, qT_name, qT_tup, qT_sub, qTs_nil, qTs_cons, qS_asg, qS_par, qS_aug, qS_ife, qS_for, qS_forD, qS_while, qS_ret, qS_retN, qS_drop, qS_pass, qS_brk, qS_cont, qS_raise, qS_try, qS_pick, qSs_nil, qSs_cons, dv_int, dv_bl, dv_str, dv_non, List.getElem?_cons_zero, List.getElem?_cons_succ, List.set_cons_zero, List.set_cons_succ, List.length_cons, List.length_nil, Nat.reduceAdd, Nat.reduceLT, if_true, fin_rt, fin_nx, at_0, at_1, at_2, at_3, itemV_ref, itemV_tup, cmp_eq_int, cmp_ne_int, cmp_lt_int, cmp_le_int, cmp_gt_int, cmp_ge_int, bin_add, bin_sub, bi_int_int, lenb, rgb]
    rfl) e8
  have du : (mains bs 0).map (fun i => pD (fstO tt i, lstO tt os i)) = (liveL bs tt os).map pD := by
    unfold liveL
    rw [List.map_map]
    rfl
  rw [List.nil_append, du] at m8
  -- the program's answer
  obtain ⟨s9, e9, D9, K9⟩ := lives_ok (d := 2) (K := k + 14) (bs := bs) (ts := tt) (os := os) (s := s8) (by omega) D8 hbs hT lT (by omega)
  have m9 := cellL_of (K9.get m8 (by have := D6.lt; omega))
  have ne := fun s => ne_pD (s := s) (l := liveL bs tt os)
  -- lives that meet
  have rg3 : (-(2 ^ 62) ≤ (3 : Int) ∧ (3 : Int) < 2 ^ 62) = True := eq_true (by omega)
  have key := for_word (f := .free) (body := B8 (k + 15)) (all := (List.range (3 : Int).toNat).map fun (i : Nat) => DV.int (0 + (i : Int))) (r := [some (.ref 0), some (.ref 2), some (.tup (bs.map bD)), some (.tup (tt.map snD)), w4, some (.tup (os.map DV.int)), some (.ref s6.length), w7, w8, w9, some (.tup ((liveL bs tt os).map pD)), none, none, none, none, w15]) (s := s9)
    (fun dn r s' => Dr s' 2 ∧ ∃ w11 w12 w13 w14, r = [some (.ref 0), some (.ref 2), some (.tup (bs.map bD)), some (.tup (tt.map snD)), w4, some (.tup (os.map DV.int)), some (.ref s6.length), w7, w8, w9, some (.tup ((liveL bs tt os).map pD)), w11, w12, w13, w14, w15])
    ⟨D9, _, _, _, _, rfl⟩ (fun _ _ _ _ => free_ok)
    (fun dn y e r s' he h => by
      obtain ⟨D', w11, w12, w13, w14, rfl⟩ := h
      obtain ⟨a12, a13, a14, sA, eA, DA⟩ := meet_turn (k := k + 14) (x := y) (w0 := some (.ref 0)) (w2 := some (.tup (bs.map bD))) (w3 := some (.tup (tt.map snD))) (w4 := w4) (w5 := some (.tup (os.map DV.int))) (w6 := some (.ref s6.length)) (w7 := w7) (w8 := w8) (w9 := w9) (w10 := some (.tup ((liveL bs tt os).map pD))) (w11 := w11) (w12 := w12) (w13 := w13) (w14 := w14) (w15 := w15) D'
      exact ⟨_, sA, .inl eA, DA, some y, a12, a13, a14, rfl⟩)
  obtain ⟨rA, sA, fA, DA, w11, w12, w13, w14, rfl⟩ := key
  have cA : evS (callAt Dt Gt subt (k + 15)) Gt subt (.for_ (.name 11) (.range1 (.k (.int 3))) b19l0) [some (.ref 0), some (.ref 2), some (.tup (bs.map bD)), some (.tup (tt.map snD)), w4, some (.tup (os.map DV.int)), some (.ref s6.length), w7, w8, w9, some (.tup ((liveL bs tt os).map pD)), none, none, none, none, w15] s9 = _ := evS_for (by
    simp -implicitDefEqProofs -dsimp only [↓bind_K, ↓out_K, ↓then_K, ↓optR_K, ↓cond_K, ↓forL_K, ↓lcL_K, ↓whileL_K, ↓catch_K, ↓catchK_nx, ↓catchK_rt, ↓catchK_exc, unset_rt, hush_rt, hush_nx, hush_ct, fin_exc, ↓bindK_ok, ↓outK_ok, ↓bindK_exc, ↓outK_exc, ↓thenK_nx, ↓thenK_rt, ↓thenK_exc, ↓thenK_bk, ↓thenK_ct, ↓optRK_some, ↓quiet_ok, ↓condK_t, ↓condK_f, ↓truth_bl, qE_slot, qE_isx, qE_k, qE_glob, qE_bin, qE_neg, qE_not, qE_and, qE_or, qE_cmp, qE_chain, qE_ife, qE_ix, qE_slc, qE_rev, qE_tup, qE_lst, qE_call, qE_bi, qE_isi, qE_meth, qE_lc, qE_smeth, qE_get2, qE_setd, qE_dnew, qEs_nil, qEs_cons, qAll_nil, qAll_cons, qO_no, qO_some, qI_seq, qI_range1, qI_range2, qI_range3, qI_zip, qI_enum, qI_rev, qT_name, qT_tup, qT_sub, qTs_nil, qTs_cons, qS_asg, qS_par, qS_aug, qS_ife, qS_for, qS_forD, qS_while, qS_ret, qS_retN, qS_drop, qS_pass, qS_brk, qS_cont, qS_raise, qS_try, qS_pick, qSs_nil, qSs_cons, dv_int, dv_bl, dv_str, dv_non, List.getElem?_cons_zero, List.getElem?_cons_succ, List.set_cons_zero, List.set_cons_succ, List.length_cons, List.length_nil, Nat.reduceAdd, Nat.reduceLT, if_true, fin_rt, fin_nx, at_0, at_1, at_2, at_3, itemV_ref, itemV_tup, cmp_eq_int, cmp_ne_int, cmp_lt_int, cmp_le_int, cmp_gt_int, cmp_ge_int, bin_add, bin_sub, bi_int_int, rg3]) fA
  refine ⟨sA, ?_⟩
  simp -implicitDefEqProofs -dsimp only [↓bind_K, ↓out_K, ↓then_K, ↓optR_K, ↓cond_K, ↓forL_K, ↓lcL_K, ↓whileL_K, ↓catch_K, ↓catchK_nx, ↓catchK_rt, ↓catchK_exc, unset_rt, hush_rt, hush_nx, hush_ct, fin_exc, ↓bindK_ok, ↓outK_ok, ↓bindK_exc, ↓outK_exc, ↓thenK_nx, ↓thenK_rt, ↓thenK_exc, ↓thenK_bk, ↓thenK_ct, ↓optRK_some, ↓quiet_ok, ↓condK_t, ↓condK_f, ↓truth_bl, qE_slot, qE_isx, qE_k, qE_glob, qE_bin, qE_neg, qE_not, qE_and, qE_or, qE_cmp, qE_chain, qE_ife, qE_ix, qE_slc, qE_rev, qE_tup, qE_lst, qE_call, qE_bi, qE_isi, qE_meth, qE_lc, qE_smeth, qE_get2, qE_setd, qE_dnew, qEs_nil, qEs_cons, qAll_nil, qAll_cons, qO_no, qO_some, qI_seq, qI_range1, qI_range2, qI_range3, qI_zip, qI_enum, qI_rev, qT_name, qT_tup, qT_sub, qTs_nil, qTs_cons, qS_asg, qS_par, qS_aug, qS_ife, qS_for, qS_forD, qS_while, qS_ret, qS_retN, qS_drop, qS_pass, qS_brk, qS_cont, qS_raise, qS_try, qS_pick, qSs_nil, qSs_cons, dv_int, dv_bl, dv_str, dv_non, List.getElem?_cons_zero, List.getElem?_cons_succ, List.set_cons_zero, List.set_cons_succ, List.length_cons, List.length_nil, Nat.reduceAdd, Nat.reduceLT, if_true, fin_rt, fin_nx, at_0, at_1, at_2, at_3, itemV_ref, itemV_tup, cmp_eq_int, cmp_ne_int, cmp_lt_int, cmp_le_int, cmp_gt_int, cmp_ge_int, bin_add, bin_sub, bi_int_int, call_19, b19, hb, e1, e2, z0, e3, hn, e4, cat, ↓e6, tuple_ref c6', ↓c8, z2, e9, cl_tup, Bool.not_true, tuple_ref m9, ne, ↓cA]
theorem law_run : ∀ ns : List Int, ns.length ≤ 63 → ∃ s', callAt Dt Gt subt 60 19 [.ref 0] [.frz (ns.map DV.int)] = .ok (.bl true) s' := fun ns _ => law_go (k := 44)
end
end Lw
end PtLk42N
set_option Elab.async false
set_option linter.all false
set_option maxRecDepth 100000
set_option maxHeartbeats 4000000
open PySem PySem.W PyProof.Rows
set_option maxHeartbeats 0 in
theorem PySem.Challenge.cw_tensorworks_k42_lives_of_buffers_holds : PySem.Challenge.rw_tensorworks_k42_lives_of_buffers.Holds := by
  w_on; o_law; k_head; (case hw => w_witness2)
  k_fill
  refine L2.walk_of (l := PySem.Challenge.rw_tensorworks_k42_lives_of_buffers) (n := 63) (k := 60) (x := "script") (CX := fun w => L2.CX PySem.Challenge.rw_tensorworks_k42_lives_of_buffers.prog w) (sp := fun w => Ip.spO (Ip.callAt Lw.Dt Lw.Gt Lw.subt 60) _ 19 1) rfl (by decide) rfl ⟨rfl, by decide, by decide⟩ (fun w h Y => PySem.W.kIn_of Y) ?F (fun _ _ a ns hl ho hS => Ip.law_spO hl ho hS (Lw.law_run ns hl)) (fun _ _ _ _ _ h => Ip.cx_none h)
  case F =>
    intro w mg fa h KX G hmg
    refine' Lw.end_of KX G hmg ?a0 ?l0 ?c0 ?k0 ?a1 ?l1 ?c1 ?k1 ?a2 ?l2 ?c2 ?k2 ?a3 ?l3 ?c3 ?k3 ?a4 ?l4 ?c4 ?k4 ?a5 ?l5 ?c5 ?k5 ?a6 ?l6 ?c6 ?k6 ?a7 ?l7 ?c7 ?k7 ?a8 ?l8 ?c8 ?k8 ?a9 ?l9 ?c9 ?k9 ?a10 ?l10 ?c10 ?k10 ?a11 ?l11 ?c11 ?k11 ?a12 ?l12 ?c12 ?k12 ?a13 ?l13 ?c13 ?k13 ?a14 ?l14 ?c14 ?k14 ?a15 ?l15 ?c15 ?k15 ?a16 ?l16 ?c16 ?k16 ?a17 ?l17 ?c17 ?k17 ?a18 ?l18 ?c18 ?k18 ?a19 ?l19 ?c19 ?k19 ?z_abs ?z_any ?z_bool ?z_enumerate ?z_int ?z_isinstance ?z_len ?z_list ?z_max ?z_min ?z_range ?z_tuple
    (case a0 => k_is); (case l0 => k_is); (case c0 => k_is); (case k0 => k_is); (case a1 => k_is); (case l1 => k_is); (case c1 => k_is); (case k1 => k_is); (case a2 => k_is); (case l2 => k_is); (case c2 => k_is); (case k2 => k_is); (case a3 => k_is); (case l3 => k_is); (case c3 => k_is); (case k3 => k_is); (case a4 => k_is); (case l4 => k_is); (case c4 => k_is); (case k4 => k_is); (case a5 => k_is); (case l5 => k_is); (case c5 => k_is); (case k5 => k_is); (case a6 => k_is); (case l6 => k_is); (case c6 => k_is); (case k6 => k_is); (case a7 => k_is); (case l7 => k_is); (case c7 => k_is); (case k7 => k_is); (case a8 => k_is); (case l8 => k_is); (case c8 => k_is); (case k8 => k_is); (case a9 => k_is); (case l9 => k_is); (case c9 => k_is); (case k9 => k_is); (case a10 => k_is); (case l10 => k_is); (case c10 => k_is); (case k10 => k_is); (case a11 => k_is); (case l11 => k_is); (case c11 => k_is); (case k11 => k_is); (case a12 => k_is); (case l12 => k_is); (case c12 => k_is); (case k12 => k_is); (case a13 => k_is); (case l13 => k_is); (case c13 => k_is); (case k13 => k_is); (case a14 => k_is); (case l14 => k_is); (case c14 => k_is); (case k14 => k_is); (case a15 => k_is); (case l15 => k_is); (case c15 => k_is); (case k15 => k_is); (case a16 => k_is); (case l16 => k_is); (case c16 => k_is); (case k16 => k_is); (case a17 => k_is); (case l17 => k_is); (case c17 => k_is); (case k17 => k_is); (case a18 => k_is); (case l18 => k_is); (case c18 => k_is); (case k18 => k_is); (case a19 => k_is); (case l19 => k_is); (case c19 => k_is); (case k19 => k_is); (case z_abs => k_is); (case z_any => k_is); (case z_bool => k_is); (case z_enumerate => k_is); (case z_int => k_is); (case z_isinstance => k_is); (case z_len => k_is); (case z_list => k_is); (case z_max => k_is); (case z_min => k_is); (case z_range => k_is); (case z_tuple => k_is)
