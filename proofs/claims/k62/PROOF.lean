import PyProof.Rows.All
import Wide.All
import OpenK.AllK
import Wide.FinOn
import HandS.Base
import HandS.Call
import HandS.Set
import PyProof.StrWalks
import HandS.List
import HandS.TupAny
import HandS.Text
import HandS.Conv
import KE.KDictPairs
import HandS.Dict
import PySem.Syntax
import PyProof.EqLayable
import PyProof.StrBlock2
import HandS.Comp
import HandS.Ends
import HandS.Iter
import HandS.Words
import HandS.Exc
import HandS.TryOnly
import HandS.ExcOwn
import HandS.Flow
import HandS.Wide
import HandS.WideBits
import HandS.Style
import HandS.IsInst
import HandS.Zip
import HandS.Rev
import HandS.WordsExc
import HandS.ExcIs
import HandS.Gcd
import HandS.FStr
import HandS.StrMore
import HandS.More
import KE.DataMinMax
import PyProof.Rows.StrAscii
import PyProof.Rows.StrDigitsNeg
import PyProof.Rows.StrJoinRep
import PySem.Challenge.RW_tensorworks_k62_multipliers_and_codes
section PtIpSet
set_option Elab.async false
set_option linter.all false
set_option maxRecDepth 100000
namespace IpS
open PySem PySem.Spec PyProof.Rows
/-! ### the signs met so far, each once -/
def addC (acc : List Str) (c : Str) : List Str := if acc.any (· == c) then acc else acc ++ [c]
def metC (val : Nat → Str) : Nat → List Str
  | 0 => []
  | i + 1 => addC (metC val i) (val i)
theorem metC_le (val : Nat → Str) : ∀ i, (metC val i).length ≤ i
  | 0 => Nat.le_refl _
  | i + 1 => by
    have h0 := metC_le val i
    rw [metC, addC]
    split
    · omega
    · rw [List.length_append, List.length_singleton]
      omega
theorem addC_any (σ : List Str) (v k : Str) : (addC σ v).any (· == k) = (σ.any (· == k) || decide (k = v)) := by
  have flip : (v == k) = decide (k = v) := by
    by_cases q : k = v
    · rw [q, decide_eq_true rfl, beq_self_eq_true]
    · rw [decide_eq_false q]
      exact beq_eq_false_iff_ne.mpr fun z => q z.symm
  rw [addC]
  split
  · rename_i hv
    by_cases q : k = v
    · rw [q, hv]; rfl
    · rw [decide_eq_false q, Bool.or_false]
  · rw [List.any_append, List.any_cons, List.any_nil, Bool.or_false, flip]
theorem addC_length (σ : List Str) (v : Str) : (addC σ v).length = if σ.any (· == v) then σ.length else σ.length + 1 := by
  rw [addC]
  split
  · rfl
  · rw [List.length_append]; rfl
def sgn (x : Str) (i : Nat) : Str := ⟨#[x.cps.getD i 0]⟩
/-! ### the update of a set by what is walked -/
section
variable {prog : Program} {w : World} {A : Around} {R : Result → Shared → Prop} {s : Shared} {S I : Addr}
/-- one turn -/
theorem upd_turn (h : wpAny (model prog w) A.in1 (pyNext (.ref I)) (fun o t => match o with
      | none => R (.ok (.ret .none)) t
      | some v => wpAny (model prog w) A.in1 (setAdd S v) (fun _ u => codeAny (model prog w) A (.builtin "set.update.loop" ⟨[.ref S, .ref I], []⟩) R u) (fun e u => R (.error e) u) t) (fun e t => R (.error e) t) s) :
    codeAny (model prog w) A (.builtin "set.update.loop" ⟨[.ref S, .ref I], []⟩) R s := by
  apply codeAny_builtin PyProof.Rows.F.entry_set_update_loop
  rw [A.under_plainId PyProof.Rows.F.plain_set_update_loop]
  apply wpAny_bind
  apply wpAny_mono h _ fun _ _ e => e
  intro o t
  cases o with
  | none => exact fun q => wpAny_pure q
  | some v =>
    intro q
    apply wpAny_bind
    apply wpAny_holding
    exact wpAny_mono q (fun _ _ z => wpAny_pure ⟨plainId_quiet PyProof.Rows.F.plain_set_update_loop _, z⟩) fun _ _ e => e
variable {fp wr : List Addr} {G : Array GenState → Array GenState → Prop} {n : Nat} {P : Nat → Value → Prop} {St : Nat → Shared → Prop}
/-- the set holds what was met in i turns -/
abbrev Met (prog : Program) (w : World) (h : Heap) (S : Addr) (val : Nat → Str) (i : Nat) : Prop := h.SetOf (PySem.strKind prog w) S (fun c => (metC val i).any (· == c)) (metC val i).length
theorem Met.keep {h h' : Heap} {val : Nat → Str} {i : Nat} (m : Met prog w h S val i) (k : ∀ o, h.get? S = some o → h'.get? S = some o) : Met prog w h' S val i := by
  obtain ⟨o, a, b, c, q, r⟩ := m
  exact ⟨o, a, b, c, k o q, r⟩
theorem upd_all (W : WalksS prog w A.in1 I fp wr G n P St) (out : S ∉ fp) (val : Nat → Str) (told : ∀ i v, P i v → ∃ t, v = .str (val i) t) (few : n + 1 < scanBound) (left : Nat) :
    ∀ (i : Nat) (s : Shared), i + left = n → St i s → Met prog w s.heap S val i →
      (∀ t, Moved (S :: wr) G s t → Met prog w t.heap S val n → R (.ok (.ret .none)) t) → codeAny (model prog w) A (.builtin "set.update.loop" ⟨[.ref S, .ref I], []⟩) R s := by
  have out2 : S ∉ wr := fun q => out (W.sub S q)
  have more : ∀ b ∈ wr, b ∈ S :: wr := fun b q => .tail _ q
  induction left with
  | zero =>
    rintro i s rfl st met fin
    apply upd_turn
    exact W.done s _ _ st fun t mv => fin t (mv.mono more) (met.keep fun o q => mv.heap S o out2 q)
  | succ left ih =>
    intro i s sum st met fin
    apply upd_turn
    refine W.item i s _ _ (by omega) st fun v t hv st2 mv => ?_
    obtain ⟨tk, rfl⟩ := told i v hv
    have met2 := met.keep (h' := t.heap) fun o q => mv.heap S o out2 q
    unfold setAdd
    apply wpAny_holding
    apply wpAny_bind
    apply (PySem.strKind prog w).pyHash (k := val i) (strKind_is _ _ _ _)
    have room := metC_le val i
    refine wpAny_setAddHashed_of (knd := PySem.strKind prog w) (s := { t with toks := t.toks + 1 }) (strKind_is _ _ _ _) rfl met2 (by omega) fun h3 only met3 => ?_
    have ne : ∀ b, b ∈ fp → b ≠ S := fun b q z => out (z ▸ q)
    refine ih (i + 1) _ (by omega) (W.frame (i + 1) t h3 _ st2 (Nat.le_succ _) fun b q o e => ?_) (SetOf_congr met3 (fun c => (addC_any _ _ c).symm) (addC_length _ _).symm) fun u mv2 met4 => fin u (Moved.trans W.gtrans ((mv.mono more).then_heap (Nat.le_succ _) fun b o q e => ?_) mv2) met4
    · rw [only.2 b (ne b q)]
      exact e
    · rw [only.2 b fun z => q (z ▸ .head _)]
      exact e
end
section
variable {prog : Program} {w : World} {A : Around} {E : Value → Shared → Prop} {s : Shared}
theorem text_no_set : isSubtype (.type "str") (.type "set") = pure false := by rw [isSubtype_type]; kernel_rfl
theorem text_no_frz : isSubtype (.type "str") (.type "frozenset") = pure false := by rw [isSubtype_type]; kernel_rfl
/-- the object of a new set -/
def setObj (led : Bool) : Obj := { cls := .type "set", dict := none, data := .set #[] 0 (.fresh 0 0 led) }
/-- what a text is to a set -/
theorem upd_text {A : Around} {E : Value → Shared → Prop} {s : Shared} {x : Str} {t : Tok} {S : Addr} {led : Bool} {Q : Unit → Shared → Prop} (hh : A.handled = none) (few : x.cps.size + 1 < scanBound) (hS : s.heap.get? S = some (setObj led))
    (h : ∀ h' tk, Met prog w h' S (sgn x) x.cps.size → (∀ b o, b ≠ S → s.heap.get? b = some o → h'.get? b = some o) → Q () { s with heap := h', toks := tk }) :
    wpAny (model prog w) A (Builtin.Frozenset.updateFrom "set.__init__" S (.str x t)) Q E s := by
  have g1 := text_no_set
  have g2 := text_no_frz
  have g3 : (Value.type "str" == Value.type "dict") = false := by decide
  unfold Builtin.Frozenset.updateFrom
  generalize hw : pyIter = step
  wp_walk
  subst hw
  apply wpAny_pyIter_str
  intro o St W st
  apply wpAny_bind
  apply wpAny_runValue
  have lt : S < s.heap.objs.size := Heap.lt_size hS
  refine upd_all (W A.in1 hh).toS (by simpa using Nat.ne_of_lt lt) (sgn x) (fun i v q => ?_) few x.cps.size 0 _ (Nat.zero_add _) st ?_ fun u mv met => ?_
  · obtain ⟨c, k, e, rfl⟩ := q
    refine ⟨k, ?_⟩
    rw [sgn, Array.getD_eq_getD_getElem?, e]
    rfl
  · have fresh := (PyProof.Rows.setObjOf_fresh (knd := PySem.strKind prog w) led).setOf (Heap.get?_push_of_some o hS) (by unfold scanBound; omega)
    exact SetOf_congr fresh (fun _ => rfl) rfl
  · have e : u = { s with heap := u.heap, toks := u.toks } := by
      obtain ⟨_, _, _, _, _⟩ := u
      have q1 := mv.gens
      have q2 := mv.drawn
      have q3 := mv.os
      cases q1
      cases q2
      cases q3
      rfl
    rw [e]
    apply wpAny_pure
    refine h _ _ met fun b ob q eb => mv.heap b ob ?_ (Heap.get?_push_of_some o eb)
    have := Heap.lt_size eb
    simp only [List.mem_cons, List.not_mem_nil, or_false, not_or]
    exact ⟨q, Nat.ne_of_lt this⟩
set_option maxHeartbeats 3200000 in
/-- set(text): a new object at the end of the heap -/
theorem call_set_text {x : Str} {t : Tok} {Q : Value → Shared → Prop} (calm : A.handled = none) (few : x.cps.size + 1 < scanBound)
    (h : ∀ (h' : Heap) (tk : Nat), Met prog w h' s.heap.objs.size (sgn x) x.cps.size → (∀ b o, b < s.heap.objs.size → s.heap.get? b = some o → h'.get? b = some o) → Q (.ref s.heap.objs.size) { s with heap := h', toks := tk }) :
    wpAny (model prog w) A (call (.type "set") [.str x t]) Q E s := by
  have F := PySem.F.called_set
  have f1 := F.notType
  have f2 := F.canCreate
  obtain ⟨_, _, f3⟩ := F.mro
  have f4 := F.made
  have f5 := F.sub
  have f6 := PySem.F.typeCall_set_1 (.str x t)
  apply wpAny_call
  apply codeAny_of_tree
  show wpAny _ _ (callAny (.type "set") _) _ _ _
  apply wpAny_pure
  constructor
  · exact Code.quiet_builtin _ (by decide +kernel)
  apply codeAny_builtin PySem.F.entry_type_call
  rw [A.under_plain (weight_type_call_type "set" [.str x t] []) rfl]
  repeat (any_goals (first | assumption | wp_step))
  -- the new object
  apply codeAny_mono (code_set_new_1 (.str x t) (E := E) (Q₁ := fun v u => ∃ led, v = .ref s.heap.objs.size ∧ u = { s with heap := s.heap.push (setObj led) }) fun led => ⟨led, rfl, rfl⟩)
  rintro (e | fl) s1 hv
  · exact hv
  cases fl with
  | ret v =>
    obtain ⟨led, rfl, rfl⟩ := hv
    have at_ : (s.heap.push (setObj led)).get? s.heap.objs.size = some (setObj led) := Heap.get?_push_size _ rfl
    have ty : Shared.TypeIs { s with heap := s.heap.push (setObj led) } (.ref s.heap.objs.size) "set" := ⟨_, at_, rfl⟩
    have g1 := F.init.lookup
    have g2 := F.init.bind (.ref s.heap.objs.size)
    repeat (any_goals (first | assumption | wp_step))
    -- its __init__
    apply codeAny_mono (codeAny_call_builtin (R := wants (fun r u => r = .none ∧ ∃ h' tk, u = { s with heap := h', toks := tk } ∧ Met prog w h' s.heap.objs.size (sgn x) x.cps.size ∧ ∀ b o, b < s.heap.objs.size → s.heap.get? b = some o → h'.get? b = some o) E) F.init.plain PySem.F.entry_set_init (check_set_init_1 ty ?_))
    · rintro (e | fl) s2 hu
      · exact hu
      cases fl with
      | ret r =>
        obtain ⟨rfl, h', tk, rfl, m, k⟩ := hu
        repeat (any_goals (first | assumption | wp_step))
        exact h _ _ m k
      | _ => exact hu.elim
    · unfold Builtin.«set.__init__» noKeywords
      generalize hu : Builtin.Frozenset.updateFrom = U
      wp_walk
      subst hu
      apply upd_text (led := led) (by simp [calm]) few at_
      intro h' tk m k
      repeat (any_goals (first | assumption | wp_step))
      exact ⟨rfl, h', tk, rfl, m, fun b o lt q => k b o (Nat.ne_of_lt lt) (Heap.get?_push_of_some _ q)⟩
  | _ => exact hv.elim
end
end IpS
end PtIpSet
section PtIpTup
set_option Elab.async false
set_option linter.all false
set_option maxRecDepth 100000
/-! tuples that are known to have no dict of their own -/
namespace Ip
open PySem PySem.Spec PyProof.Rows L2
/-- a tuple without a dict -/
def TupP (K : PySem.W.Frag) (H : Hp) (a : Addr) (xs : List V) : Prop :=
  (∃ o, H a = some (.frz o (.tup xs)) ∧ o.dict = none) ∨
    ∃ (o : Obj) (its : Array Value) (n : Nat), K.lookup a = some o ∧ o.cls = .type "tuple" ∧ o.dict = none ∧ o.data = .seq its n ∧ its.size ≤ sizeLine ∧ Vals xs its.toList
theorem TupP.sq {K : PySem.W.Frag} {H : Hp} {a : Addr} {xs : List V} (h : TupP K H a xs) : SqT K H a xs := by
  rcases h with ⟨o, h, _⟩ | ⟨o, its, n, h1, h2, _, h4⟩
  · exact .inl (.inr ⟨o, h⟩)
  · exact .inr ⟨o, its, n, h1, h2, h4⟩
theorem TupP.of {K : PySem.W.Frag} {H : Hp} {a : Addr} {o : Obj} {xs : List V} (h : H a = some (.frz o (.tup xs))) (hd : o.dict = none) : TupP K H a xs := .inl ⟨o, h, hd⟩
theorem TupP.upd {K : PySem.W.Frag} {H : Hp} {a p : Addr} {o : HO} {xs : List V} (hp : H p = none) (h : TupP K H a xs) : TupP K (L2.upd H p o) a xs := by
  rcases h with ⟨u, h, hd⟩ | h
  · exact .inl ⟨u, by rw [upd_ne (ne_of_none h hp)]; exact h, hd⟩
  · exact .inr h
theorem TupP.setL {K : PySem.W.Frag} {H : Hp} {a p : Addr} {vs ws xs : List V} (hp : H p = some (.lst vs)) (h : TupP K H a xs) : TupP K (L2.upd H p (.lst ws)) a xs := by
  rcases h with ⟨u, h, hd⟩ | h
  · exact .inl ⟨u, by rw [upd_ne (ne_of h hp (fun z => by cases z))]; exact h, hd⟩
  · exact .inr h
theorem TupP.const {K : PySem.W.Frag} {H : Hp} {a : Addr} {xs : List V} (h : ∃ (o : Obj) (its : Array Value) (n : Nat), K.lookup a = some o ∧ o.cls = .type "tuple" ∧ o.dict = none ∧ o.data = .seq its n ∧ its.size ≤ sizeLine ∧ Vals xs its.toList) : TupP K H a xs := .inr h
/-- a new tuple -/
def NewT (H : Hp) (xs : List V) (Q : VK) : Prop := ∀ p o, H p = none → o.dict = none → Q (.ref p) (upd H p (.frz o (.tup xs)))
def tupO (us : List Value) : Obj := { cls := .type "tuple", data := .seq us.toArray }
section
variable {X : Cx} {pins : List (Addr × Obj)} {σ : L2.St} {H : Hp} {s : Shared} {Q : VK} {xs : List V} {us : List Value}
theorem new_tup {t : Nat} (I : Inv X pins σ H s) (r : Vals xs us) (z : xs.length ≤ sizeLine) (q : NewT H xs Q) : EP X pins σ Q (.ref s.heap.objs.size) { s with heap := s.heap.push (tupO us), toks := t } :=
  have at_ : (s.heap.push (tupO us)).get? s.heap.objs.size = some (tupO us) := Heap.get?_push_size _ rfl
  ⟨.ref s.heap.objs.size, upd H s.heap.objs.size (.frz (tupO us) (.tup xs)), I.laid (fun _ _ e => Heap.get?_push_of_some _ e) (Nat.le_refl _) ⟨at_, z, us, r, _, at_, rfl, _, rfl⟩, rfl, q _ _ (I.hok.fresh (Nat.le_refl _)) rfl⟩
end
section
variable {X : Cx}
theorem pe_tupZ {es : List Expr} {k : Nat} {pos : Pos} {t : TA} (h : PA X es t) : PE X (.Tuple es k pos) (fun σ H Q => t σ H fun xs H1 => xs.length ≤ sizeLine ∧ NewT H1 xs Q) :=
  ⟨fun pins s σ H Q I q => wpAny_Tuple_spliced (thn (h.run pos pins s σ H _ I q) fun us s1 ⟨xs, H1, I1, r, z, q1⟩ => ⟨by rw [← r.length]; exact z, new_tup (t := s1.toks) I1 r z q1⟩)⟩
/-- tuple(xs) -/
theorem cr_tupleZ : CallR X (.type "tuple") (fun vs H Q => ∃ p ys, vs = [.ref p] ∧ ((SqL X.K H p ys ∧ NewT H ys Q) ∨ (TupP X.K H p ys ∧ Q (.ref p) H))) := by
  rintro pins s σ H vs us Q I r ⟨p, ys, rfl, hq⟩
  obtain ⟨u, rfl, rx⟩ := vals1 r
  cases rx
  rcases hq with ⟨hl, q⟩ | ⟨ht, q⟩
  · obtain ⟨its, rv, pl, z⟩ := I.list hl
    have le := rv.length
    exact call_tuple_list pl.isList (fun h' kp => new_tup (s := { s with heap := h' }) (t := s.toks) (I.kept (t' := s.toks) kp) rv z q) (by rw [List.size_toArray]; omega)
  · obtain ⟨its, rv, pl, z⟩ := I.tuple ht.sq
    refine call_tuple_same pl ?_
    exact ⟨V.ref p, H, I, rfl, q⟩
/-- t + u -/
theorem or_catZ : OpR X (binaryOp .Add) (fun x y H Q => ∃ a b xs ys, x = .ref a ∧ y = .ref b ∧ TupP X.K H a xs ∧ TupP X.K H b ys ∧ xs.length + ys.length ≤ sizeLine ∧
    (xs = [] → Q (.ref b) H) ∧ (xs ≠ [] → ys = [] → Q (.ref a) H) ∧ NewT H (xs ++ ys) Q) := by
  rintro pins s σ H x y v u Q I rx ry ⟨a, b, xs, ys, rfl, rfl, ha, hb, hz, q0, q1, q2⟩
  cases rx
  cases ry
  obtain ⟨its, r1, p1, _⟩ := I.tuple ha.sq
  obtain ⟨its2, r2, p2, _⟩ := I.tuple hb.sq
  by_cases hx : xs = []
  · subst hx
    cases r1
    refine cat_tup0 p1 p2 ?_
    exact ⟨V.ref b, H, I, rfl, q0 rfl⟩
  · exact HT.cat_tup p1 p2 (fun e => hx (r1.nil_iff.mp e)) (fun e => ⟨.ref a, H, I, rfl, q1 hx (r2.nil_iff.mp e)⟩) (fun _ => new_tup (t := s.toks) I (r1.append r2) (by rw [List.length_append]; exact hz) q2) (by rw [← r1.length, ← r2.length]; exact hz)
/-- t[lo:hi] -/
theorem sl_cutZ : SlR X (fun x lo hi H Q => ∃ a xs, x = .ref a ∧ TupP X.K H a xs ∧ (HT.sIx xs.length 0 lo = 0 ∧ HT.sIx xs.length xs.length hi = xs.length → Q (.ref a) H) ∧ NewT H (cutV xs lo hi) Q) := by
  rintro pins s σ H x v vl vu lo hi sl Q I rx hs pl pu ⟨a, xs, rfl, hx, q1, q2⟩
  cases rx
  obtain ⟨its, r, ht, hz⟩ := I.tuple hx.sq
  have n : its.toArray.size = xs.length := by rw [List.size_toArray, r.length]
  refine ⟨_, _, slot_tuple_getitem.lookup, ht.typeIs, ?_⟩
  by_cases whole : HT.sIx xs.length 0 lo = 0 ∧ HT.sIx xs.length xs.length hi = xs.length
  · exact getItem_tuple_whole ht hs pl pu (n ▸ whole) ⟨.ref a, H, I, rfl, q1 whole⟩
  · refine HT.getItem_tuple_cut ht hs pl pu (n ▸ whole) ?_ (n ▸ hz)
    rw [n]
    exact new_tup (t := s.toks) I ((r.drop _).take _) (Nat.le_trans (cutV_length xs lo hi) hz) q2
/-- divmod(i, j) -/
theorem cr_divmodZ : CallR X (.builtin "divmod") (fun vs H Q => ∃ i j, vs = [.int i, .int j] ∧ CDiv i j ∧ NewT H [.int (i / j), .int (i % j)] Q) := by
  rintro pins s σ H vs us Q I r ⟨i, j, rfl, ⟨h1, h2⟩, q⟩
  obtain ⟨u, w, rfl, ⟨t, rfl⟩, ⟨t', rfl⟩⟩ := vals2 r
  apply divmod_int (by omega) _ (.inl (PyProof.noPylong_small (by omega)))
  have j0 : 0 ≤ j := by omega
  rw [Int.fdiv_eq_ediv_of_nonneg i j0, Int.fmod_eq_emod_of_nonneg i j0]
  exact new_tup (xs := [.int (i / j), .int (i % j)]) (us := [.int (i / j) s.toks, .int (i % j) (s.toks + 1)]) I (.cons ⟨_, rfl⟩ (.cons ⟨_, rfl⟩ .nil)) (show 2 ≤ sizeLine by decide) q
/-- x.partition(sep) -/
theorem mt_partZ : MtR X "str.partition" (fun x vs H Q => ∃ a b, x = .str a ∧ vs = [.str b] ∧ (b.length == 0) = false ∧ a.length ≤ sizeLine ∧ NewT H [.str (Txt.partition a b).1, .str (Txt.partition a b).2.1, .str (Txt.partition a b).2.2] Q) := by
  intro pins s σ H x vs v us Q I rx rs h
  obtain ⟨a, b, rfl, rfl, hb, hz, q⟩ := h
  obtain ⟨t, rfl⟩ := rx
  obtain ⟨_, rfl, ⟨u, rfl⟩⟩ := vals1 rs
  refine call_meets F.slot_str_partition (typeIs_str _ _ _) F.entry_str_partition (F.args_str_partition_2 (.str a t) (.str b u)) (meets_str_partition a b t u hb hz) ?_
  unfold Txt.partition at q
  revert q
  cases Builtin.Str.occurrences a b 0 a.length 1 with
  | nil => exact fun q => new_tup (xs := [.str a, .str "", .str ""]) I (.cons ⟨_, rfl⟩ (.cons ⟨_, rfl⟩ (.cons ⟨_, rfl⟩ .nil))) (show 3 ≤ sizeLine by decide) q
  | cons i is => exact fun q => new_tup (xs := [.str (Builtin.Str.strSub a 0 i), .str b, .str (Builtin.Str.strSub a (i + b.length) a.length)]) I (.cons ⟨_, rfl⟩ (.cons ⟨_, rfl⟩ (.cons ⟨_, rfl⟩ .nil))) (show 3 ≤ sizeLine by decide) q
/-! ### dict(t), t a tuple of pairs -/
theorem tup_plain {pins : List (Addr × Obj)} {σ : L2.St} {H : Hp} {s : Shared} {a : Addr} {xs : List V} (I : Inv X pins σ H s) (h : TupP X.K H a xs) : ∃ its : List Value, Vals xs its ∧ PlainSeq "tuple" s.heap a its.toArray ∧ xs.length ≤ sizeLine := by
  rcases h with ⟨o, h, hd⟩ | ⟨o, its, n, h1, h2, h3, h4, h5, h6⟩
  · obtain ⟨e, z, us, r, o2, e2, c, n, d⟩ := I.hok a _ h
    rw [e] at e2
    cases e2
    exact ⟨us, r, ⟨o, n, e, c, hd, d⟩, z⟩
  · refine ⟨its.toList, h6, ⟨o, n, I.kIn a o h1, h2, h3, by simpa using h4⟩, ?_⟩
    have := h6.length
    have e : its.toList.length = its.size := Array.length_toList
    omega
end
end Ip
end PtIpTup
section PtIpCore
set_option Elab.async false
set_option linter.all false
/-! The small machine: values without addresses, a store of lists, a core language, what it does. -/
namespace Ip
open PySem

inductive DV where
  | non | bl (b : Bool) | int (i : Int) | str (x : Str) | tup (xs : List DV) | ref (n : Nat) | exc (c : Nat)
  deriving Inhabited

inductive Cell where
  | lst (xs : List DV) | frz (xs : List DV) | dct (kvs : List (L2.Key × DV))
  deriving Inhabited
abbrev Store := List Cell
abbrev Loc := List (Option DV)

inductive Res (α : Type) where
  | ok (a : α) (s : Store) | exc (c : Nat) (s : Store) | stuck
@[inline] def Res.bind {α β : Type} (m : Res α) (f : α → Store → Res β) : Res β := match m with
  | .ok a s => f a s
  | .exc c s => .exc c s
  | .stuck => .stuck
/-- without exceptions -/
def Res.quiet {α : Type} : Res α → Res α
  | .ok a s => .ok a s
  | _ => .stuck
def optR {α β : Type} (o : Option α) (f : α → Res β) : Res β := match o with
  | some a => f a
  | none => .stuck
inductive Out where
  | nx (r : Loc) (s : Store) | rt (v : DV) (s : Store) | bk (r : Loc) (s : Store) | ct (r : Loc) (s : Store) | exc (c : Nat) (r : Loc) (s : Store) | stuck

inductive BOp where
  | add | sub | mul | fdiv | mod | pow | shl | shr
  deriving DecidableEq
inductive COp where
  | eq | ne | lt | le | gt | ge | is | isNot | «in» | notIn
  deriving DecidableEq
inductive Cl where
  | ty (n : String) | own (c : Nat)
  deriving DecidableEq
inductive Bi where
  | len | abs | int | divmod | list | tuple | str | max2 | min2 | gcd | lenset | any | all | dict | sorted | max1 | min1 | fmt | cat | sum
  deriving DecidableEq
/-- methods of texts -/
inductive SM where
  | join | split | partition | startswith | isascii | isdigit
  deriving DecidableEq
inductive Mt where
  | append
  deriving DecidableEq
/-- a constant -/
inductive Kc where
  | non | bl (b : Bool) | int (i : Int) | str (x : Str)
  deriving DecidableEq
def Kc.dv : Kc → DV
  | .non => .non | .bl b => .bl b | .int i => .int i | .str x => .str x

mutual
inductive CE where
  | slot (i : Nat) | k (c : Kc) | glob (g : Nat) | isx (i : Nat) (c : Cl)
  | bin (op : BOp) (a b : CE) | neg (a : CE) | not (a : CE) | and (a b : CE) | or (a b : CE)
  | cmp (op : COp) (a b : CE) | chain (op op2 : COp) (a b c : CE) | ife (t a b : CE)
  | ix (a b : CE) | slc (a : CE) (lo hi : CO) | rev (a : CE)
  | tup (es : CEs) | lst (es : CEs)
  | call (f : Nat) (es : CEs) | bi (b : Bi) (es : CEs) | isi (a : CE) (cs : List Cl) | meth (m : Mt) (o : CE) (es : CEs)
  | lc (t : CT) (it : CI) (ifs : CEs) (e : CE) (own : List Nat)
  | smeth (m : SM) (o : CE) (es : CEs) | get2 (d k x : CE)
inductive CEs where
  | nil | cons (e : CE) (es : CEs)
inductive CO where
  | no | some (e : CE)
inductive CI where
  | seq (e : CE) | range1 (a : CE) | range2 (a b : CE) | range3 (a b c : CE) | zip (a b : CE) | enum (a : CE) | rev (a : CE)
inductive CT where
  | name (i : Nat) | tup (ts : CTs) | sub (a b : CE)
inductive CTs where
  | nil | cons (t : CT) (ts : CTs)
end
mutual
inductive CS where
  | asg (t : CT) (e : CE) | par (i j : Nat) (a b : CE) | aug (i : Nat) (op : BOp) (e : CE)
  | ife (c : CE) (a b : CSs) | for_ (t : CT) (it : CI) (b : CSs) | while_ (c : CE) (b : CSs)
  | ret (e : CE) | retN | drop (e : CE) | pass | brk | cont
  | raise (c : Nat) | try_ (b : CSs) (c : Nat) (i : Option Nat) (h : CSs)
  | pick (i : Nat) (e : CE) (kvs : List (Str × Nat)) (es : CEs)
inductive CSs where
  | nil | cons (s : CS) (ss : CSs)
end

/-! ### operations by values -/
/-! the data of a value without references -/
mutual
def pd : DV → PyData
  | .non => .none | .bl b => .bool b | .int i => .int i | .str x => .str x
  | .tup xs => .tuple (pds xs)
  | .ref _ => .none | .exc _ => .none
def pds : List DV → List PyData
  | [] => []
  | x :: xs => pd x :: pds xs
end
mutual
def pure? : DV → Bool
  | .non => true | .bl _ => true | .int _ => true | .str _ => true
  | .tup xs => pures? xs
  | .ref _ => false | .exc _ => false
def pures? : List DV → Bool
  | [] => true
  | x :: xs => pure? x && pures? xs
end
def cmpable (a : DV) : Bool := pure? a && SeqAt.shaped (pd a)
def deq (a b : DV) : Bool := PyData.eqv (pd a) (pd b)

def mulOk (i j : Int) : Bool := decide (i.natAbs < 2 ^ 64) || decide (j.natAbs < 2 ^ 64) || decide (i.natAbs.log2 + j.natAbs.log2 < 1000000)
def binI (op : BOp) (i j : Int) (s : Store) : Res DV := match op with
  | .add => .ok (.int (i + j)) s
  | .sub => .ok (.int (i - j)) s
  | .mul => if mulOk i j then .ok (.int (i * j)) s else .stuck
  | .fdiv => if 0 < j ∧ j.natAbs.log2 < 9000 then .ok (.int (i / j)) s else if j < 0 ∧ j.natAbs.log2 < 9000 then .ok (.int (i.fdiv j)) s else .stuck
  | .mod => if 0 < j then .ok (.int (i % j)) s else if j < 0 then .ok (.int (i.fmod j)) s else .stuck
  | .pow => if 0 ≤ j ∧ j ≤ 1000000 ∧ i.natAbs < 2 ^ 64 then .ok (.int (i ^ j.toNat)) s else .stuck
  | .shl => if 0 ≤ j ∧ j ≤ 1000000 ∧ i.natAbs < 2 ^ 1000 then .ok (.int (i * 2 ^ j.toNat)) s else .stuck
  | .shr => if 0 ≤ j then .ok (.int (i / 2 ^ j.toNat)) s else .stuck
def binV (op : BOp) (x y : DV) (s : Store) : Res DV := match x, y with
  | .int i, .int j => binI op i j s
  | .str a, .str b => match op with
    | .add => if a.length + b.length ≤ sizeLine then .ok (.str (a ++ b)) s else .stuck
    | _ => .stuck
  | .tup a, .tup b => match op with
    | .add => if a.length + b.length ≤ sizeLine then .ok (.tup (a ++ b)) s else .stuck
    | _ => .stuck
  | .str a, .int n => match op with
    | .mul => if 1 ≤ n ∧ n ≤ 1000 ∧ a.length ≤ 1000 then .ok (.str (PySem.Txt.mul a n)) s else .stuck
    | _ => .stuck
  | .ref a, .ref b => match op with
    | .add => match s[a]?, s[b]? with
      | some (.lst xs), some (.lst ys) => if xs.length + ys.length ≤ sizeLine then .ok (.ref s.length) (s ++ [.lst (xs ++ ys)]) else .stuck
      | _, _ => .stuck
    | _ => .stuck
  | _, _ => .stuck
/-- x op= y -/
def augV (op : BOp) (x y : DV) (s : Store) : Res DV := match x, y, op with
  | .int i, .int j, .add => .ok (.int (i + j)) s
  | .int i, .int j, .sub => .ok (.int (i - j)) s
  | .str a, .str b, .add => if a.length + b.length ≤ sizeLine then .ok (.str (a ++ b)) s else .stuck
  | _, _, _ => .stuck
def ints? : List DV → Option (List Int)
  | [] => some []
  | .int i :: xs => match ints? xs with
    | some is => some (i :: is)
    | none => none
  | _ :: _ => none
def strs? : List DV → Option (List Str)
  | [] => some []
  | .str i :: xs => match strs? xs with
    | some is => some (i :: is)
    | none => none
  | _ :: _ => none
def cmpV (op : COp) (x y : DV) (s : Store) : Res Bool := match op with
  | .eq => if cmpable x && cmpable y then .ok (deq x y) s else .stuck
  | .ne => if cmpable x && cmpable y then .ok (!deq x y) s else .stuck
  | .lt => match x, y with
    | .int i, .int j => .ok (decide (i < j)) s
    | .str a, .str b => .ok (decide (a.cps.toList < b.cps.toList)) s
    | .tup a, .tup b => match ints? a, ints? b with
      | some i, some j => .ok (HT.lexLt i j) s
      | _, _ => .stuck
    | _, _ => .stuck
  | .le => match x, y with
    | .int i, .int j => .ok (decide (i ≤ j)) s
    | _, _ => .stuck
  | .gt => match x, y with
    | .int i, .int j => .ok (decide (j < i)) s
    | _, _ => .stuck
  | .ge => match x, y with
    | .int i, .int j => .ok (decide (j ≤ i)) s
    | _, _ => .stuck
  | .is => match x, y with
    | .non, .non => .ok true s
    | .exc _, _ => .stuck
    | _, .non => .ok false s
    | _, _ => .stuck
  | .isNot => match x, y with
    | .non, .non => .ok false s
    | .exc _, _ => .stuck
    | _, .non => .ok true s
    | _, _ => .stuck
  | .in => match x, y with
    | .str a, .str b => if a.length = 1 then .ok (decide (a.cps.getD 0 0 ∈ b.cps.toList)) s else .stuck
    | .str a, .tup ys => optR (strs? ys) fun zs => .ok (zs.any fun z => decide (z = a)) s
    | _, _ => .stuck
  | .notIn => match x, y with
    | .str a, .str b => if a.length = 1 then .ok (!decide (a.cps.getD 0 0 ∈ b.cps.toList)) s else .stuck
    | _, _ => .stuck
/-- what stands in a list -/
def cellL (s : Store) (r : Nat) : Option (List DV) := match s[r]? with
  | some (.lst xs) => some xs
  | some (.frz xs) => some xs
  | some (.dct _) => none
  | none => none
def truth (x : DV) (s : Store) : Res Bool := match x with
  | .non => .ok false s
  | .bl b => .ok b s
  | .int i => .ok (i != 0) s
  | .str y => if y.length ≤ sizeLine then .ok ((y.length : Int) != 0) s else .stuck
  | .tup xs => .ok (!xs.isEmpty) s
  | .ref r => match cellL s r with
    | some xs => .ok (!xs.isEmpty) s
    | none => .stuck
  | .exc _ => .stuck
def itemV (x y : DV) (s : Store) : Res DV := match x, y with
  | .tup xs, .int i => optR (L2.atI xs i) fun v => .ok v s
  | .ref r, .int i => optR (cellL s r) fun xs => optR (L2.atI xs i) fun v => .ok v s
  | .str z, .int i => if z.length ≤ sizeLine then match L2.atI z.cps.toList i with
      | some c => .ok (.str ⟨#[c]⟩) s
      | none => .stuck
    else .stuck
  | _, _ => .stuck
def cut {α : Type} (xs : List α) (lo hi : Option Int) : List α := (xs.drop (HT.sIx xs.length 0 lo)).take (HT.sIx xs.length xs.length hi - HT.sIx xs.length 0 lo)
def sliceV (x : DV) (lo hi : Option Int) (s : Store) : Res DV := match x with
  | .tup xs => .ok (.tup (cut xs lo hi)) s
  | .ref r => match cellL s r with
    | some xs => .ok (.ref s.length) (s ++ [.lst (cut xs lo hi)])
    | none => .stuck
  | .str z => if z.length ≤ sizeLine then .ok (.str ⟨(cut z.cps.toList lo hi).toArray⟩) s else .stuck
  | _ => .stuck
def clIs (x : DV) (s : Store) : Cl → Option Bool
  | .ty n => match x with
    | .non => some (n == "NoneType")
    | .bl _ => some (n == "bool" || n == "int")
    | .int _ => some (n == "int")
    | .str _ => some (n == "str")
    | .tup _ => some (n == "tuple")
    | .ref r => match cellL s r with
      | some _ => some (n == "list")
      | none => none
    | .exc _ => none
  | .own _ => none
def bools? : List DV → Option (List Bool)
  | [] => some []
  | .bl i :: xs => match bools? xs with
    | some is => some (i :: is)
    | none => none
  | _ :: _ => none
def keyD : L2.Key → DV
  | .inl i => .int i
  | .inr x => .str x
def key? : DV → Option L2.Key
  | .int i => some (.inl i)
  | .str x => some (.inr x)
  | _ => none
/-- pairs (key, value) -/
def pairs? : List DV → Option (List (L2.Key × DV))
  | [] => some []
  | .tup [k, v] :: xs => match key? k, pairs? xs with
    | some k, some kvs => some ((k, v) :: kvs)
    | _, _ => none
  | _ :: _ => none
def putD (kvs : List (L2.Key × DV)) (k : L2.Key) (v : DV) : List (L2.Key × DV) :=
  if kvs.any (fun kv => decide (kv.1 = k)) then kvs.map fun kv => if kv.1 = k then (kv.1, v) else kv else kvs ++ [(k, v)]
def mergeD (kvs more : List (L2.Key × DV)) : List (L2.Key × DV) := more.foldl (fun acc kv => putD acc kv.1 kv.2) kvs
def getD (kvs : List (L2.Key × DV)) (k : L2.Key) : Option DV := (kvs.find? fun kv => decide (kv.1 = k)).map (·.2)
/-- an int among those that are in order -/
def ins (x : Int) : List Int → List Int
  | [] => [x]
  | y :: ys => if x ≤ y then x :: y :: ys else y :: ins x ys
def isort : List Int → List Int
  | [] => []
  | x :: xs => ins x (isort xs)
def maxL : List Int → Option Int
  | [] => none
  | x :: xs => some (xs.foldl max x)
def minL : List Int → Option Int
  | [] => none
  | x :: xs => some (xs.foldl min x)
def biV (b : Bi) (xs : List DV) (s : Store) : Res DV := match b, xs with
  | .len, [.str z] => if z.length ≤ sizeLine then .ok (.int z.length) s else .stuck
  | .len, [.tup ys] => .ok (.int ys.length) s
  | .len, [.ref r] => match cellL s r with
    | some ys => .ok (.int ys.length) s
    | none => .stuck
  | .abs, [.int i] => .ok (.int (if i < 0 then -i else i)) s
  | .int, [.int i] => .ok (.int i) s
  | .int, [.bl b] => .ok (.int (if b then 1 else 0)) s
  | .divmod, [.int i, .int j] => if 0 < j ∧ j < 1073741824 then .ok (.tup [.int (i / j), .int (i % j)]) s else .stuck
  | .list, [.ref r] => match cellL s r with
    | some ys => .ok (.ref s.length) (s ++ [.lst ys])
    | none => .stuck
  | .list, [.tup ys] => .ok (.ref s.length) (s ++ [.lst ys])
  | .tuple, [.ref r] => match cellL s r with
    | some ys => .ok (.tup ys) s
    | none => .stuck
  | .tuple, [.tup ys] => .ok (.tup ys) s
  | .str, [.int i] => if i.natAbs.log2 < 1920 then .ok (.str (toString i)) s else .stuck
  | .gcd, [.int i, .int j] => .ok (.int ((Nat.gcd i.natAbs j.natAbs : Nat) : Int)) s
  | .max2, [.int i, .int j] => .ok (.int (if j > i then j else i)) s
  | .min2, [.int i, .int j] => .ok (.int (if j < i then j else i)) s
  | .lenset, [.str z] => if z.cps.size + 1 < scanBound then .ok (.int (IpS.metC (IpS.sgn z) z.cps.size).length) s else .stuck
  | .any, [.ref r] => optR (cellL s r) fun xs => optR (bools? xs) fun bs => .ok (.bl (bs.any id)) s
  | .all, [.ref r] => optR (cellL s r) fun xs => optR (bools? xs) fun bs => .ok (.bl (bs.all id)) s
  | .dict, [.tup xs] => optR (pairs? xs) fun kvs => .ok (.ref s.length) (s ++ [.dct (mergeD [] kvs)])
  | .sorted, [.ref r] => optR (cellL s r) fun xs => optR (ints? xs) fun is => if is.length < 64 then .ok (.ref s.length) (s ++ [.lst ((isort is).map DV.int)]) else .stuck
  | .sum, [.ref r] => optR (cellL s r) fun xs => optR (ints? xs) fun is => .ok (.int is.sum) s
  | .max1, [.ref r] => optR (cellL s r) fun xs => optR (ints? xs) fun is => optR (maxL is) fun m => .ok (.int m) s
  | .min1, [.ref r] => optR (cellL s r) fun xs => optR (ints? xs) fun is => optR (minL is) fun m => .ok (.int m) s
  | .max1, [.tup xs] => optR (ints? xs) fun is => optR (maxL is) fun m => .ok (.int m) s
  | .min1, [.tup xs] => optR (ints? xs) fun is => optR (minL is) fun m => .ok (.int m) s
  | .fmt, [.str x] => if x.length ≤ 1000 then .ok (.str x) s else .stuck
  | .fmt, [.int i] => if i.natAbs.log2 < 1920 ∧ (Str.ofString (toString i)).length ≤ 1000 then .ok (.str (toString i)) s else .stuck
  | .cat, xs => if xs.length ≤ 16 then optR (strs? xs) fun ts => .ok (.str (ts.foldl (· ++ ·) Str.empty)) s else .stuck
  | .int, [.str z] => optR (PySem.intText? z) fun n => if z.length ≤ 640 then .ok (.int n) s else .stuck
  | _, _ => .stuck
def smV (m : SM) (z : Str) (xs : List DV) (s : Store) : Res DV := match m, xs with
  | .join, [.ref r] => optR (cellL s r) fun ys => optR (strs? ys) fun ts => if (ts.map (·.length)).sum + ts.length * z.length ≤ 16777216 then .ok (.str (PySem.Txt.join z ts)) s else .stuck
  | .split, [.str y] => if (y.length == 0) = false ∧ z.length + 2 ≤ sizeLine ∧ (PySem.Txt.split z y).length ≤ sizeLine then .ok (.ref s.length) (s ++ [.lst ((PySem.Txt.split z y).map DV.str)]) else .stuck
  | .partition, [.str y] => if (y.length == 0) = false ∧ z.length ≤ sizeLine then .ok (.tup [.str (PySem.Txt.partition z y).1, .str (PySem.Txt.partition z y).2.1, .str (PySem.Txt.partition z y).2.2]) s else .stuck
  | .startswith, [.str y] => .ok (.bl (PySem.Txt.startswith z y)) s
  | .isascii, [] => .ok (.bl (PySem.Txt.isascii z)) s
  | .isdigit, [] => .ok (.bl (PySem.Txt.isdigit z)) s
  | _, _ => .stuck
def mtV (m : Mt) (x : DV) (xs : List DV) (s : Store) : Res DV := match m, x, xs with
  | .append, .ref r, [y] => match s[r]? with
    | some (.lst ys) => if ys.length < sizeLine then .ok .non (s.set r (.lst (ys ++ [y]))) else .stuck
    | _ => .stuck
  | _, _, _ => .stuck
def setV (x y v : DV) (s : Store) : Option Store := match x, y with
  | .ref r, .int i => match s[r]? with
    | some (.lst ys) => match L2.ixN ys.length i with
      | some j => some (s.set r (.lst (ys.set j v)))
      | none => none
    | _ => none
  | _, _ => none

/-! ### what is walked: a source, the items -/
inductive Src where
  | free | cell (r : Nat) (xs : List DV)
  deriving Inhabited
/-- the source still stands as it stood -/
def Src.ok (f : Src) (s : Store) : Prop := match f with
  | .free => True
  | .cell r xs => cellL s r = some xs

/-! ### expressions -/
section
variable (call : Nat → List DV → Store → Res DV) (G : Nat → Option DV) (sub : Nat → Nat → Bool)
open Classical in
/-- the turns of a comprehension: what is made so far stands at p -/
noncomputable def lcL (p : Nat) (f : Src) (body : DV → Store → Res (Option DV)) : List DV → Store → Res DV
  | [], s => if f.ok s then .ok (.ref p) s else .stuck
  | x :: xs, s => if f.ok s then (body x s).quiet.bind fun o s1 => match o with
      | none => lcL p f body xs s1
      | some v => match s1[p]? with
        | some (.lst acc) => if acc.length < sizeLine then lcL p f body xs (s1.set p (.lst (acc ++ [v]))) else .stuck
        | _ => .stuck
    else .stuck
def wipe (r : Loc) : List Nat → Loc
  | [] => r
  | v :: vs => (wipe r vs).set v none
mutual
noncomputable def evE : CE → Loc → Store → Res DV
  | .slot i, r, s => match r[i]? with
    | some (some (.exc _)) => .stuck
    | some (some v) => .ok v s
    | _ => .stuck
  | .isx i c, r, s => match r[i]? with
    | some (some (.exc d)) => match c with
      | .own c => .ok (.bl (sub d c)) s
      | .ty n => if n = "ValueError" then .ok (.bl true) s else .stuck
    | _ => .stuck
  | .k c, _, s => .ok c.dv s
  | .glob g, _, s => match G g with
    | some v => .ok v s
    | none => .stuck
  | .bin op a b, r, s => (evE a r s).bind fun x s => (evE b r s).bind fun y s => binV op x y s
  | .neg a, r, s => (evE a r s).bind fun x s => match x with
    | .int i => .ok (.int (-i)) s
    | _ => .stuck
  | .not a, r, s => (evE a r s).bind fun x s => (truth x s).bind fun b s => .ok (.bl (!b)) s
  | .and a b, r, s => (evE a r s).bind fun x s => (truth x s).bind fun c s => cond c (evE b r s) (.ok x s)
  | .or a b, r, s => (evE a r s).bind fun x s => (truth x s).bind fun c s => cond c (.ok x s) (evE b r s)
  | .cmp op a b, r, s => (evE a r s).bind fun x s => (evE b r s).bind fun y s => (cmpV op x y s).bind fun c s => .ok (.bl c) s
  | .chain op op2 a b c, r, s => (evE a r s).bind fun x s => (evE b r s).bind fun y s => (cmpV op x y s).bind fun k s =>
      cond k ((evE c r s).bind fun z s => (cmpV op2 y z s).bind fun k s => .ok (.bl k) s) (.ok (.bl false) s)
  | .ife t a b, r, s => (evE t r s).bind fun x s => (truth x s).bind fun c s => cond c (evE a r s) (evE b r s)
  | .ix a b, r, s => (evE a r s).bind fun x s => (evE b r s).bind fun y s => itemV x y s
  | .slc a lo hi, r, s => (evE a r s).bind fun x s => (evO lo r s).bind fun l s => (evO hi r s).bind fun h s => sliceV x l h s
  | .rev a, r, s => (evE a r s).bind fun x s => match x with
    | .ref l => match cellL s l with
      | some xs => .ok (.ref s.length) (s ++ [.lst xs.reverse])
      | none => .stuck
    | _ => .stuck
  | .tup es, r, s => (evEs es r s).bind fun xs s => if xs.length ≤ sizeLine then .ok (.tup xs) s else .stuck
  | .lst es, r, s => (evEs es r s).bind fun xs s => if xs.length ≤ sizeLine then .ok (.ref s.length) (s ++ [.lst xs]) else .stuck
  | .call f es, r, s => (evEs es r s).bind fun xs s => call f xs s
  | .bi b es, r, s => (evEs es r s).bind fun xs s => biV b xs s
  | .isi a cs, r, s => (evE a r s).bind fun x s => match cs with
    | [c] => match clIs x s c with
      | some b => .ok (.bl b) s
      | none => .stuck
    | _ => .stuck
  | .meth m o es, r, s => (evE o r s).bind fun x s => match x with
    | .ref l => match cellL s l with
      | some _ => (evEs es r s).bind fun xs s => mtV m (.ref l) xs s
      | none => .stuck
    | _ => .stuck
  | .lc t it ifs e own, r, s => (evI it r s).bind fun q s => lcL s.length q.1
      (fun x s => (evT t x (wipe r own) s).bind fun r s => (evAll ifs r s).bind fun b s => cond b ((evE e r s).bind fun v s => .ok (some v) s) (.ok none s)) q.2 (s ++ [.lst []])
  | .smeth m o es, r, s => (evE o r s).bind fun x s => match x with
    | .str z => (evEs es r s).bind fun xs s => smV m z xs s
    | _ => .stuck
  | .get2 d k x, r, s => (evE d r s).bind fun y s => match y with
    | .ref l => match s[l]? with
      | some (.dct _) => (evE k r s).bind fun z s => (evE x r s).bind fun w s => match s[l]? with
        | some (.dct kvs) => optR (key? z) fun k => .ok ((getD kvs k).getD w) s
        | _ => .stuck
      | _ => .stuck
    | _ => .stuck
noncomputable def evEs : CEs → Loc → Store → Res (List DV)
  | .nil, _, s => .ok [] s
  | .cons e es, r, s => (evE e r s).bind fun x s => (evEs es r s).bind fun xs s => .ok (x :: xs) s
/-- all of some tests -/
noncomputable def evAll : CEs → Loc → Store → Res Bool
  | .nil, _, s => .ok true s
  | .cons e es, r, s => (evE e r s).bind fun x s => (truth x s).bind fun c s => cond c (evAll es r s) (.ok false s)
noncomputable def evO : CO → Loc → Store → Res (Option Int)
  | .no, _, s => .ok none s
  | .some e, r, s => (evE e r s).bind fun x s => match x with
    | .int i => .ok (some i) s
    | _ => .stuck
/-- what is walked -/
noncomputable def evI : CI → Loc → Store → Res (Src × List DV)
  | .seq e, r, s => (evE e r s).bind fun x s => match x with
    | .tup xs => .ok (.free, xs) s
    | .ref l => match cellL s l with
      | some xs => .ok (.cell l xs, xs) s
      | none => .stuck
    | .str z => .ok (.free, z.cps.toList.map fun c => .str ⟨#[c]⟩) s
    | _ => .stuck
  | .range1 a, r, s => (evE a r s).bind fun x s => match x with
    | .int n => if -(2 ^ 62) ≤ n ∧ n < 2 ^ 62 then .ok (.free, (List.range n.toNat).map fun (i : Nat) => .int (0 + (i : Int))) s else .stuck
    | _ => .stuck
  | .range2 a b, r, s => (evE a r s).bind fun x s => (evE b r s).bind fun y s => match x, y with
    | .int m, .int n => if (-(2 ^ 62) ≤ m ∧ m < 2 ^ 62) ∧ -(2 ^ 62) ≤ n ∧ n < 2 ^ 62 then .ok (.free, (List.range (n - m).toNat).map fun (i : Nat) => .int (m + (i : Int))) s else .stuck
    | _, _ => .stuck
  | .range3 a b c, r, s => (evE a r s).bind fun x s => (evE b r s).bind fun y s => (evE c r s).bind fun z s => match x, y, z with
    | .int m, .int n, .int d => if ((-(2 ^ 62) ≤ m ∧ m < 2 ^ 62) ∧ -(2 ^ 62) ≤ n ∧ n < 2 ^ 62) ∧ d = -1 then .ok (.free, (List.range (m - n).toNat).map fun (i : Nat) => .int (m + (i : Int) * -1)) s else .stuck
    | _, _, _ => .stuck
  | .zip a b, r, s => (evE a r s).bind fun x s => (evE b r s).bind fun y s => match x, y with
    | .tup xs, .tup ys => .ok (.free, (xs.zip ys).map fun p => .tup [p.1, p.2]) s
    | _, _ => .stuck
  | .enum a, r, s => .stuck
  | .rev a, r, s => (evE a r s).bind fun x s => match x with
    | .tup xs => .ok (.free, xs.reverse) s
    | _ => .stuck
/-- a value into a target -/
noncomputable def evT : CT → DV → Loc → Store → Res Loc
  | .name i, v, r, s => if i < r.length then .ok (r.set i (some v)) s else .stuck
  | .tup ts, v, r, s => match v with
    | .tup xs => evTs ts xs r s
    | .ref l => match cellL s l with
      | some xs => evTs ts xs r s
      | none => .stuck
    | _ => .stuck
  | .sub a b, v, r, s => (evE a r s).quiet.bind fun x s => (evE b r s).quiet.bind fun y s => optR (setV x y v s) fun s => .ok r s
noncomputable def evTs : CTs → List DV → Loc → Store → Res Loc
  | .nil, xs, r, s => match xs with
    | [] => .ok r s
    | _ :: _ => .stuck
  | .cons t ts, xs, r, s => match xs with
    | x :: xs => (evT t x r s).bind fun r s => evTs ts xs r s
    | [] => .stuck
end

/-! ### statements -/
/-- a value, then what follows; an exception leaves with the slots as they are -/
@[inline] def Res.out {α : Type} (m : Res α) (r : Loc) (f : α → Store → Out) : Out := match m with
  | .ok a s => f a s
  | .exc c s => .exc c r s
  | .stuck => .stuck
/-- what follows a statement -/
@[inline] def Out.then (o : Out) (f : Loc → Store → Out) : Out := match o with
  | .nx r s => f r s
  | .rt v s => .rt v s
  | .bk r s => .bk r s
  | .ct r s => .ct r s
  | .exc c r s => .exc c r s
  | .stuck => .stuck
/-- no slot holds an error -/
def noX (r : Loc) : Bool := r.all fun o => match o with
  | some (.exc _) => false
  | _ => true
/-- an error is caught -/
@[inline] def Out.catch (o : Out) (f : Nat → Loc → Store → Out) : Out := match o with
  | .exc d r s => f d r s
  | .nx r s => .nx r s
  | .rt v s => .rt v s
  | .bk r s => .bk r s
  | .ct r s => .ct r s
  | .stuck => .stuck
/-- behind a clause its name is gone -/
def Out.unset (o : Out) (i : Nat) : Out := match o with
  | .nx r s => if noX (r.set i none) then .nx (r.set i none) s else .stuck
  | .bk r s => if noX (r.set i none) then .bk (r.set i none) s else .stuck
  | .ct r s => if noX (r.set i none) then .ct (r.set i none) s else .stuck
  | .rt v s => .rt v s
  | .exc _ _ _ => .stuck
  | .stuck => .stuck
/-- a clause lets no error out -/
def Out.hush (o : Out) : Out := match o with
  | .nx r s => .nx r s
  | .bk r s => .bk r s
  | .ct r s => .ct r s
  | .rt v s => .rt v s
  | .exc _ _ _ => .stuck
  | .stuck => .stuck
open Classical in
noncomputable def forL (f : Src) (body : DV → Loc → Store → Out) : List DV → Loc → Store → Out
  | [], r, s => if f.ok s then .nx r s else .stuck
  | x :: xs, r, s => if f.ok s then match body x r s with
      | .nx r s => forL f body xs r s
      | .ct r s => forL f body xs r s
      | .bk r s => .nx r s
      | .rt v s => .rt v s
      | .exc c r s => .exc c r s
      | .stuck => .stuck
    else .stuck
noncomputable def whileL (test : Loc → Store → Res Bool) (body : Loc → Store → Out) : Nat → Loc → Store → Out
  | 0, _, _ => .stuck
  | n + 1, r, s => (test r s).out r fun c s => cond c (match body r s with
      | .nx r s => whileL test body n r s
      | .ct r s => whileL test body n r s
      | .bk r s => .nx r s
      | .rt v s => .rt v s
      | .exc c r s => .exc c r s
      | .stuck => .stuck) (.nx r s)
/-- how many turns a while may take -/
def turns : Nat := 1000000000
mutual
noncomputable def evS : CS → Loc → Store → Out
  | .asg t e, r, s => (evE call G sub e r s).out r fun v s => (evT call G sub t v r s).out r fun r s => .nx r s
  | .par i j a b, r, s => (evE call G sub a r s).out r fun x s => (evE call G sub b r s).out r fun y s => if i < r.length ∧ j < r.length then .nx ((r.set i (some x)).set j (some y)) s else .stuck
  | .aug i op e, r, s => match r[i]? with
    | some (some (.exc _)) => .stuck
    | some (some x) => (evE call G sub e r s).out r fun y s => (augV op x y s).out r fun z s => .nx (r.set i (some z)) s
    | _ => .stuck
  | .ife c a b, r, s => (evE call G sub c r s).out r fun x s => (truth x s).out r fun c s => cond c (evSs a r s) (evSs b r s)
  | .for_ t it b, r, s => (evI call G sub it r s).out r fun q s => forL q.1 (fun x r s => (evT call G sub t x r s).out r fun r s => evSs b r s) q.2 r s
  | .while_ c b, r, s => whileL (fun r s => (evE call G sub c r s).bind fun x s => truth x s) (fun r s => evSs b r s) turns r s
  | .ret e, r, s => (evE call G sub e r s).out r fun v s => .rt v s
  | .retN, _, s => .rt .non s
  | .drop e, r, s => (evE call G sub e r s).out r fun _ s => .nx r s
  | .pass, r, s => .nx r s
  | .brk, r, s => .bk r s
  | .cont, r, s => .ct r s
  | .raise c, r, s => .exc c r s
  | .try_ b c i h, r, s => (evSs b r s).catch fun d r s => cond (sub d c) (match i with
      | none => (evSs h r s).hush
      | some i => (evSs h (r.set i (some (.exc d))) s).unset i) (.exc d r s)
  | .pick i e kvs es, r, s => (evE call G sub e r s).out r fun x s => match x with
    | .str z => match kvs.lookup z with
      | some f => if i < r.length then ((evEs call G sub es (r.set i none) s).bind fun xs s => call f xs s).out (r.set i none) fun v s => .rt v s else .stuck
      | none => .stuck
    | _ => .stuck
noncomputable def evSs : CSs → Loc → Store → Out
  | .nil, r, s => .nx r s
  | .cons st ss, r, s => (evS st r s).then fun r s => evSs ss r s
end
end

/-! ### defs -/
structure Def where
  n : Nat          -- how many names
  ps : Nat         -- how many parameters
  body : CSs
def start (n : Nat) (vs : List DV) : Loc := vs.map some ++ List.replicate (n - vs.length) none
/-- what a def's body gives back -/
def Out.fin : Out → Res DV
  | .nx _ s => .ok .non s
  | .rt v s => .ok v s
  | .exc c _ s => .exc c s
  | .bk _ _ => .stuck
  | .ct _ _ => .stuck
  | .stuck => .stuck
/-- the defs by number, to a depth of calls -/
noncomputable def callAt (D : Nat → Option Def) (G : Nat → Option DV) (sub : Nat → Nat → Bool) : Nat → Nat → List DV → Store → Res DV
  | 0, _, _, _ => .stuck
  | k + 1, f, vs, s => match D f with
    | none => .stuck
    | some d => if vs.length = d.ps then (evSs (callAt D G sub k) G sub d.body (start d.n vs) s).fin else .stuck
end Ip
end PtIpCore
section PtIpSound
set_option Elab.async false
set_option linter.all false
set_option maxRecDepth 100000
/-! What the small machine does, the program does. -/
namespace Ip
open PySem PySem.Spec PyProof.Rows L2

/-! ### values, stores, slots -/
mutual
inductive VR (K : PySem.W.Frag) (μ : List Addr) (H : Hp) : V → DV → Prop
  | non : VR K μ H .non .non
  | bl (b : Bool) : VR K μ H (.bl b) (.bl b)
  | int (i : Int) : VR K μ H (.int i) (.int i)
  | str (x : Str) : VR K μ H (.str x) (.str x)
  | tup {a : Addr} {vs : List V} {ds : List DV} : TupP K H a vs → VRs K μ H vs ds → VR K μ H (.ref a) (.tup ds)
  | ref {n : Nat} {a : Addr} : μ[n]? = some a → VR K μ H (.ref a) (.ref n)
inductive VRs (K : PySem.W.Frag) (μ : List Addr) (H : Hp) : List V → List DV → Prop
  | nil : VRs K μ H [] []
  | cons {v : V} {vs : List V} {d : DV} {ds : List DV} : VR K μ H v d → VRs K μ H vs ds → VRs K μ H (v :: vs) (d :: ds)
end
structure Le (K : PySem.W.Frag) (μ : List Addr) (H : Hp) (μ' : List Addr) (H' : Hp) : Prop where
  pre : ∀ (n : Nat) (a : Addr), μ[n]? = some a → μ'[n]? = some a
  tup : ∀ (a : Addr) (xs : List V), TupP K H a xs → TupP K H' a xs
section
variable {K : PySem.W.Frag} {μ μ' μ2 : List Addr} {H H' H2 : Hp}
theorem Le.refl : Le K μ H μ H := ⟨fun _ _ h => h, fun _ _ h => h⟩
theorem Le.trans (a : Le K μ H μ' H') (b : Le K μ' H' μ2 H2) : Le K μ H μ2 H2 := ⟨fun n x h => b.pre n x (a.pre n x h), fun n x h => b.tup n x (a.tup n x h)⟩
mutual
theorem VR.mono (e : Le K μ H μ' H') : ∀ {v : V} {d : DV}, VR K μ H v d → VR K μ' H' v d
  | _, _, .non => .non
  | _, _, .bl b => .bl b
  | _, _, .int i => .int i
  | _, _, .str x => .str x
  | _, _, .tup h hs => .tup (e.tup _ _ h) (VRs.mono e hs)
  | _, _, .ref h => .ref (e.pre _ _ h)
theorem VRs.mono (e : Le K μ H μ' H') : ∀ {vs : List V} {ds : List DV}, VRs K μ H vs ds → VRs K μ' H' vs ds
  | _, _, .nil => .nil
  | _, _, .cons h hs => .cons (VR.mono e h) (VRs.mono e hs)
end
theorem VRs.length : ∀ {vs : List V} {ds : List DV}, VRs K μ H vs ds → vs.length = ds.length
  | _, _, .nil => rfl
  | _, _, .cons _ t => by rw [List.length_cons, List.length_cons, t.length]
theorem VRs.get : ∀ {vs : List V} {ds : List DV}, VRs K μ H vs ds → ∀ {i : Nat} {d : DV}, ds[i]? = some d → ∃ v, vs[i]? = some v ∧ VR K μ H v d
  | _, _, .nil, _, _, h => by simp at h
  | _, _, .cons r t, 0, d, h => by
    have e := Option.some.inj h
    subst e
    exact ⟨_, rfl, r⟩
  | _, _, .cons r t, i + 1, d, h => t.get (i := i) h
theorem VRs.getV : ∀ {vs : List V} {ds : List DV}, VRs K μ H vs ds → ∀ {i : Nat} {v : V}, vs[i]? = some v → ∃ d, ds[i]? = some d ∧ VR K μ H v d
  | _, _, .nil, _, _, h => by simp at h
  | _, _, .cons r t, 0, d, h => by
    have e := Option.some.inj h
    subst e
    exact ⟨_, rfl, r⟩
  | _, _, .cons r t, i + 1, d, h => t.getV (i := i) h
theorem VRs.append : ∀ {vs ws : List V} {ds es : List DV}, VRs K μ H vs ds → VRs K μ H ws es → VRs K μ H (vs ++ ws) (ds ++ es)
  | _, _, _, _, .nil, h => h
  | _, _, _, _, .cons r t, h => .cons r (t.append h)
theorem VRs.take : ∀ {vs : List V} {ds : List DV} (n : Nat), VRs K μ H vs ds → VRs K μ H (vs.take n) (ds.take n)
  | _, _, 0, _ => by rw [List.take_zero, List.take_zero]; exact .nil
  | _, _, n + 1, .nil => .nil
  | _, _, n + 1, .cons r t => .cons r (t.take n)
theorem VRs.drop : ∀ {vs : List V} {ds : List DV} (n : Nat), VRs K μ H vs ds → VRs K μ H (vs.drop n) (ds.drop n)
  | _, _, 0, h => h
  | _, _, n + 1, .nil => .nil
  | _, _, n + 1, .cons r t => t.drop n
theorem VRs.set : ∀ {vs : List V} {ds : List DV} {v : V} {d : DV} (i : Nat), VR K μ H v d → VRs K μ H vs ds → VRs K μ H (vs.set i v) (ds.set i d)
  | _, _, _, _, _, _, .nil => .nil
  | _, _, _, _, 0, r, .cons _ t => .cons r t
  | _, _, _, _, i + 1, r, .cons q t => .cons q (t.set i r)
theorem VRs.reverse {vs : List V} {ds : List DV} (h : VRs K μ H vs ds) : VRs K μ H vs.reverse ds.reverse := by
  induction vs generalizing ds with
  | nil => cases h; exact .nil
  | cons v vs ih =>
    cases h with
    | cons r t =>
      rw [List.reverse_cons, List.reverse_cons]
      exact (ih t).append (.cons r .nil)
theorem VRs.isEmpty {vs : List V} {ds : List DV} (h : VRs K μ H vs ds) : vs.isEmpty = ds.isEmpty := by cases h <;> rfl

/-- a list that is read only -/
def Fz (K : PySem.W.Frag) (H : Hp) (a : Addr) (xs : List V) : Prop :=
  (∃ o, H a = some (.frz o (.lst xs))) ∨
    ∃ (o : Obj) (its : Array Value) (n : Nat), K.lookup a = some o ∧ o.cls = .type "list" ∧ o.dict = none ∧ o.data = .seq its n ∧ its.size ≤ sizeLine ∧ Vals xs its.toList
theorem Fz.sql {a : Addr} {xs : List V} (h : Fz K H a xs) : SqL K H a xs := by
  rcases h with ⟨o, h⟩ | h
  · exact .inl (.inr ⟨o, h⟩)
  · exact .inr h
def CR (K : PySem.W.Frag) (μ : List Addr) (H : Hp) (a : Addr) : Cell → Prop
  | .lst ds => ∃ vs, H a = some (.lst vs) ∧ VRs K μ H vs ds ∧ ds.length ≤ sizeLine
  | .frz ds => ∃ vs, Fz K H a vs ∧ VRs K μ H vs ds ∧ ds.length ≤ sizeLine
  | .dct kvs => ∃ ws : List (Key × V), H a = some (.dK ws) ∧ ws.map (·.1) = kvs.map (·.1) ∧ VRs K μ H (ws.map (·.2)) (kvs.map (·.2)) ∧ kvs.length ≤ sizeLine
structure Rel (K : PySem.W.Frag) (μ : List Addr) (H : Hp) (s : Store) : Prop where
  len : μ.length = s.length
  nd : ∀ (n m : Nat) (a : Addr) (xs ys : List DV), μ[n]? = some a → μ[m]? = some a → s[n]? = some (.lst xs) → s[m]? = some (.lst ys) → n = m
  at_ : ∀ (n : Nat) (a : Addr) (c : Cell), μ[n]? = some a → s[n]? = some c → CR K μ H a c
theorem Rel.cellZ {s : Store} (R : Rel K μ H s) {n : Nat} {a : Addr} {ds : List DV} (hm : μ[n]? = some a) (hs : cellL s n = some ds) : ∃ vs, SqL K H a vs ∧ VRs K μ H vs ds ∧ ds.length ≤ sizeLine := by
  unfold Ip.cellL at hs
  split at hs
  · rename_i xs h
    obtain ⟨vs, h1, h2, h3⟩ := R.at_ n a _ hm h
    cases hs
    exact ⟨vs, .inl (.inl h1), h2, h3⟩
  · rename_i xs h
    obtain ⟨vs, h1, h2, h3⟩ := R.at_ n a _ hm h
    cases hs
    exact ⟨vs, h1.sql, h2, h3⟩
  · cases hs
  · cases hs
theorem Rel.cellL {s : Store} (R : Rel K μ H s) {n : Nat} {a : Addr} {ds : List DV} (hm : μ[n]? = some a) (hs : cellL s n = some ds) : ∃ vs, SqL K H a vs ∧ VRs K μ H vs ds := by
  obtain ⟨vs, h1, h2, _⟩ := R.cellZ hm hs
  exact ⟨vs, h1, h2⟩
theorem Rel.there {s : Store} (R : Rel K μ H s) {n : Nat} {a : Addr} (hm : μ[n]? = some a) : ∃ c, s[n]? = some c := by
  have h1 := (List.getElem?_eq_some_iff.mp hm).1
  have h2 : n < s.length := by rw [← R.len]; exact h1
  exact ⟨_, List.getElem?_eq_getElem h2⟩
theorem Rel.back {s : Store} (R : Rel K μ H s) {n : Nat} {c : Cell} (hs : s[n]? = some c) : ∃ a, μ[n]? = some a := by
  have h1 := (List.getElem?_eq_some_iff.mp hs).1
  have h2 : n < μ.length := by rw [R.len]; exact h1
  exact ⟨_, List.getElem?_eq_getElem h2⟩
/-- a new object that is no cell -/
theorem le_upd {p : Addr} {o : HO} (hp : H p = none) : Le K μ H μ (upd H p o) := ⟨fun _ _ h => h, fun _ _ h => h.upd hp⟩
theorem fz_upd {p a : Addr} {o : HO} {xs : List V} (hp : H p = none) (h : Fz K H a xs) : Fz K (upd H p o) a xs := by
  rcases h with ⟨u, h⟩ | h
  · exact .inl ⟨u, by rw [upd_ne (ne_of_none h hp)]; exact h⟩
  · exact .inr h
theorem CR.upd {p a : Addr} {o : HO} {c : Cell} (hp : H p = none) (h : CR K μ H a c) (le : Le K μ H μ' (L2.upd H p o)) : CR K μ' (L2.upd H p o) a c := by
  cases c with
  | lst ds =>
    obtain ⟨vs, h1, h2, h3⟩ := h
    exact ⟨vs, by rw [upd_ne (ne_of_none h1 hp)]; exact h1, h2.mono le, h3⟩
  | frz ds =>
    obtain ⟨vs, h1, h2, h3⟩ := h
    exact ⟨vs, fz_upd hp h1, h2.mono le, h3⟩
  | dct kvs =>
    obtain ⟨ws, h1, h2, h3, h4⟩ := h
    exact ⟨ws, by rw [upd_ne (ne_of_none h1 hp)]; exact h1, h2, h3.mono le, h4⟩
theorem Rel.upd {s : Store} {p : Addr} {o : HO} (R : Rel K μ H s) (hp : H p = none) : Rel K μ (L2.upd H p o) s :=
  ⟨R.len, R.nd, fun n a c hm hs => (R.at_ n a c hm hs).upd hp (le_upd hp)⟩
theorem get_app {α : Type} {l : List α} {x : α} {n : Nat} {a : α} (h : (l ++ [x])[n]? = some a) : l[n]? = some a ∨ (n = l.length ∧ a = x) := by
  rw [List.getElem?_append] at h
  split at h
  · exact .inl h
  · rename_i q
    have : n - l.length = 0 := by
      cases e : n - l.length with
      | zero => rfl
      | succ k => rw [e] at h; simp at h
    rw [this] at h
    exact .inr ⟨by omega, (Option.some.inj h).symm⟩
theorem get_app_l {α : Type} {l : List α} {x : α} {n : Nat} {a : α} (h : l[n]? = some a) : (l ++ [x])[n]? = some a := by
  have h1 := (List.getElem?_eq_some_iff.mp h).1
  rw [List.getElem?_append_left h1]
  exact h
theorem get_app_n {α : Type} {l : List α} {x : α} : (l ++ [x])[l.length]? = some x := by
  rw [List.getElem?_append_right (Nat.le_refl _), Nat.sub_self]
  rfl
/-- a new list -/
theorem le_new {p : Addr} {o : HO} (hp : H p = none) : Le K μ H (μ ++ [p]) (upd H p o) :=
  ⟨fun _ _ h => get_app_l h, (le_upd (μ := μ) hp).tup⟩
theorem Rel.new {s : Store} {p : Addr} {vs : List V} {ds : List DV} (R : Rel K μ H s) (hp : H p = none) (hv : VRs K μ H vs ds) (hz : ds.length ≤ sizeLine) : Rel K (μ ++ [p]) (L2.upd H p (.lst vs)) (s ++ [.lst ds]) := by
  have le : Le K μ H (μ ++ [p]) (L2.upd H p (.lst vs)) := le_new hp
  refine ⟨by rw [List.length_append, List.length_append, R.len]; rfl, fun n m a xs ys h1 h2 h3 h4 => ?_, fun n a c hm hs => ?_⟩
  · rcases get_app h1 with h1 | ⟨h1, e1⟩
    · rcases get_app h3 with h3 | ⟨h3, _⟩
      · rcases get_app h2 with h2 | ⟨h2, e2⟩
        · rcases get_app h4 with h4 | ⟨h4, _⟩
          · exact R.nd n m a xs ys h1 h2 h3 h4
          · have := (List.getElem?_eq_some_iff.mp h2).1
            rw [R.len] at this
            omega
        · obtain ⟨_, q, _⟩ := R.at_ n a _ h1 h3
          rw [e2, hp] at q
          cases q
      · have := (List.getElem?_eq_some_iff.mp h1).1
        rw [R.len] at this
        omega
    · rcases get_app h2 with h2 | ⟨h2, e2⟩
      · rcases get_app h4 with h4 | ⟨h4, _⟩
        · obtain ⟨_, q, _⟩ := R.at_ m a _ h2 h4
          rw [e1, hp] at q
          cases q
        · have := (List.getElem?_eq_some_iff.mp h2).1
          rw [R.len] at this
          omega
      · omega
  · rcases get_app hm with hm | ⟨hm, e⟩
    · rcases get_app hs with hs | ⟨hs, _⟩
      · exact (R.at_ n a c hm hs).upd hp le
      · have := (List.getElem?_eq_some_iff.mp hm).1
        rw [R.len] at this
        omega
    · rcases get_app hs with hs | ⟨hs, e2⟩
      · have := (List.getElem?_eq_some_iff.mp hs).1
        rw [← R.len] at this
        omega
      · subst e
        subst e2
        exact ⟨vs, upd_same, hv.mono le, hz⟩
/-- a new dict -/
theorem Rel.newD {s : Store} {p : Addr} {ws : List (Key × V)} {kvs : List (Key × DV)} (R : Rel K μ H s) (hp : H p = none) (hk : ws.map (·.1) = kvs.map (·.1)) (hv : VRs K μ H (ws.map (·.2)) (kvs.map (·.2))) (hz : kvs.length ≤ sizeLine) : Rel K (μ ++ [p]) (L2.upd H p (.dK ws)) (s ++ [.dct kvs]) := by
  have le : Le K μ H (μ ++ [p]) (L2.upd H p (.dK ws)) := le_new hp
  refine ⟨by rw [List.length_append, List.length_append, R.len]; rfl, fun n m a xs ys h1 h2 h3 h4 => ?_, fun n a c hm hs => ?_⟩
  · rcases get_app h3 with h3 | ⟨_, h3⟩
    · rcases get_app h4 with h4 | ⟨_, h4⟩
      · have hn := (List.getElem?_eq_some_iff.mp h3).1
        have hm := (List.getElem?_eq_some_iff.mp h4).1
        rw [← R.len] at hn hm
        rw [List.getElem?_append_left hn] at h1
        rw [List.getElem?_append_left hm] at h2
        exact R.nd n m a xs ys h1 h2 h3 h4
      · cases h4
    · cases h3
  · rcases get_app hm with hm | ⟨hm, e⟩
    · rcases get_app hs with hs | ⟨hs, _⟩
      · exact (R.at_ n a c hm hs).upd hp le
      · have := (List.getElem?_eq_some_iff.mp hm).1
        rw [R.len] at this
        omega
    · rcases get_app hs with hs | ⟨hs, e2⟩
      · have := (List.getElem?_eq_some_iff.mp hs).1
        rw [← R.len] at this
        omega
      · subst e
        subst e2
        exact ⟨ws, upd_same, hk, hv.mono le, hz⟩
/-- a list changes -/
theorem le_set {p : Addr} {vs ws : List V} (hp : H p = some (.lst vs)) : Le K μ H μ (upd H p (.lst ws)) := ⟨fun _ _ h => h, fun _ _ h => h.setL hp⟩
theorem Rel.set {s : Store} {p : Addr} {n : Nat} {vs ws : List V} {ds es : List DV} (R : Rel K μ H s) (hm : μ[n]? = some p) (hs : s[n]? = some (.lst ds)) (hp : H p = some (.lst vs)) (hv : VRs K μ H ws es) (hz : es.length ≤ sizeLine) :
    Rel K μ (L2.upd H p (.lst ws)) (s.set n (.lst es)) := by
  have le : Le K μ H μ (L2.upd H p (.lst ws)) := le_set hp
  have hn := (List.getElem?_eq_some_iff.mp hs).1
  have at' : ∀ (m : Nat) (xs : List DV), (s.set n (.lst es))[m]? = some (.lst xs) → ∃ ys, s[m]? = some (.lst ys) := fun m xs h => by
    by_cases e : n = m
    · subst e; exact ⟨ds, hs⟩
    · rw [List.getElem?_set_ne e] at h; exact ⟨xs, h⟩
  refine ⟨by rw [List.length_set]; exact R.len, fun i j a xs ys h1 h2 h3 h4 => ?_, fun m a c h1 h2 => ?_⟩
  · obtain ⟨xs', h3⟩ := at' i xs h3
    obtain ⟨ys', h4⟩ := at' j ys h4
    exact R.nd i j a xs' ys' h1 h2 h3 h4
  · by_cases e : n = m
    · subst e
      rw [hm] at h1
      cases h1
      rw [List.getElem?_set_self hn] at h2
      cases h2
      exact ⟨ws, upd_same, hv.mono le, hz⟩
    · rw [List.getElem?_set_ne e] at h2
      have q := R.at_ m a c h1 h2
      cases c with
      | lst xs =>
        obtain ⟨us, q1, q2, q3⟩ := q
        have ne : a ≠ p := fun z => by
          subst z
          exact e (R.nd n m a ds xs hm h1 hs h2)
        exact ⟨us, by rw [upd_ne ne]; exact q1, q2.mono le, q3⟩
      | frz xs =>
        obtain ⟨us, q1, q2, q3⟩ := q
        refine ⟨us, ?_, q2.mono le, q3⟩
        rcases q1 with ⟨o, q1⟩ | q1
        · exact .inl ⟨o, by rw [upd_ne (ne_of q1 hp (fun z => by cases z))]; exact q1⟩
        · exact .inr q1
      | dct kvs =>
        obtain ⟨us, q1, q2, q3, q4⟩ := q
        exact ⟨us, by rw [upd_ne (ne_of q1 hp (fun z => by cases z))]; exact q1, q2, q3.mono le, q4⟩

/-! ### slots -/
structure LR (K : PySem.W.Frag) (ex : Option (Addr × Nat)) (μ : List Addr) (H : Hp) (σ : L2.St) (r : Loc) : Prop where
  len : r.length = σ.length
  at_ : ∀ (i : Nat) (d : DV), r[i]? = some (some d) → (∃ v, σ[i]? = some (some v) ∧ VR K μ H v d) ∨ ∃ a c, d = .exc c ∧ ex = some (a, c) ∧ σ[i]? = some (some (.ref a))
theorem LR.mono {ex : Option (Addr × Nat)} {σ : L2.St} {r : Loc} (e : Le K μ H μ' H') (h : LR K ex μ H σ r) : LR K ex μ' H' σ r :=
  ⟨h.len, fun i d q => by
    rcases h.at_ i d q with ⟨v, h1, h2⟩ | h
    · exact .inl ⟨v, h1, h2.mono e⟩
    · exact .inr h⟩
theorem LR.set {ex : Option (Addr × Nat)} {σ : L2.St} {r : Loc} {i : Nat} {v : V} {d : DV} (h : LR K ex μ H σ r) (q : VR K μ H v d) : LR K ex μ H (σ.set i (some v)) (r.set i (some d)) := by
  refine ⟨by rw [List.length_set, List.length_set]; exact h.len, fun j e he => ?_⟩
  by_cases hij : i = j
  · subst hij
    have hlt : i < (r.set i (some d)).length := (List.getElem?_eq_some_iff.mp he).1
    rw [List.length_set] at hlt
    rw [List.getElem?_set_self hlt] at he
    cases he
    exact .inl ⟨v, by rw [List.getElem?_set_self (by rw [← h.len]; exact hlt)], q⟩
  · rw [List.getElem?_set_ne hij] at he
    rw [List.getElem?_set_ne hij]
    exact h.at_ j e he
theorem LR.del {ex : Option (Addr × Nat)} {σ : L2.St} {r : Loc} {i : Nat} (h : LR K ex μ H σ r) : LR K ex μ H (σ.set i none) (r.set i none) := by
  refine ⟨by rw [List.length_set, List.length_set]; exact h.len, fun j e he => ?_⟩
  by_cases hij : i = j
  · subst hij
    have hlt : i < (r.set i none).length := (List.getElem?_eq_some_iff.mp he).1
    rw [List.length_set] at hlt
    rw [List.getElem?_set_self hlt] at he
    cases he
  · rw [List.getElem?_set_ne hij] at he
    rw [List.getElem?_set_ne hij]
    exact h.at_ j e he
/-- in front of a suite no slot holds an exception -/
def NoX (r : Loc) : Prop := ∀ (i : Nat) (c : Nat), r[i]? ≠ some (some (.exc c))
theorem LR.re {ex ex' : Option (Addr × Nat)} {σ : L2.St} {r : Loc} (h : LR K ex μ H σ r) (e : ex = none ∨ ex = ex') : LR K ex' μ H σ r :=
  ⟨h.len, fun i d q => by
    rcases h.at_ i d q with h | ⟨a, c, h1, h2, h3⟩
    · exact .inl h
    · rcases e with e | e
      · rw [e] at h2; cases h2
      · exact .inr ⟨a, c, h1, by rw [← e]; exact h2, h3⟩⟩
theorem LR.wipe {ex : Option (Addr × Nat)} {σ : L2.St} {r : Loc} (h : LR K ex μ H σ r) : ∀ vs : List Nat, LR K ex μ H (L2.wipe σ vs) (Ip.wipe r vs)
  | [] => h
  | v :: vs => (LR.wipe h vs).del

/-! ### what a run of the small machine promises -/
section
variable {α β : Type}
def Go (K : PySem.W.Frag) (μ : List Addr) (H : Hp) (m : Res α) (Wn : Nat → Hp → Prop) (Q : List Addr → Hp → Store → α → Prop) : Prop := match m with
  | .ok d s => ∀ μ' H', Le K μ H μ' H' → Rel K μ' H' s → Q μ' H' s d
  | .exc c s => ∀ μ' H', Le K μ H μ' H' → Rel K μ' H' s → Wn c H'
  | .stuck => False
variable {m : Res α} {Wn : Nat → Hp → Prop}
theorem Go.map {Q Q' : List Addr → Hp → Store → α → Prop} (h : Go K μ H m Wn Q) (f : ∀ μ' H' s d, Le K μ H μ' H' → Rel K μ' H' s → Q μ' H' s d → Q' μ' H' s d) : Go K μ H m Wn Q' := by
  cases m with
  | ok d s => exact fun μ' H' le R => f μ' H' s d le R (h μ' H' le R)
  | exc c s => exact h
  | stuck => exact h
theorem Go.later {Q : List Addr → Hp → Store → α → Prop} (h : Go K μ H m Wn Q) (e : Le K μ H μ' H') : Go K μ' H' m Wn Q := by
  cases m with
  | ok d s => exact fun μ2 H2 le R => h μ2 H2 (e.trans le) R
  | exc c s => exact fun μ2 H2 le R => h μ2 H2 (e.trans le) R
  | stuck => exact h
theorem Go.bind {f : α → Store → Res β} {Q : List Addr → Hp → Store → β → Prop} (h : Go K μ H (m.bind f) Wn Q) : Go K μ H m Wn (fun μ1 H1 s1 d => Go K μ1 H1 (f d s1) Wn Q) := by
  cases m with
  | ok d s => exact fun μ1 H1 le R => Go.later (m := f d s) h le
  | exc c s => exact h
  | stuck => exact h
theorem Go.ok {d : α} {s : Store} {Q : List Addr → Hp → Store → α → Prop} (h : Go K μ H (.ok d s) Wn Q) (R : Rel K μ H s) : Q μ H s d := h μ H Le.refl R
end
end
end Ip
end PtIpSound
section PtIpExpr
set_option Elab.async false
set_option linter.all false
set_option maxRecDepth 100000
namespace Ip
open PySem PySem.Spec PyProof.Rows L2

/-- what a text means here: the defs, the constants, the classes -/
structure Tb where
  call : Nat → List DV → Store → Res DV
  G : Nat → Option DV
  sub : Nat → Nat → Bool
  cls : Nat → Option Addr

theorem _root_.L2.PE.imp {X : Cx} {e : Expr} {t t' : TE} (h : PE X e t) (f : ∀ σ H Q, t' σ H Q → t σ H Q) : PE X e t' := ⟨fun pins s σ H Q I q => h.run pins s σ H Q I (f σ H Q q)⟩
theorem _root_.L2.PT.imp {X : Cx} {e : Expr} {t t' : TT} (h : PT X e t) (f : ∀ σ H Q, t' σ H Q → t σ H Q) : PT X e t' := ⟨fun pins s σ H Q I q => h.run pins s σ H Q I (f σ H Q q)⟩
theorem _root_.L2.PW.imp {X : Cx} {e : Expr} {t t' : TT} (h : PW X e t) (f : ∀ σ H Q, t' σ H Q → t σ H Q) : PW X e t' := ⟨fun w pins s σ H Q I q => h.run w pins s σ H Q I (f σ H Q q)⟩
theorem _root_.L2.PA.imp {X : Cx} {e : List Expr} {t t' : TA} (h : PA X e t) (f : ∀ σ H Q, t' σ H Q → t σ H Q) : PA X e t' := ⟨fun p pins s σ H Q I q => h.run p pins s σ H Q I (f σ H Q q)⟩
theorem _root_.L2.PS.imp {X : Cx} {st : Stmt} {t t' : TS} (h : PS X st t) (f : ∀ D σ H, t' D σ H → t D σ H) : PS X st t' := ⟨fun pins s σ H D I q => h.run pins s σ H D I (f D σ H q)⟩
theorem _root_.L2.PSs.imp {X : Cx} {st : List Stmt} {t t' : TS} (h : PSs X st t) (f : ∀ D σ H, t' D σ H → t D σ H) : PSs X st t' := ⟨fun pins s σ H D I q => h.run pins s σ H D I (f D σ H q)⟩
theorem _root_.L2.PG.imp {X : Cx} {e : Expr} {t t' : TG} (h : PG X e t) (f : ∀ v σ H Q, t' v σ H Q → t v σ H Q) : PG X e t' := ⟨fun pins s σ H v u Q I r q => h.run pins s σ H v u Q I r (f v σ H Q q)⟩
theorem _root_.L2.PGs.imp {X : Cx} {e : List Expr} {t t' : TGs} (h : PGs X e t) (f : ∀ v σ H Q, t' v σ H Q → t v σ H Q) : PGs X e t' := ⟨fun pins s σ H v u Q I r q => h.run pins s σ H v u Q I r (f v σ H Q q)⟩
theorem _root_.L2.PI.imp {X : Cx} {tg e : Expr} {t t' : TI} (h : PI X tg e t) (f : ∀ σ H R, t' σ H R → t σ H R) : PI X tg e t' := ⟨fun pins s σ H R I q => h.run pins s σ H R I (f σ H R q)⟩
theorem _root_.L2.PO.imp {X : Cx} {e : Option Expr} {t t' : TO} (h : PO X e t) (f : ∀ σ H Q, t' σ H Q → t σ H Q) : PO X e t' := ⟨fun pins s σ H Q I q => h.run pins s σ H Q I (f σ H Q q)⟩

/-! ### readings -/
/-- a run from some state that the slots and the heap stand for -/
def Run {α : Type} (T : Tb) (K : PySem.W.Frag) (ex : Option (Addr × Nat)) (W : WX) (σ : L2.St) (H : Hp) (m : Loc → Store → Res α) (Q : List Addr → Hp → Store → α → Prop) : Prop :=
  ∃ μ r s, Rel K μ H s ∧ LR K ex μ H σ r ∧ Go K μ H (m r s) (fun c H' => ∀ C, T.cls c = some C → W (.ref C) none σ H') Q
def QV (K : PySem.W.Frag) (Q : VK) : List Addr → Hp → Store → DV → Prop := fun μ H _ d => ∀ v, VR K μ H v d → Q v H
def tE (T : Tb) (K : PySem.W.Frag) (ex : Option (Addr × Nat)) (W : WX) (c : CE) : TE := fun σ H Q =>
  ∃ μ r s, Rel K μ H s ∧ LR K ex μ H σ r ∧ Go K μ H (evE T.call T.G T.sub c r s) (fun c H' => ∀ C, T.cls c = some C → W (.ref C) none σ H') (fun μ' H' _ d => ∀ v, VR K μ' H' v d → Q v H')
def tTst (T : Tb) (K : PySem.W.Frag) (ex : Option (Addr × Nat)) (W : WX) (c : CE) : TT := fun σ H Q =>
  ∃ μ r s, Rel K μ H s ∧ LR K ex μ H σ r ∧ Go K μ H ((evE T.call T.G T.sub c r s).bind fun x s => truth x s) (fun c H' => ∀ C, T.cls c = some C → W (.ref C) none σ H') (fun _ H' _ b => Q b H')
def tEs (T : Tb) (K : PySem.W.Frag) (ex : Option (Addr × Nat)) (W : WX) (c : CEs) : TA := fun σ H Q =>
  ∃ μ r s, Rel K μ H s ∧ LR K ex μ H σ r ∧ Go K μ H (evEs T.call T.G T.sub c r s) (fun c H' => ∀ C, T.cls c = some C → W (.ref C) none σ H') (fun μ' H' _ ds => ∀ vs, VRs K μ' H' vs ds → Q vs H')
def tEO (T : Tb) (K : PySem.W.Frag) (ex : Option (Addr × Nat)) (W : WX) (c : CO) : TO := fun σ H Q =>
  ∃ μ r s, Rel K μ H s ∧ LR K ex μ H σ r ∧ Go K μ H (evO T.call T.G T.sub c r s) (fun c H' => ∀ C, T.cls c = some C → W (.ref C) none σ H') (fun _ H' _ o => Q o H')

structure SE (T : Tb) (X : Cx) (ex : Option (Addr × Nat)) (W : WX) (e : Expr) (c : CE) : Prop where
  pe : PE X e (tE T X.K ex W c)
structure ST (T : Tb) (X : Cx) (ex : Option (Addr × Nat)) (W : WX) (e : Expr) (c : CE) : Prop where
  pt : PT X e (tTst T X.K ex W c)
structure SW (T : Tb) (X : Cx) (ex : Option (Addr × Nat)) (W : WX) (e : Expr) (c : CE) : Prop where
  pw : PW X e (tTst T X.K ex W c)
structure SEs (T : Tb) (X : Cx) (ex : Option (Addr × Nat)) (W : WX) (es : List Expr) (c : CEs) : Prop where
  pa : PA X es (tEs T X.K ex W c)
structure SO (T : Tb) (X : Cx) (ex : Option (Addr × Nat)) (W : WX) (e : Option Expr) (c : CO) : Prop where
  po : PO X e (tEO T X.K ex W c)

section
variable {T : Tb} {X : Cx} {ex : Option (Addr × Nat)} {W : WX} {a b c e : Expr} {ca cb cc : CE} {pos : Pos} {es : List Expr} {ces : CEs}

theorem se_slot (i : Nat) {x : Str} {pos : Pos} (hN : X.N[i]? = some x := by rfl) (hv : Vis X.env.scope x := by first | exact Or.inl rfl | exact Or.inr (Or.inl rfl) | exact Or.inr (Or.inr rfl)) (hd : (x == ("__debug__" : Str)) = false := by decide)
    (hcd : (x == ("__classdict__" : Str)) = false := by decide) : SE T X ex W (.Name x pos) (.slot i) := ⟨(pe_var hN hv hd hcd).imp fun σ H Q h => by
  obtain ⟨μ, r, s, R, L, h⟩ := h
  simp only [evE] at h
  cases hr : r[i]? with
  | none => rw [hr] at h; exact h.elim
  | some o =>
    rw [hr] at h
    cases o with
    | none => exact h.elim
    | some d =>
      rcases L.at_ i d hr with ⟨v, h1, h2⟩ | ⟨_, c, h1, _⟩
      · refine ⟨v, h1, ?_⟩
        cases h2 with
        | non => exact h.ok R _ .non
        | bl b => exact h.ok R _ (.bl b)
        | int i => exact h.ok R _ (.int i)
        | str x => exact h.ok R _ (.str x)
        | tup q1 q2 => exact h.ok R _ (.tup q1 q2)
        | ref q => exact h.ok R _ (.ref q)
      · subst h1
        exact h.elim⟩
theorem se_int {i : Int} {j : Nat} {pos : Pos} : SE T X ex W (.Constant (.int i) j pos) (.k (.int i)) := ⟨pe_int.imp fun σ H Q ⟨_, _, _, R, _, h⟩ => h.ok R _ (.int i)⟩
theorem se_bl {i : Bool} {j : Nat} {pos : Pos} : SE T X ex W (.Constant (.bool i) j pos) (.k (.bl i)) := ⟨pe_bl.imp fun σ H Q ⟨_, _, _, R, _, h⟩ => h.ok R _ (.bl i)⟩
theorem se_non {j : Nat} {pos : Pos} : SE T X ex W (.Constant .none j pos) (.k .non) := ⟨pe_non.imp fun σ H Q ⟨_, _, _, R, _, h⟩ => h.ok R _ .non⟩
theorem se_str {x : Str} {j : Nat} {pos : Pos} : SE T X ex W (.Constant (.str x) j pos) (.k (.str x)) := ⟨pe_str.imp fun σ H Q ⟨_, _, _, R, _, h⟩ => h.ok R _ (.str x)⟩

/-! ### operators by values -/
def rB (K : PySem.W.Frag) (op : BOp) : R2 := fun x y H Q => ∃ μ s d e Wn, Rel K μ H s ∧ VR K μ H x d ∧ VR K μ H y e ∧ Go K μ H (binV op d e s) Wn (fun μ' H' _ z => ∀ v, VR K μ' H' v z → Q v H')
def bopOf : BOp → Operator
  | .add => .Add | .sub => .Sub | .mul => .Mult | .fdiv => .FloorDiv | .mod => .Mod | .pow => .Pow | .shl => .LShift | .shr => .RShift
theorem mulOk_use {i j : Int} (h : mulOk i j = true) : CMul i j ∨ CMulW i j := by
  unfold mulOk at h
  rw [Bool.or_eq_true, Bool.or_eq_true] at h
  rcases h with (h | h) | h
  · have h := of_decide_eq_true h
    exact .inl (.inl (by omega))
  · have h := of_decide_eq_true h
    exact .inl (.inr (by omega))
  · exact .inr (show i.natAbs.log2 + j.natAbs.log2 < 1000000 from of_decide_eq_true h)
theorem op_fdivNW : OpR X (binaryOp .FloorDiv) (rI (fun _ j => j ≠ 0 ∧ j.natAbs.log2 < 9000) fun i j => .int (i.fdiv j)) := opI fun _ _ _ _ _ _ _ hc q => floordiv_int hc.1 q (.inl (PyProof.noPylong_of_log2 hc.2))
theorem mulS_use {a : Str} {n : Int} (h : 1 ≤ n ∧ n ≤ 1000 ∧ a.length ≤ 1000) : PySem.MulOk a n := by
  obtain ⟨h1, h2, h3⟩ := h
  have c1 : ¬ n < -(2 ^ 63 : Int) := by omega
  have c2 : ¬ n ≥ 2 ^ 63 := by omega
  refine ⟨?_, fun _ _ hgt => ?_, fun _ _ => ?_⟩
  · rw [decide_eq_false c1, decide_eq_false c2]
    rfl
  · have q : (1000 : Int) ≤ (2 ^ 63 - 1) / n := by
      refine (Int.le_ediv_iff_mul_le (by omega)).mpr ?_
      omega
    have : (a.length : Int) ≤ 1000 := by omega
    omega
  · have q : a.length * n.toNat ≤ 1000 * 1000 := Nat.mul_le_mul h3 (by omega)
    unfold Builtin.Str.tooLong
    simp only [decide_eq_false_iff_not]
    have : (1000 * 1000 : Nat) ≤ sizeLine := by decide
    omega
theorem op_mulS : OpR X (binaryOp .Mult) (fun x y H Q => ∃ a n, x = .str a ∧ y = .int n ∧ (1 ≤ n ∧ n ≤ 1000 ∧ a.length ≤ 1000) ∧ Q (.str (PySem.Txt.mul a n)) H) := by
  intro pins s σ H x y v u Q I rx ry h
  obtain ⟨a, n, rfl, rfl, hm, h⟩ := h
  obtain ⟨t, rfl⟩ := rx
  obtain ⟨t', rfl⟩ := ry
  exact PySem.SB.mul (mulS_use hm) fun t2 k => ⟨.str _, H, I.tok k, ⟨t2, rfl⟩, h⟩
theorem op_sound (op : BOp) : OpR X (binaryOp (bopOf op)) (rB X.K op) := by
  intro pins s σ H x y v u Q I rx ry h
  obtain ⟨μ, s0, d, e, Wn, R, hx, hy, h⟩ := h
  cases hx with
  | int i =>
    cases hy with
    | int j =>
      cases op with
      | add => exact op_add pins s σ H _ _ v u Q I rx ry ⟨i, j, rfl, rfl, h.ok R _ (.int _)⟩
      | sub => exact op_sub pins s σ H _ _ v u Q I rx ry ⟨i, j, rfl, rfl, h.ok R _ (.int _)⟩
      | mul =>
        simp only [binV, binI] at h
        split at h
        · rename_i hm
          rcases mulOk_use hm with hc | hc
          · exact op_mul pins s σ H _ _ v u Q I rx ry ⟨i, j, rfl, rfl, hc, h.ok R _ (.int _)⟩
          · exact op_mulW pins s σ H _ _ v u Q I rx ry ⟨i, j, rfl, rfl, hc, h.ok R _ (.int _)⟩
        · exact h.elim
      | fdiv =>
        simp only [binV, binI] at h
        split at h
        · rename_i hm
          exact op_fdivW pins s σ H _ _ v u Q I rx ry ⟨i, j, rfl, rfl, hm, h.ok R _ (.int _)⟩
        · split at h
          · rename_i hm
            exact op_fdivNW pins s σ H _ _ v u Q I rx ry ⟨i, j, rfl, rfl, ⟨by omega, hm.2⟩, h.ok R _ (.int _)⟩
          · exact h.elim
      | mod =>
        simp only [binV, binI] at h
        split at h
        · rename_i hm
          exact op_mod pins s σ H _ _ v u Q I rx ry ⟨i, j, rfl, rfl, hm, h.ok R _ (.int _)⟩
        · split at h
          · rename_i hm
            exact op_modN pins s σ H _ _ v u Q I rx ry ⟨i, j, rfl, rfl, by omega, h.ok R _ (.int _)⟩
          · exact h.elim
      | pow =>
        simp only [binV, binI] at h
        split at h
        · rename_i hm
          exact op_pow pins s σ H _ _ v u Q I rx ry ⟨i, j, rfl, rfl, hm, h.ok R _ (.int _)⟩
        · exact h.elim
      | shl =>
        simp only [binV, binI] at h
        split at h
        · rename_i hm
          have hs : CShl i j := by
            have e := shl_ok (i := i) (j := j.toNat) (n := 1000) hm.2.2 (by omega)
            rwa [Int.toNat_of_nonneg hm.1] at e
          exact op_shlW pins s σ H _ _ v u Q I rx ry ⟨i, j, rfl, rfl, hs, h.ok R _ (.int _)⟩
        · exact h.elim
      | shr =>
        simp only [binV, binI] at h
        split at h
        · rename_i hm
          exact op_shr pins s σ H _ _ v u Q I rx ry ⟨i, j, rfl, rfl, hm, h.ok R _ (.int _)⟩
        · exact h.elim
    | non => exact h.elim
    | bl _ => exact h.elim
    | str _ => exact h.elim
    | tup _ _ => exact h.elim
    | ref _ => exact h.elim
  | str i =>
    cases hy with
    | str j =>
      cases op with
      | add =>
        simp only [binV] at h
        split at h
        · rename_i hm
          exact op_add_str pins s σ H _ _ v u Q I rx ry ⟨i, j, rfl, rfl, hm, h.ok R _ (.str _)⟩
        · exact h.elim
      | _ => exact h.elim
    | int j =>
      cases op with
      | mul =>
        simp only [binV] at h
        split at h
        · rename_i hm
          exact op_mulS pins s σ H _ _ v u Q I rx ry ⟨i, j, rfl, rfl, hm, h.ok R _ (.str _)⟩
        · exact h.elim
      | _ => exact h.elim
    | non => exact h.elim
    | bl _ => exact h.elim
    | tup _ _ => exact h.elim
    | ref _ => exact h.elim
  | tup h1 h2 =>
    cases hy with
    | tup k1 k2 =>
      cases op with
      | add =>
        simp only [binV] at h
        split at h
        · rename_i hm
          refine or_catZ pins s σ H _ _ v u Q I rx ry ⟨_, _, _, _, rfl, rfl, h1, k1, by rw [h2.length, k2.length]; exact hm, fun e0 => ?_, fun _ e0 => ?_, fun p o hp hd => ?_⟩
          · subst e0
            cases h2
            exact h.ok R _ (.tup k1 k2)
          · subst e0
            cases k2
            refine h.ok R _ (.tup h1 ?_)
            rw [List.append_nil]
            exact h2
          · exact h μ _ (le_upd hp) (R.upd hp) _ (.tup (TupP.of upd_same hd) ((h2.append k2).mono (le_upd hp)))
        · exact h.elim
      | _ => exact h.elim
    | non => exact h.elim
    | bl _ => exact h.elim
    | int _ => exact h.elim
    | str _ => exact h.elim
    | ref _ => exact h.elim
  | non => cases hy <;> exact h.elim
  | bl _ => cases hy <;> exact h.elim
  | ref h1 =>
    cases hy with
    | ref h2 =>
      cases op with
      | add =>
        simp only [binV] at h
        split at h
        · rename_i xs ys hx hy
          split at h
          · rename_i hz
            obtain ⟨vs, c1, c2, _⟩ := R.at_ _ _ _ h1 hx
            obtain ⟨ws, k1, k2, _⟩ := R.at_ _ _ _ h2 hy
            refine op_cat pins s σ H _ _ v u Q I rx ry ⟨_, _, vs, ws, rfl, rfl, c1, k1, by rw [c2.length, k2.length]; exact hz, fun p hp => ?_⟩
            refine h (μ ++ [p]) _ (le_new hp) (R.new hp (c2.append k2) (by rw [List.length_append]; exact hz)) _ (.ref ?_)
            rw [← R.len]
            exact get_app_n
          · exact h.elim
        · exact h.elim
      | _ => exact h.elim
    | _ => exact h.elim
theorem se_bin (op : BOp) (ha : SE T X ex W a ca) (hb : SE T X ex W b cb) : SE T X ex W (.BinOp a (bopOf op) b pos) (.bin op ca cb) := ⟨(pe_op (op_sound op) ha.pe hb.pe).imp fun σ H Q h => by
  obtain ⟨μ, r, s, R, L, h⟩ := h
  refine ⟨μ, r, s, R, L, h.bind.map fun μ1 H1 s1 x le1 R1 h1 v1 hv1 => ?_⟩
  exact ⟨μ1, r, s1, R1, L.mono le1, h1.bind.map fun μ2 H2 s2 y le2 R2 h2 v2 hv2 => ⟨μ2, s2, x, y, _, R2, hv1.mono le2, hv2, h2⟩⟩⟩
theorem se_neg (ha : SE T X ex W a ca) : SE T X ex W (.UnaryOp .USub a pos) (.neg ca) := ⟨(pe_un un_neg ha.pe).imp fun σ H Q h => by
  obtain ⟨μ, r, s, R, L, h⟩ := h
  refine ⟨μ, r, s, R, L, h.bind.map fun μ1 H1 s1 x le1 R1 h1 v1 hv1 => ?_⟩
  cases hv1 with
  | int i => exact ⟨i, rfl, h1.ok R1 _ (.int _)⟩
  | _ => exact h1.elim⟩

/-! ### truth -/
theorem truth_sound {K : PySem.W.Frag} {μ : List Addr} {H : Hp} {s s' : Store} {v : V} {d : DV} {b : Bool} (R : Rel K μ H s) (h : VR K μ H v d) (e : truth d s = .ok b s') : s' = s ∧ TruV K v H b := by
  cases h with
  | non => cases e; exact ⟨rfl, rfl⟩
  | bl _ => cases e; exact ⟨rfl, rfl⟩
  | int _ => cases e; exact ⟨rfl, rfl⟩
  | str y =>
    simp only [truth] at e
    split at e
    · rename_i hz
      cases e
      exact ⟨rfl, hz, rfl⟩
    · cases e
  | tup h1 h2 =>
    cases e
    exact ⟨rfl, .inr (.inl ⟨_, h1.sq, by rw [h2.isEmpty]⟩)⟩
  | ref hm =>
    simp only [truth] at e
    split at e
    · rename_i xs hc
      cases e
      obtain ⟨vs, q1, q2⟩ := R.cellL hm hc
      exact ⟨rfl, .inl ⟨vs, q1, by rw [q2.isEmpty]⟩⟩
    · cases e
theorem truth_noexc {d : DV} {s s' : Store} {c : Nat} : truth d s ≠ .exc c s' := by
  cases d <;> simp only [truth] <;> (try split) <;> intro h <;> cases h
theorem Go.truth {K : PySem.W.Frag} {μ : List Addr} {H : Hp} {s : Store} {v : V} {d : DV} {Wn : Nat → Hp → Prop} {Q : List Addr → Hp → Store → Bool → Prop} (h : Go K μ H (truth d s) Wn Q) (R : Rel K μ H s) (hv : VR K μ H v d) :
    ∃ k, TruV K v H k ∧ Q μ H s k := by
  cases e : Ip.truth d s with
  | ok b s' =>
    rw [e] at h
    obtain ⟨rfl, t⟩ := truth_sound R hv e
    exact ⟨b, t, h.ok R⟩
  | exc c s' => exact absurd e truth_noexc
  | stuck => rw [e] at h; exact h.elim
theorem st_val (ha : SE T X ex W a ca) (he : ∀ whole, isTrue a X.env whole = (do let v ← whole; standAt a.pos; holding [v] (truthy v)) := by intro _; rfl) : ST T X ex W a ca := ⟨(pt_truth ha.pe he).imp fun σ H Q h => by
  obtain ⟨μ, r, s, R, L, h⟩ := h
  exact ⟨μ, r, s, R, L, h.bind.map fun μ1 H1 s1 x le1 R1 h1 v1 hv1 => h1.truth R1 hv1⟩⟩
theorem Go.ite {α : Type} {K : PySem.W.Frag} {μ : List Addr} {H : Hp} {c : Bool} {m n : Res α} {Wn : Nat → Hp → Prop} {Q : List Addr → Hp → Store → α → Prop} (h : Go K μ H (cond c m n) Wn Q) : if c = true then Go K μ H m Wn Q else Go K μ H n Wn Q := by
  cases c <;> exact h
theorem st_not (ha : ST T X ex W a ca) : ST T X ex W (.UnaryOp .Not a pos) (.not ca) := ⟨(pt_not ha.pt).imp fun σ H Q h => by
  obtain ⟨μ, r, s, R, L, h⟩ := h
  refine ⟨μ, r, s, R, L, ?_⟩
  simp only [evE] at h
  cases hm : evE T.call T.G T.sub ca r s with
  | ok x s1 =>
    rw [hm] at h
    show Go X.K μ H (Ip.truth x s1) _ _
    have h : Go X.K μ H (((Ip.truth x s1).bind fun b s => Res.ok (DV.bl (!b)) s).bind fun x s => Ip.truth x s) _ _ := h
    cases ht : Ip.truth x s1 with
    | ok k s2 => rw [ht] at h; exact h
    | exc c s2 => exact absurd ht truth_noexc
    | stuck => rw [ht] at h; exact h.elim
  | exc c s1 => rw [hm] at h; exact h
  | stuck => rw [hm] at h; exact h.elim⟩
/-! ### comparisons -/
mutual
theorem VR.dp {K : PySem.W.Frag} {μ : List Addr} {H : Hp} : ∀ {v : V} {d : DV}, VR K μ H v d → pure? d = true → Dp K H v (pd d)
  | _, _, .non, _ => .non
  | _, _, .bl b, _ => .bl b
  | _, _, .int i, _ => .int i
  | _, _, .str x, _ => .str x
  | _, _, .tup h hs, p => .tup h.sq (VRs.dp hs p)
  | _, _, .ref _, p => by cases p
theorem VRs.dp {K : PySem.W.Frag} {μ : List Addr} {H : Hp} : ∀ {vs : List V} {ds : List DV}, VRs K μ H vs ds → pures? ds = true → DpAll K H vs (pds ds)
  | _, _, .nil, _ => .nil
  | _, _, .cons h hs, p => by
    rw [pures?, Bool.and_eq_true] at p
    exact .cons (VR.dp h p.1) (VRs.dp hs p.2)
end
theorem VRs.ints {K : PySem.W.Frag} {μ : List Addr} {H : Hp} : ∀ {vs : List V} {ds : List DV} {is : List Int}, VRs K μ H vs ds → ints? ds = some is → vs = is.map V.int
  | _, _, _, .nil, e => by cases e; rfl
  | _, _, is, .cons h hs, e => by
    cases h with
    | int i =>
      simp only [ints?] at e
      split at e
      · rename_i js hj
        cases e
        rw [VRs.ints hs hj]
        rfl
      · cases e
    | _ => cases e
theorem VRs.strs {K : PySem.W.Frag} {μ : List Addr} {H : Hp} : ∀ {vs : List V} {ds : List DV} {is : List Str}, VRs K μ H vs ds → strs? ds = some is → vs = is.map V.str
  | _, _, _, .nil, e => by cases e; rfl
  | _, _, is, .cons h hs, e => by
    cases h with
    | str i =>
      simp only [strs?] at e
      split at e
      · rename_i js hj
        cases e
        rw [VRs.strs hs hj]
        rfl
      · cases e
    | _ => cases e
theorem flat_strsD : ∀ zs : List Str, (zs.map V.str).all flatV = true
  | [] => rfl
  | z :: zs => by
    rw [List.map_cons, List.all_cons, flat_strsD zs]
    rfl
def copOf : COp → CmpOp
  | .eq => .Eq | .ne => .NotEq | .lt => .Lt | .le => .LtE | .gt => .Gt | .ge => .GtE | .is => .Is | .isNot => .IsNot | .in => .In | .notIn => .NotIn
def rC (K : PySem.W.Frag) (op : COp) : R2 := fun x y H Q => ∃ μ s d e Wn, Rel K μ H s ∧ VR K μ H x d ∧ VR K μ H y e ∧ Go K μ H (cmpV op d e s) Wn (fun _ H' _ b => Q (.bl b) H')
theorem str1 {a : Str} (h : a.length = 1) : a = ⟨#[a.cps.getD 0 0]⟩ := by
  obtain ⟨⟨l⟩⟩ := a
  match l, h with
  | [c], _ => rfl
theorem cop_sound (hu : X.A.units + 64 < cLine) (op : COp) : OpR X (compareOp (copOf op)) (rC X.K op) := by
  intro pins s σ H x y v u Q I rx ry h
  obtain ⟨μ, s0, d, e, Wn, R, hx, hy, h⟩ := h
  cases op with
  | eq =>
    simp only [cmpV] at h
    split at h
    · rename_i hc
      unfold cmpable at hc
      rw [Bool.and_eq_true, Bool.and_eq_true, Bool.and_eq_true] at hc
      exact op_eqD hu pins s σ H _ _ v u Q I rx ry ⟨_, _, hx.dp hc.1.1, hy.dp hc.2.1, hc.1.2, hc.2.2, h.ok R⟩
    · exact h.elim
  | ne =>
    simp only [cmpV] at h
    split at h
    · rename_i hc
      unfold cmpable at hc
      rw [Bool.and_eq_true, Bool.and_eq_true, Bool.and_eq_true] at hc
      exact op_neD hu pins s σ H _ _ v u Q I rx ry ⟨_, _, hx.dp hc.1.1, hy.dp hc.2.1, hc.1.2, hc.2.2, h.ok R⟩
    · exact h.elim
  | lt =>
    cases hx with
    | int i =>
      cases hy with
      | int j => exact op_lt pins s σ H _ _ v u Q I rx ry ⟨i, j, rfl, rfl, h.ok R⟩
      | _ => exact h.elim
    | str i =>
      cases hy with
      | str j => exact op_lt_str pins s σ H _ _ v u Q I rx ry ⟨i, j, rfl, rfl, h.ok R⟩
      | _ => exact h.elim
    | tup h1 h2 =>
      cases hy with
      | tup k1 k2 =>
        simp only [cmpV] at h
        split at h
        · rename_i is js hi hj
          have e1 := h2.ints hi
          have e2 := k2.ints hj
          subst e1
          subst e2
          exact op_ltT (Nat.lt_of_le_of_lt (Nat.le_add_right _ _) hu) pins s σ H _ _ v u Q I rx ry ⟨_, _, is, js, rfl, rfl, h1.sq, k1.sq, h.ok R⟩
        · exact h.elim
      | _ => exact h.elim
    | _ => exact h.elim
  | le =>
    cases hx with
    | int i =>
      cases hy with
      | int j => exact op_le pins s σ H _ _ v u Q I rx ry ⟨i, j, rfl, rfl, h.ok R⟩
      | _ => exact h.elim
    | _ => exact h.elim
  | gt =>
    cases hx with
    | int i =>
      cases hy with
      | int j => exact op_gt pins s σ H _ _ v u Q I rx ry ⟨i, j, rfl, rfl, h.ok R⟩
      | _ => exact h.elim
    | _ => exact h.elim
  | ge =>
    cases hx with
    | int i =>
      cases hy with
      | int j => exact op_ge pins s σ H _ _ v u Q I rx ry ⟨i, j, rfl, rfl, h.ok R⟩
      | _ => exact h.elim
    | _ => exact h.elim
  | is =>
    cases hx with
    | non =>
      cases hy with
      | non => exact op_isN pins s σ H _ _ v u Q I rx ry ⟨rfl, h.ok R⟩
      | _ => exact h.elim
    | bl _ => cases hy with
      | non => exact op_isN pins s σ H _ _ v u Q I rx ry ⟨rfl, h.ok R⟩
      | _ => exact h.elim
    | int _ => cases hy with
      | non => exact op_isN pins s σ H _ _ v u Q I rx ry ⟨rfl, h.ok R⟩
      | _ => exact h.elim
    | str _ => cases hy with
      | non => exact op_isN pins s σ H _ _ v u Q I rx ry ⟨rfl, h.ok R⟩
      | _ => exact h.elim
    | tup _ _ => cases hy with
      | non => exact op_isN pins s σ H _ _ v u Q I rx ry ⟨rfl, h.ok R⟩
      | _ => exact h.elim
    | ref _ => cases hy with
      | non => exact op_isN pins s σ H _ _ v u Q I rx ry ⟨rfl, h.ok R⟩
      | _ => exact h.elim
  | isNot =>
    cases hx with
    | non =>
      cases hy with
      | non => exact op_notN pins s σ H _ _ v u Q I rx ry ⟨rfl, h.ok R⟩
      | _ => exact h.elim
    | bl _ => cases hy with
      | non => exact op_notN pins s σ H _ _ v u Q I rx ry ⟨rfl, h.ok R⟩
      | _ => exact h.elim
    | int _ => cases hy with
      | non => exact op_notN pins s σ H _ _ v u Q I rx ry ⟨rfl, h.ok R⟩
      | _ => exact h.elim
    | str _ => cases hy with
      | non => exact op_notN pins s σ H _ _ v u Q I rx ry ⟨rfl, h.ok R⟩
      | _ => exact h.elim
    | tup _ _ => cases hy with
      | non => exact op_notN pins s σ H _ _ v u Q I rx ry ⟨rfl, h.ok R⟩
      | _ => exact h.elim
    | ref _ => cases hy with
      | non => exact op_notN pins s σ H _ _ v u Q I rx ry ⟨rfl, h.ok R⟩
      | _ => exact h.elim
  | «in» =>
    cases hx with
    | str i =>
      cases hy with
      | str j =>
        simp only [cmpV] at h
        split at h
        · rename_i h1
          refine op_in_sign pins s σ H _ _ v u Q I rx ry ⟨_, j, ?_, rfl, h.ok R⟩
          rw [← str1 h1]
        · exact h.elim
      | tup k1 k2 =>
        simp only [cmpV] at h
        cases hz : strs? _ with
        | none => rw [hz] at h; exact h.elim
        | some zs =>
          rw [hz] at h
          have e1 := k2.strs hz
          subst e1
          refine op_in_seq pins s σ H _ _ v u Q I rx ry ⟨_, _, rfl, .inr k1.sq, rfl, flat_strsD zs, ?_⟩
          have e2 : inV (.str i) (zs.map V.str) = zs.any fun z => decide (z = i) := by
            unfold inV
            rw [List.any_map]
            refine congrArg (fun f => zs.any f) (funext fun z => ?_)
            show (z == i) = _
            by_cases q : z = i
            · subst q; simp
            · simp [q]
          simp only [Bool.false_eq_true, if_false]
          rw [e2]
          exact h.ok R
      | _ => exact h.elim
    | _ => exact h.elim
  | notIn =>
    cases hx with
    | str i =>
      cases hy with
      | str j =>
        simp only [cmpV] at h
        split at h
        · rename_i h1
          refine op_notIn_sign pins s σ H _ _ v u Q I rx ry ⟨_, j, ?_, rfl, h.ok R⟩
          rw [← str1 h1]
        · exact h.elim
      | _ => exact h.elim
    | _ => exact h.elim
theorem cmp_step {op : COp} {σ : L2.St} {H : Hp} {Q : VK} (h : tE T X.K ex W (.cmp op ca cb) σ H Q) : tOp (rC X.K op) (tE T X.K ex W ca) (tE T X.K ex W cb) σ H Q := by
  obtain ⟨μ, r, s, R, L, h⟩ := h
  refine ⟨μ, r, s, R, L, h.bind.map fun μ1 H1 s1 x le1 R1 h1 v1 hv1 => ?_⟩
  exact ⟨μ1, r, s1, R1, L.mono le1, h1.bind.map fun μ2 H2 s2 y le2 R2 h2 v2 hv2 => ⟨μ2, s2, x, y, _, R2, hv1.mono le2, hv2, h2.bind.map fun μ3 H3 s3 b le3 R3 h3 => h3.ok R3 _ (.bl b)⟩⟩
theorem se_cmp (hu : X.A.units + 64 < cLine) (op : COp) (ha : SE T X ex W a ca) (hb : SE T X ex W b cb) (hm : behindInMarks (copOf op) b = false := by first | exact nomark _ | rfl) : SE T X ex W (.Compare a [copOf op] [b] pos) (.cmp op ca cb) :=
  ⟨(pe_cmpR (cop_sound hu op) ha.pe hb.pe hm).imp fun σ H Q h => cmp_step h⟩
theorem st_cmp (hu : X.A.units + 64 < cLine) (op : COp) (ha : SE T X ex W a ca) (hb : SE T X ex W b cb) (hm : behindInMarks (copOf op) b = false := by first | exact nomark _ | rfl) : ST T X ex W (.Compare a [copOf op] [b] pos) (.cmp op ca cb) :=
  ⟨(pt_cmpR (cop_sound hu op) ha.pe hb.pe hm).imp fun σ H Q h => by
    obtain ⟨μ, r, s, R, L, h⟩ := h
    refine cmp_step (Q := fun x H' => ∃ k, x = .bl k ∧ Q k H') ⟨μ, r, s, R, L, ?_⟩
    simp only [evE] at h ⊢
    cases hm : evE T.call T.G T.sub ca r s with
    | ok x s1 =>
      rw [hm] at h
      simp only [Res.bind] at h ⊢
      cases hm2 : evE T.call T.G T.sub cb r s1 with
      | ok y s2 =>
        rw [hm2] at h
        simp only at h ⊢
        cases hm3 : cmpV op x y s2 with
        | ok k s3 =>
          rw [hm3] at h
          exact fun μ' H' le R' v hv => by
            cases hv
            exact ⟨k, rfl, h μ' H' le R'⟩
        | exc c s3 => rw [hm3] at h; exact h
        | stuck => rw [hm3] at h; exact h
      | exc c s2 => rw [hm2] at h; exact h
      | stuck => rw [hm2] at h; exact h
    | exc c s1 => rw [hm] at h; exact h
    | stuck => rw [hm] at h; exact h⟩
end
end Ip
end PtIpExpr
section PtIpExpr2
set_option Elab.async false
set_option linter.all false
set_option maxRecDepth 100000
namespace Ip
open PySem PySem.Spec PyProof.Rows L2

theorem Res.bind_assoc {α β γ : Type} (m : Res α) (f : α → Store → Res β) (g : β → Store → Res γ) : (m.bind f).bind g = m.bind fun x s => (f x s).bind g := by
  cases m <;> rfl
theorem truth_store {d : DV} {s s' : Store} {b : Bool} (e : truth d s = .ok b s') : s' = s := by
  cases d <;> simp only [truth] at e <;> (try split at e) <;> cases e <;> rfl

section
variable {T : Tb} {X : Cx} {ex : Option (Addr × Nat)} {W : WX} {a b c e : Expr} {ca cb cc : CE} {pos : Pos} {es rest : List Expr} {ces : CEs}

/-! ### and, or, a choice -/
theorem se_notV (ha : SE T X ex W a ca) : SE T X ex W (.UnaryOp .Not a pos) (.not ca) := ⟨(pe_notT ha.pe).imp fun σ H Q h => by
  obtain ⟨μ, r, s, R, L, h⟩ := h
  refine ⟨μ, r, s, R, L, h.bind.map fun μ1 H1 s1 x le1 R1 h1 v1 hv1 => ?_⟩
  obtain ⟨k, hk, q⟩ := h1.bind.truth R1 hv1
  exact ⟨k, hk, q.ok R1 _ (.bl _)⟩⟩
theorem se_one {op : BoolOp} (ha : SE T X ex W a ca) : SE T X ex W (.BoolOp op [a] pos) ca := ⟨pe_one ha.pe⟩
theorem se_and (ha : SE T X ex W a ca) (hb : SE T X ex W (.BoolOp .And (b :: rest) pos) cb) : SE T X ex W (.BoolOp .And (a :: b :: rest) pos) (.and ca cb) := ⟨(pe_andT ha.pe hb.pe).imp fun σ H Q h => by
  obtain ⟨μ, r, s, R, L, h⟩ := h
  refine ⟨μ, r, s, R, L, h.bind.map fun μ1 H1 s1 x le1 R1 h1 v1 hv1 => ?_⟩
  obtain ⟨k, hk, q⟩ := h1.bind.truth R1 hv1
  refine ⟨k, hk, ?_⟩
  cases k with
  | true => exact ⟨μ1, r, s1, R1, L.mono le1, q⟩
  | false => exact q.ok R1 v1 hv1⟩
theorem se_or (ha : SE T X ex W a ca) (hb : SE T X ex W (.BoolOp .Or (b :: rest) pos) cb) : SE T X ex W (.BoolOp .Or (a :: b :: rest) pos) (.or ca cb) := ⟨(pe_orT ha.pe hb.pe).imp fun σ H Q h => by
  obtain ⟨μ, r, s, R, L, h⟩ := h
  refine ⟨μ, r, s, R, L, h.bind.map fun μ1 H1 s1 x le1 R1 h1 v1 hv1 => ?_⟩
  obtain ⟨k, hk, q⟩ := h1.bind.truth R1 hv1
  refine ⟨k, hk, ?_⟩
  cases k with
  | true => exact q.ok R1 v1 hv1
  | false => exact ⟨μ1, r, s1, R1, L.mono le1, q⟩⟩
theorem sw_one_and (ha : ST T X ex W a ca) : SW T X ex W (.BoolOp .And [a] pos) ca := ⟨pw_and1 ha.pt⟩
theorem sw_one_or (ha : ST T X ex W a ca) : SW T X ex W (.BoolOp .Or [a] pos) ca := ⟨pw_or1 ha.pt⟩
theorem st_w (h : SW T X ex W e ca) : ST T X ex W e ca := ⟨h.pw.pt⟩
theorem sw_and (ha : ST T X ex W a ca) (hb : SW T X ex W (.BoolOp .And (b :: rest) pos) cb) : SW T X ex W (.BoolOp .And (a :: b :: rest) pos) (.and ca cb) := ⟨(pw_and ha.pt hb.pw).imp fun σ H Q h => by
  obtain ⟨μ, r, s, R, L, h⟩ := h
  refine ⟨μ, r, s, R, L, ?_⟩
  simp only [evE] at h
  cases hm : evE T.call T.G T.sub ca r s with
  | ok x s1 =>
    rw [hm] at h
    simp only [Res.bind] at h ⊢
    cases ht : truth x s1 with
    | ok k s2 =>
      rw [ht] at h
      cases k with
      | true => exact fun μ' H' le R' => ⟨μ', r, s2, R', L.mono le, h.later le⟩
      | false =>
        have e2 := truth_store ht
        subst e2
        simp only [cond] at h
        rw [ht] at h
        exact h
    | exc c s2 => exact absurd ht truth_noexc
    | stuck => rw [ht] at h; exact h.elim
  | exc c s1 => rw [hm] at h; exact h
  | stuck => rw [hm] at h; exact h.elim⟩
theorem sw_or (ha : ST T X ex W a ca) (hb : SW T X ex W (.BoolOp .Or (b :: rest) pos) cb) : SW T X ex W (.BoolOp .Or (a :: b :: rest) pos) (.or ca cb) := ⟨(pw_or ha.pt hb.pw).imp fun σ H Q h => by
  obtain ⟨μ, r, s, R, L, h⟩ := h
  refine ⟨μ, r, s, R, L, ?_⟩
  simp only [evE] at h
  cases hm : evE T.call T.G T.sub ca r s with
  | ok x s1 =>
    rw [hm] at h
    simp only [Res.bind] at h ⊢
    cases ht : truth x s1 with
    | ok k s2 =>
      rw [ht] at h
      cases k with
      | true =>
        have e2 := truth_store ht
        subst e2
        simp only [cond] at h
        rw [ht] at h
        exact h
      | false => exact fun μ' H' le R' => ⟨μ', r, s2, R', L.mono le, h.later le⟩
    | exc c s2 => exact absurd ht truth_noexc
    | stuck => rw [ht] at h; exact h.elim
  | exc c s1 => rw [hm] at h; exact h
  | stuck => rw [hm] at h; exact h.elim⟩
theorem se_ife (hc : ST T X ex W c cc) (ha : SE T X ex W a ca) (hb : SE T X ex W b cb) : SE T X ex W (.IfExp c a b pos) (.ife cc ca cb) := ⟨(pe_ifExp hc.pt ha.pe hb.pe).imp fun σ H Q h => by
  obtain ⟨μ, r, s, R, L, h⟩ := h
  simp only [evE] at h
  rw [← Res.bind_assoc] at h
  refine ⟨μ, r, s, R, L, h.bind.map fun μ1 H1 s1 k le1 R1 h1 => ?_⟩
  cases k with
  | true => exact ⟨μ1, r, s1, R1, L.mono le1, h1⟩
  | false => exact ⟨μ1, r, s1, R1, L.mono le1, h1⟩⟩
theorem chain_step {op op2 : COp} {σ : L2.St} {H : Hp} {Q : VK} (h : tE T X.K ex W (.chain op op2 ca cb cc) σ H Q) : tChain (rC X.K op) (rC X.K op2) (tE T X.K ex W ca) (tE T X.K ex W cb) (tE T X.K ex W cc) σ H Q := by
  obtain ⟨μ, r, s, R, L, h⟩ := h
  refine ⟨μ, r, s, R, L, h.bind.map fun μ1 H1 s1 x le1 R1 h1 v1 hv1 => ?_⟩
  refine ⟨μ1, r, s1, R1, L.mono le1, h1.bind.map fun μ2 H2 s2 y le2 R2 h2 v2 hv2 => ?_⟩
  refine ⟨μ2, s2, x, y, _, R2, hv1.mono le2, hv2, h2.bind.map fun μ3 H3 s3 k le3 R3 h3 => ⟨k, rfl, ?_⟩⟩
  cases k with
  | true =>
    refine ⟨μ3, r, s3, R3, (L.mono le1).mono (le2.trans le3), Go.map (Go.bind h3) fun μ4 H4 s4 z le4 R4 h4 v4 hv4 => ?_⟩
    exact ⟨μ4, s4, y, z, _, R4, hv2.mono (le3.trans le4), hv4, h4.bind.map fun μ5 H5 s5 k le5 R5 h5 => h5.ok R5 _ (.bl k)⟩
  | false => exact Go.ok h3 R3 _ (.bl false)
theorem se_chain (hu : X.A.units + 64 < cLine) (op op2 : COp) (ha : SE T X ex W a ca) (hb : SE T X ex W b cb) (hc : SE T X ex W c cc) (hm : lastMarks [copOf op, copOf op2] [b, c] = false := by with_unfolding_all rfl) :
    SE T X ex W (.Compare a [copOf op, copOf op2] [b, c] pos) (.chain op op2 ca cb cc) := ⟨(pe_chain (cop_sound hu op) (cop_sound hu op2) ha.pe hb.pe hc.pe hm).imp fun σ H Q h => chain_step h⟩
/-- a test that is always a bool -/
def Bl (T : Tb) (c : CE) : Prop := ∀ r s x s', evE T.call T.G T.sub c r s = .ok x s' → ∃ k, x = .bl k
theorem tst_tE {σ : L2.St} {H : Hp} {Q : Bool → Hp → Prop} (hb : Bl T ca) (h : tTst T X.K ex W ca σ H Q) : tE T X.K ex W ca σ H (fun x H' => ∃ k, x = .bl k ∧ Q k H') := by
  obtain ⟨μ, r, s, R, L, h⟩ := h
  refine ⟨μ, r, s, R, L, ?_⟩
  cases hm : evE T.call T.G T.sub ca r s with
  | ok x s1 =>
    rw [hm] at h
    obtain ⟨k, rfl⟩ := hb _ _ _ _ hm
    exact fun μ' H' le R' v hv => by
      cases hv
      exact ⟨k, rfl, h μ' H' le R'⟩
  | exc c s1 => rw [hm] at h; exact h
  | stuck => rw [hm] at h; exact h
theorem bl_chain {op op2 : COp} : Bl T (.chain op op2 ca cb cc) := by
  intro r s x s' h
  simp only [evE] at h
  cases h1 : evE T.call T.G T.sub ca r s with
  | ok x1 s1 =>
    rw [h1] at h
    simp only [Res.bind] at h
    cases h2 : evE T.call T.G T.sub cb r s1 with
    | ok x2 s2 =>
      rw [h2] at h
      simp only at h
      cases h3 : cmpV op x1 x2 s2 with
      | ok k s3 =>
        rw [h3] at h
        simp only at h
        cases k with
        | true =>
          simp only [cond] at h
          cases h4 : evE T.call T.G T.sub cc r s3 with
          | ok x4 s4 =>
            rw [h4] at h
            simp only at h
            cases h5 : cmpV op2 x2 x4 s4 with
            | ok k5 s5 => rw [h5] at h; cases h; exact ⟨_, rfl⟩
            | exc c s5 => rw [h5] at h; cases h
            | stuck => rw [h5] at h; cases h
          | exc c s4 => rw [h4] at h; cases h
          | stuck => rw [h4] at h; cases h
        | false => simp only [cond] at h; cases h; exact ⟨_, rfl⟩
      | exc c s3 => rw [h3] at h; cases h
      | stuck => rw [h3] at h; cases h
    | exc c s2 => rw [h2] at h; cases h
    | stuck => rw [h2] at h; cases h
  | exc c s1 => rw [h1] at h; cases h
  | stuck => rw [h1] at h; cases h
theorem st_chain (hu : X.A.units + 64 < cLine) (op op2 : COp) (ha : SE T X ex W a ca) (hb : SE T X ex W b cb) (hc : SE T X ex W c cc) (hm : lastMarks [copOf op, copOf op2] [b, c] = false := by with_unfolding_all rfl) :
    ST T X ex W (.Compare a [copOf op, copOf op2] [b, c] pos) (.chain op op2 ca cb cc) := ⟨(pt_chain (cop_sound hu op) (cop_sound hu op2) ha.pe hb.pe hc.pe hm).imp fun σ H Q h => chain_step (tst_tE bl_chain h)⟩

/-! ### subscripts and slices -/
theorem atI_vr {K : PySem.W.Frag} {μ : List Addr} {H : Hp} {vs : List V} {ds : List DV} {i : Int} {d : DV} (h : VRs K μ H vs ds) (e : L2.atI ds i = some d) : ∃ v, L2.atI vs i = some v ∧ VR K μ H v d := by
  unfold L2.atI at e ⊢
  rw [h.length]
  cases hp : L2.ixN ds.length i with
  | none => rw [hp] at e; cases e
  | some j =>
    rw [hp] at e
    exact h.get e
def rI' (K : PySem.W.Frag) : R2 := fun x y H Q => ∃ μ s d e Wn, Rel K μ H s ∧ VR K μ H x d ∧ VR K μ H y e ∧ Go K μ H (itemV d e s) Wn (fun μ' H' _ z => ∀ v, VR K μ' H' v z → Q v H')
theorem ix_sound : IxR X (rI' X.K) := by
  intro val sl pins s σ H x y v u Q I rx ry h hsub
  obtain ⟨μ, s0, d, e, Wn, R, hx, hy, h⟩ := h
  cases hx with
  | tup h1 h2 =>
    cases hy with
    | int i =>
      simp only [itemV] at h
      cases hz : L2.atI _ i with
      | some z =>
        rw [hz] at h
        obtain ⟨w, q1, q2⟩ := atI_vr h2 hz
        exact ix_tup val sl pins s σ H _ _ v u Q I rx ry ⟨_, _, i, w, rfl, rfl, h1.sq, q1, h.ok R w q2⟩ hsub
      | none => rw [hz] at h; exact h.elim
    | _ => exact h.elim
  | ref hm =>
    cases hy with
    | int i =>
      simp only [itemV] at h
      cases hc : cellL s0 _ with
      | none => rw [hc] at h; exact h.elim
      | some xs =>
        rw [hc] at h
        simp only [optR] at h
        cases hz : L2.atI xs i with
        | some z =>
          rw [hz] at h
          obtain ⟨vs, c1, c2⟩ := R.cellL hm hc
          obtain ⟨w, q1, q2⟩ := atI_vr c2 hz
          exact ix_list val sl pins s σ H _ _ v u Q I rx ry ⟨_, _, i, w, rfl, rfl, c1, q1, h.ok R w q2⟩ hsub
        | none => rw [hz] at h; exact h.elim
    | _ => exact h.elim
  | str z =>
    cases hy with
    | int i =>
      simp only [itemV] at h
      split at h
      · rename_i hz
        split at h
        · rename_i c hc
          exact ix_str val sl pins s σ H _ _ v u Q I rx ry ⟨z, i, c, rfl, rfl, hz, hc, h.ok R _ (.str _)⟩ hsub
        · exact h.elim
      · exact h.elim
    | _ => exact h.elim
  | non => exact h.elim
  | bl _ => exact h.elim
  | int _ => exact h.elim
theorem se_ix (ha : SE T X ex W a ca) (hb : SE T X ex W b cb) (hs : PlainIx b := by exact fun _ _ => rfl) : SE T X ex W (.Subscript a b pos) (.ix ca cb) := ⟨(pe_ix ix_sound ha.pe hb.pe hs).imp fun σ H Q h => by
  obtain ⟨μ, r, s, R, L, h⟩ := h
  refine ⟨μ, r, s, R, L, h.bind.map fun μ1 H1 s1 x le1 R1 h1 v1 hv1 => ?_⟩
  exact ⟨μ1, r, s1, R1, L.mono le1, h1.bind.map fun μ2 H2 s2 y le2 R2 h2 v2 hv2 => ⟨μ2, s2, x, y, _, R2, hv1.mono le2, hv2, h2⟩⟩⟩
theorem cut_vr {K : PySem.W.Frag} {μ : List Addr} {H : Hp} {vs : List V} {ds : List DV} {lo hi : Option Int} (h : VRs K μ H vs ds) : VRs K μ H (cutV vs lo hi) (cut ds lo hi) := by
  unfold cutV cut
  rw [h.length]
  exact (h.drop _).take _
theorem cut_le {α : Type} (xs : List α) (lo hi : Option Int) : (cut xs lo hi).length ≤ xs.length := by
  unfold cut
  rw [List.length_take, List.length_drop]
  omega
theorem cut_all {α : Type} {xs : List α} {lo hi : Option Int} (h : HT.sIx xs.length 0 lo = 0 ∧ HT.sIx xs.length xs.length hi = xs.length) : cut xs lo hi = xs := by
  unfold cut
  rw [h.1, h.2]
  exact List.take_length
def rS' (K : PySem.W.Frag) : V → Option Int → Option Int → Hp → VK → Prop := fun x lo hi H Q => ∃ μ s d Wn, Rel K μ H s ∧ VR K μ H x d ∧ Go K μ H (sliceV d lo hi s) Wn (fun μ' H' _ z => ∀ v, VR K μ' H' v z → Q v H')
theorem sl_sound : SlR X (rS' X.K) := by
  intro pins s σ H x v vl vu lo hi sl Q I rx hs pl pu h
  obtain ⟨μ, s0, d, Wn, R, hx, h⟩ := h
  cases hx with
  | tup h1 h2 =>
    refine sl_cutZ pins s σ H _ v vl vu lo hi sl Q I rx hs pl pu ⟨_, _, rfl, h1, fun e => ?_, fun p o hp hd => ?_⟩
    · have e' : cut _ lo hi = _ := cut_all (by rw [h2.length] at e; exact e)
      have q := h.ok R
      rw [e'] at q
      exact q _ (.tup h1 h2)
    · exact h μ _ (le_upd hp) (R.upd hp) _ (.tup (TupP.of upd_same hd) ((cut_vr h2).mono (le_upd hp)))
  | ref hm =>
    simp only [sliceV] at h
    split at h
    · rename_i xs hc
      obtain ⟨vs, c1, c2⟩ := R.cellL hm hc
      refine sl_list pins s σ H _ v vl vu lo hi sl Q I rx hs pl pu ⟨_, _, rfl, c1, fun p hp => ?_⟩
      have hz : (cut xs lo hi).length ≤ sizeLine := by
        obtain ⟨_, _, _, hz⟩ := I.list c1
        rw [c2.length] at hz
        exact Nat.le_trans (cut_le _ _ _) hz
      refine h (μ ++ [p]) _ (le_new hp) (R.new hp (cut_vr c2) hz) _ (.ref ?_)
      rw [← R.len]
      exact get_app_n
    · exact h.elim
  | str z =>
    simp only [sliceV] at h
    split at h
    · rename_i hz
      exact sl_str pins s σ H _ v vl vu lo hi sl Q I rx hs pl pu ⟨z, rfl, hz, h.ok R _ (.str _)⟩
    · exact h.elim
  | non => exact h.elim
  | bl _ => exact h.elim
  | int _ => exact h.elim
theorem so_none : SO T X ex W none .no := ⟨po_none.imp fun σ H Q h => by
  obtain ⟨μ, r, s, R, L, h⟩ := h
  exact h.ok R⟩
theorem so_some (ha : SE T X ex W a ca) : SO T X ex W (some a) (.some ca) := ⟨(po_some ha.pe).imp fun σ H Q h => by
  obtain ⟨μ, r, s, R, L, h⟩ := h
  refine ⟨μ, r, s, R, L, h.bind.map fun μ1 H1 s1 x le1 R1 h1 v1 hv1 => ?_⟩
  cases hv1 with
  | int i => exact ⟨i, rfl, h1.ok R1⟩
  | _ => exact h1.elim⟩
theorem se_slc {lo hi : Option Expr} {cl ch : CO} {p2 : Pos} (ha : SE T X ex W a ca) (hl : SO T X ex W lo cl) (hh : SO T X ex W hi ch) : SE T X ex W (.Subscript a (.Slice lo hi none p2) pos) (.slc ca cl ch) := ⟨(pe_slice sl_sound ha.pe hl.po hh.po).imp fun σ H Q h => by
  obtain ⟨μ, r, s, R, L, h⟩ := h
  refine ⟨μ, r, s, R, L, h.bind.map fun μ1 H1 s1 x le1 R1 h1 v1 hv1 => ?_⟩
  refine ⟨μ1, r, s1, R1, L.mono le1, h1.bind.map fun μ2 H2 s2 y le2 R2 h2 => ?_⟩
  exact ⟨μ2, r, s2, R2, (L.mono le1).mono le2, h2.bind.map fun μ3 H3 s3 z le3 R3 h3 => ⟨μ3, s3, x, _, R3, hv1.mono (le2.trans le3), h3⟩⟩⟩
theorem se_rev {k : Nat} {p1 p2 p3 : Pos} (ha : SE T X ex W a ca) :
    SE T X ex W (.Subscript a (.Slice none none (some (.UnaryOp .USub (.Constant (.int 1) k p1) p2)) p3) pos) (.rev ca) := ⟨⟨fun pins s σ H Q I h => (pe_revL (p3 := p3) (pos := pos) (k := k) (p1 := p1) (p2 := p2) ha.pe).run pins s σ H Q I (by
  obtain ⟨μ, r, s, R, L, h⟩ := h
  refine ⟨μ, r, s, R, L, h.bind.map fun μ1 H1 s1 x le1 R1 h1 v1 hv1 => ?_⟩
  cases hv1 with
  | ref hm =>
    simp only at h1
    split at h1
    · rename_i xs hc
      obtain ⟨vs, c1, c2, c3⟩ := R1.cellZ hm hc
      refine ⟨_, vs, rfl, c1, fun p hp => ?_⟩
      have hz : xs.reverse.length ≤ sizeLine := by rw [List.length_reverse]; exact c3
      refine h1 (μ1 ++ [p]) _ (le_new hp) (R1.new hp c2.reverse hz) _ (.ref ?_)
      rw [← R1.len]
      exact get_app_n
    · exact h1.elim
  | _ => exact h1.elim)⟩⟩
end
end Ip
end PtIpExpr2
section PtIpExpr3
set_option Elab.async false
set_option linter.all false
set_option maxRecDepth 100000
namespace Ip
open PySem PySem.Spec PyProof.Rows L2

section
variable {T : Tb} {X : Cx} {ex : Option (Addr × Nat)} {W : WX} {a b c e : Expr} {ca cb cc : CE} {pos : Pos} {es rest : List Expr} {ces : CEs}

/-! ### lists of arguments, displays -/
theorem ses_nil : SEs T X ex W [] .nil := ⟨pa_nil.imp fun σ H Q h => by
  obtain ⟨μ, r, s, R, L, h⟩ := h
  exact h.ok R [] .nil⟩
theorem ses_cons (ha : SE T X ex W e ca) (hr : SEs T X ex W es ces) (hs : starEach (e :: es) X.env = (false, eval e X.env) :: starEach es X.env := by rfl) : SEs T X ex W (e :: es) (.cons ca ces) := ⟨(pa_cons ha.pe hr.pa hs).imp fun σ H Q h => by
  obtain ⟨μ, r, s, R, L, h⟩ := h
  refine ⟨μ, r, s, R, L, h.bind.map fun μ1 H1 s1 x le1 R1 h1 v1 hv1 => ?_⟩
  exact ⟨μ1, r, s1, R1, L.mono le1, h1.bind.map fun μ2 H2 s2 xs le2 R2 h2 vs2 hv2 => h2.ok R2 _ (.cons (hv1.mono le2) hv2)⟩⟩
theorem se_tup {k : Nat} (h : SEs T X ex W es ces) : SE T X ex W (.Tuple es k pos) (.tup ces) := ⟨(pe_tupZ h.pa).imp fun σ H Q h => by
  obtain ⟨μ, r, s, R, L, h⟩ := h
  refine ⟨μ, r, s, R, L, h.bind.map fun μ1 H1 s1 xs le1 R1 h1 vs hv => ?_⟩
  split at h1
  · rename_i hz
    exact ⟨by rw [hv.length]; exact hz, fun p o hp hd => h1 μ1 _ (le_upd hp) (R1.upd hp) _ (.tup (TupP.of upd_same hd) (hv.mono (le_upd hp)))⟩
  · exact h1.elim⟩
theorem ref_new {K : PySem.W.Frag} {μ : List Addr} {H H' : Hp} {s : Store} {p : Addr} (R : Rel K μ H s) : VR K (μ ++ [p]) H' (.ref p) (.ref s.length) := by
  refine .ref ?_
  rw [← R.len]
  exact get_app_n
theorem se_lst (h : SEs T X ex W es ces) : SE T X ex W (.List es pos) (.lst ces) := ⟨(pe_lst h.pa).imp fun σ H Q h => by
  obtain ⟨μ, r, s, R, L, h⟩ := h
  refine ⟨μ, r, s, R, L, h.bind.map fun μ1 H1 s1 xs le1 R1 h1 vs hv => ?_⟩
  split at h1
  · rename_i hz
    exact ⟨by rw [hv.length]; exact hz, fun p hp => h1 (μ1 ++ [p]) _ (le_new hp) (R1.new hp hv hz) _ (ref_new R1)⟩
  · exact h1.elim⟩

/-! ### calls of defs -/
/-- what the def number f promises -/
def spC (T : Tb) (K : PySem.W.Frag) (f np : Nat) : Sp := fun vs H Q E => ∃ μ s ds, Rel K μ H s ∧ VRs K μ H vs ds ∧ ds.length = np ∧
  Go K μ H (T.call f ds s) (fun c H' => ∀ C, T.cls c = some C → E (.ref C) none H') (fun μ' H' _ d => ∀ v, VR K μ' H' v d → Q v H')
/-- the def number f, called x: where it stands -/
structure Fd (T : Tb) (X : Cx) (k : Nat) (x : Str) (f np : Nat) : Prop where
  ok : ∃ (ad : Addr) (fd : FuncData) (ps : List Str), FnOk X.prog X.w X.K X.mg X.base (L2.CX X.prog X.w) k ad fd ps (spC T X.K f np) ∧ ps.length = np ∧ X.mg x = some (.ref ad) ∧ PySem.W.keepIn X.K (.ref ad) = true ∧ Binds X.K fd ps []
theorem se_call {k : Nat} {x : Str} {f np : Nat} {p : Pos} {cs : CEs} (F : Fd T X k x f np) (hr : Room k X.A) (tk : Takes X W) (ha : SEs T X ex W (e :: es) cs) (hnp : (e :: es).length = np := by rfl) (hg : Gl X x := by rfl) (hdb : (x == ("__debug__" : Str)) = false := by decide)
    (he : starEach (e :: es) X.env = (false, eval e X.env) :: starEach es X.env := by rfl) (hpl : (backTo pos (starEach es X.env)).any (·.1) = false := by rfl)
    (hlen : ∀ r s xs s', evEs T.call T.G T.sub cs r s = .ok xs s' → xs.length = np) : SE T X ex W (.Call (.Name x p) (e :: es) [] pos) (.call f cs) := by
  obtain ⟨ad, fd, ps, FO, _, hm, hk, hb⟩ := F.ok
  exact ⟨(pe_callS FO hr hg hm hk hb (fun σ => passAt tk σ) ha.pa hdb he hpl).imp fun σ H Q h => by
    obtain ⟨μ, r, s, R, L, h⟩ := h
    refine ⟨μ, r, s, R, L, ?_⟩
    simp only [evE] at h
    cases hm : evEs T.call T.G T.sub cs r s with
    | ok xs s1 =>
      rw [hm] at h
      exact fun μ1 H1 le1 R1 vs hv => ⟨μ1, s1, xs, R1, hv, hlen _ _ _ _ hm, Go.later (m := T.call f xs s1) h le1⟩
    | exc c s1 => rw [hm] at h; exact h
    | stuck => rw [hm] at h; exact h⟩
theorem len_nil {r s xs s'} (h : evEs T.call T.G T.sub .nil r s = .ok xs s') : xs.length = 0 := by cases h; rfl
theorem len_cons {n : Nat} {c : CE} {cs : CEs} (hc : ∀ r s xs s', evEs T.call T.G T.sub cs r s = .ok xs s' → xs.length = n) : ∀ r s xs s', evEs T.call T.G T.sub (.cons c cs) r s = .ok xs s' → xs.length = n + 1 := by
  intro r s xs s' h
  simp only [evEs] at h
  cases h1 : evE T.call T.G T.sub c r s with
  | ok x s1 =>
    rw [h1] at h
    simp only [Res.bind] at h
    cases h2 : evEs T.call T.G T.sub cs r s1 with
    | ok ys s2 =>
      rw [h2] at h
      cases h
      rw [List.length_cons, hc _ _ _ _ h2]
    | exc c s2 => rw [h2] at h; cases h
    | stuck => rw [h2] at h; cases h
  | exc c s1 => rw [h1] at h; cases h
  | stuck => rw [h1] at h; cases h

/-! ### built-ins -/
def rBi (K : PySem.W.Frag) (b : Bi) : List V → Hp → VK → Prop := fun xs H Q => ∃ μ s ds Wn, Rel K μ H s ∧ VRs K μ H xs ds ∧ Go K μ H (biV b ds s) Wn (fun μ' H' _ z => ∀ v, VR K μ' H' v z → Q v H')
theorem bi_len : CallR X (.builtin "len") (rBi X.K .len) := by
  intro pins s σ H xs us Q I r h
  obtain ⟨μ, s0, ds, Wn, R, hv, h⟩ := h
  match hv with
  | .nil => exact h.elim
  | .cons hx .nil =>
    cases hx with
    | str z =>
      simp only [biV] at h
      split at h
      · rename_i hz
        exact call_len pins s σ H _ us Q I r ⟨_, z.length, rfl, ⟨hz, rfl⟩, h.ok R _ (.int _)⟩
      · exact h.elim
    | tup h1 h2 => exact call_len pins s σ H _ us Q I r ⟨_, _, rfl, .inr ⟨_, h1.sq, rfl⟩, by rw [h2.length]; exact h.ok R _ (.int _)⟩
    | ref hm =>
      simp only [biV] at h
      split at h
      · rename_i ys hc
        obtain ⟨vs, c1, c2⟩ := R.cellL hm hc
        exact call_len pins s σ H _ us Q I r ⟨_, _, rfl, .inl ⟨_, c1, rfl⟩, by rw [c2.length]; exact h.ok R _ (.int _)⟩
      · exact h.elim
    | _ => exact h.elim
  | .cons hx (.cons hy hr) => cases hx <;> exact h.elim
theorem bi_abs : CallR X (.builtin "abs") (rBi X.K .abs) := by
  intro pins s σ H xs us Q I r h
  obtain ⟨μ, s0, ds, Wn, R, hv, h⟩ := h
  match hv with
  | .nil => exact h.elim
  | .cons hx .nil =>
    cases hx with
    | int i => exact call_abs pins s σ H _ us Q I r ⟨i, rfl, h.ok R _ (.int _)⟩
    | _ => exact h.elim
  | .cons hx (.cons hy hr) => cases hx <;> exact h.elim
theorem bi_int : CallR X (.type "int") (rBi X.K .int) := by
  intro pins s σ H xs us Q I r h
  obtain ⟨μ, s0, ds, Wn, R, hv, h⟩ := h
  match hv with
  | .nil => exact h.elim
  | .cons hx .nil =>
    cases hx with
    | int i => exact call_int1 pins s σ H _ us Q I r (.inl ⟨i, rfl, h.ok R _ (.int _)⟩)
    | bl i => exact call_int1 pins s σ H _ us Q I r (.inr ⟨i, rfl, h.ok R _ (.int _)⟩)
    | str z =>
      simp only [biV] at h
      cases hz : PySem.intText? z with
      | none => rw [hz] at h; exact h.elim
      | some n =>
        rw [hz] at h
        simp only [optR] at h
        split at h
        · rename_i hl
          exact call_int_str pins s σ H _ us Q I r ⟨z, n, rfl, hz, hl, h.ok R _ (.int _)⟩
        · exact h.elim
    | _ => exact h.elim
  | .cons hx (.cons hy hr) => cases hx <;> exact h.elim
theorem bi_divmod : CallR X (.builtin "divmod") (rBi X.K .divmod) := by
  intro pins s σ H xs us Q I r h
  obtain ⟨μ, s0, ds, Wn, R, hv, h⟩ := h
  match hv with
  | .nil => exact h.elim
  | .cons hx .nil => cases hx <;> exact h.elim
  | .cons hx (.cons hy .nil) =>
    cases hx with
    | int i =>
      cases hy with
      | int j =>
        simp only [biV] at h
        split at h
        · rename_i hj
          refine cr_divmodZ pins s σ H _ us Q I r ⟨i, j, rfl, hj, fun p o hp hd => h μ _ (le_upd hp) (R.upd hp) _ (.tup (TupP.of upd_same hd) ?_)⟩
          exact .cons (.int _) (.cons (.int _) .nil)
        · exact h.elim
      | _ => exact h.elim
    | _ => exact h.elim
  | .cons hx (.cons hy (.cons hz hr)) => cases hx <;> (first | exact h.elim | (cases hy <;> exact h.elim))
theorem bi_list : CallR X (.type "list") (rBi X.K .list) := by
  intro pins s σ H xs us Q I r h
  obtain ⟨μ, s0, ds, Wn, R, hv, h⟩ := h
  match hv with
  | .nil => exact h.elim
  | .cons hx .nil =>
    cases hx with
    | tup h1 h2 =>
      refine call_list_of pins s σ H _ us Q I r ⟨_, _, rfl, .inr h1.sq, fun p hp => ?_⟩
      obtain ⟨_, _, _, hz⟩ := I.tuple h1.sq
      rw [h2.length] at hz
      exact h (μ ++ [p]) _ (le_new hp) (R.new hp h2 hz) _ (ref_new R)
    | ref hm =>
      simp only [biV] at h
      split at h
      · rename_i ys hc
        obtain ⟨vs, c1, c2, hz⟩ := R.cellZ hm hc
        refine call_list_of pins s σ H _ us Q I r ⟨_, _, rfl, .inl c1, fun p hp => ?_⟩
        exact h (μ ++ [p]) _ (le_new hp) (R.new hp c2 hz) _ (ref_new R)
      · exact h.elim
    | _ => exact h.elim
  | .cons hx (.cons hy hr) => cases hx <;> exact h.elim
theorem bi_tuple : CallR X (.type "tuple") (rBi X.K .tuple) := by
  intro pins s σ H xs us Q I r h
  obtain ⟨μ, s0, ds, Wn, R, hv, h⟩ := h
  match hv with
  | .nil => exact h.elim
  | .cons hx .nil =>
    cases hx with
    | tup h1 h2 => exact cr_tupleZ pins s σ H _ us Q I r ⟨_, _, rfl, .inr ⟨h1, h.ok R _ (.tup h1 h2)⟩⟩
    | ref hm =>
      simp only [biV] at h
      split at h
      · rename_i ys hc
        obtain ⟨vs, c1, c2, hz⟩ := R.cellZ hm hc
        exact cr_tupleZ pins s σ H _ us Q I r ⟨_, _, rfl, .inl ⟨c1, fun p o hp hd => h μ _ (le_upd hp) (R.upd hp) _ (.tup (TupP.of upd_same hd) (c2.mono (le_upd hp)))⟩⟩
      · exact h.elim
    | _ => exact h.elim
  | .cons hx (.cons hy hr) => cases hx <;> exact h.elim
theorem bi_str : CallR X (.type "str") (rBi X.K .str) := by
  intro pins s σ H xs us Q I r h
  obtain ⟨μ, s0, ds, Wn, R, hv, h⟩ := h
  match hv with
  | .nil => exact h.elim
  | .cons hx .nil =>
    cases hx with
    | int i =>
      simp only [biV] at h
      split at h
      · rename_i hi
        exact call_str_int pins s σ H _ us Q I r ⟨i, rfl, hi, h.ok R _ (.str _)⟩
      · exact h.elim
    | _ => exact h.elim
  | .cons hx (.cons hy hr) => cases hx <;> exact h.elim
theorem bi_max2 (hc : X.calm = true) : CallR X (.builtin "max") (rBi X.K .max2) := by
  intro pins s σ H xs us Q I r h
  obtain ⟨μ, s0, ds, Wn, R, hv, h⟩ := h
  match hv with
  | .nil => exact h.elim
  | .cons hx .nil => cases hx <;> exact h.elim
  | .cons hx (.cons hy .nil) =>
    cases hx with
    | int i =>
      cases hy with
      | int j => exact call_max2 hc pins s σ H _ us Q I r ⟨i, j, rfl, h.ok R _ (.int _)⟩
      | _ => exact h.elim
    | _ => exact h.elim
  | .cons hx (.cons hy (.cons hz hr)) => cases hx <;> (first | exact h.elim | (cases hy <;> exact h.elim))
theorem bi_min2 (hc : X.calm = true) : CallR X (.builtin "min") (rBi X.K .min2) := by
  intro pins s σ H xs us Q I r h
  obtain ⟨μ, s0, ds, Wn, R, hv, h⟩ := h
  match hv with
  | .nil => exact h.elim
  | .cons hx .nil => cases hx <;> exact h.elim
  | .cons hx (.cons hy .nil) =>
    cases hx with
    | int i =>
      cases hy with
      | int j => exact call_min2 hc pins s σ H _ us Q I r ⟨i, j, rfl, h.ok R _ (.int _)⟩
      | _ => exact h.elim
    | _ => exact h.elim
  | .cons hx (.cons hy (.cons hz hr)) => cases hx <;> (first | exact h.elim | (cases hy <;> exact h.elim))
theorem se_biB (B : Bi) {x : Str} {id : String} {p : Pos} {cs : CEs} (hc : CallR X (.builtin id) (rBi X.K B)) (hm : X.mg x = none) (hv : bootBuiltins x = some (.builtin id)) (ha : SEs T X ex W (e :: es) cs) (hg : Gl X x := by rfl) (hn : x ≠ "__name__" := by decide)
    (hdb : (x == ("__debug__" : Str)) = false := by decide) (he : starEach (e :: es) X.env = (false, eval e X.env) :: starEach es X.env := by rfl) (hpl : (backTo pos (starEach es X.env)).any (·.1) = false := by rfl) : SE T X ex W (.Call (.Name x p) (e :: es) [] pos) (.bi B cs) :=
  ⟨(pe_callB hc hg hm hv ha.pa hn hdb he hpl).imp fun σ H Q h => by
    obtain ⟨μ, r, s, R, L, h⟩ := h
    exact ⟨μ, r, s, R, L, h.bind.map fun μ1 H1 s1 xs le1 R1 h1 vs hv => ⟨μ1, s1, xs, _, R1, hv, h1⟩⟩⟩
theorem se_biT (B : Bi) {x : Str} {id : String} {p : Pos} {cs : CEs} (hc : CallR X (.type id) (rBi X.K B)) (hm : X.mg x = none) (hv : bootBuiltins x = some (.type id)) (ha : SEs T X ex W (e :: es) cs) (hg : Gl X x := by rfl) (hn : x ≠ "__name__" := by decide)
    (hdb : (x == ("__debug__" : Str)) = false := by decide) (he : starEach (e :: es) X.env = (false, eval e X.env) :: starEach es X.env := by rfl) (hpl : (backTo pos (starEach es X.env)).any (·.1) = false := by rfl) : SE T X ex W (.Call (.Name x p) (e :: es) [] pos) (.bi B cs) :=
  ⟨(pe_callTy hc hg hm hv ha.pa hn hdb he hpl).imp fun σ H Q h => by
    obtain ⟨μ, r, s, R, L, h⟩ := h
    exact ⟨μ, r, s, R, L, h.bind.map fun μ1 H1 s1 xs le1 R1 h1 vs hv => ⟨μ1, s1, xs, _, R1, hv, h1⟩⟩⟩

/-! ### isinstance(x, T), T built-in -/
def tyName (n : String) : Bool := n == "int" || n == "bool" || n == "str" || n == "tuple" || n == "list"
theorem tyX_of {K : PySem.W.Frag} {μ : List Addr} {H : Hp} {s : Store} {v : V} {d : DV} {n : String} {b : Bool} (hn : tyName n = true) (R : Rel K μ H s) (h : VR K μ H v d) (e : clIs d s (.ty n) = some b) : ∃ t, TyX K H v (.type t) ∧ kitB t n = some b := by
  have hn' : n = "int" ∨ n = "bool" ∨ n = "str" ∨ n = "tuple" ∨ n = "list" := by
    unfold tyName at hn
    simp only [Bool.or_eq_true, beq_iff_eq] at hn
    rcases hn with (((h | h) | h) | h) | h <;> simp [h]
  cases h with
  | non =>
    refine ⟨"NoneType", .base .non, ?_⟩
    rcases hn' with rfl | rfl | rfl | rfl | rfl <;> cases e <;> decide +kernel
  | bl k =>
    refine ⟨"bool", .base (.bl k), ?_⟩
    rcases hn' with rfl | rfl | rfl | rfl | rfl <;> cases e <;> decide +kernel
  | int k =>
    refine ⟨"int", .base (.int k), ?_⟩
    rcases hn' with rfl | rfl | rfl | rfl | rfl <;> cases e <;> decide +kernel
  | str k =>
    refine ⟨"str", .base (.str k), ?_⟩
    rcases hn' with rfl | rfl | rfl | rfl | rfl <;> cases e <;> decide +kernel
  | tup h1 h2 =>
    refine ⟨"tuple", ?_, ?_⟩
    · rcases h1.sq with (h1 | ⟨o, h1⟩) | ⟨o, its, n, h1, h3, _⟩
      · exact .base (.tup h1)
      · exact .fTuple h1
      · exact .kTuple h1 h3
    · rcases hn' with rfl | rfl | rfl | rfl | rfl <;> cases e <;> decide +kernel
  | ref hm =>
    simp only [clIs] at e
    split at e
    · rename_i xs0 hc0
      obtain ⟨c, hc⟩ := R.there hm
      refine ⟨"list", ?_, ?_⟩
      · have q := R.at_ _ _ _ hm hc
        cases c with
        | lst xs => exact .base (.lst q.choose_spec.1)
        | frz xs =>
          obtain ⟨vs, q, _⟩ := q
          rcases q with ⟨o, q⟩ | ⟨o, its, n, h1, h3, _⟩
          · exact .base (.frz q)
          · exact .kList h1 h3
        | dct kvs =>
          unfold Ip.cellL at hc0
          rw [hc] at hc0
          cases hc0
      · rcases hn' with rfl | rfl | rfl | rfl | rfl <;> cases e <;> decide +kernel
    · cases e
theorem se_isi (n : String) {p p2 : Pos} {x : Str} (hm : X.mg "isinstance" = none) (hm2 : X.mg x = none) (hv2 : bootBuiltins x = some (.type n)) (ha : SE T X ex W a ca) (hn : tyName n = true := by decide) (hg : Gl X "isinstance" := by rfl) (hg2 : Gl X x := by rfl)
    (hx : x ≠ "__name__" := by decide) (hxd : (x == ("__debug__" : Str)) = false := by decide) (he : starEach [a, .Name x p2] X.env = (false, eval a X.env) :: starEach [.Name x p2] X.env := by rfl) : SE T X ex W (.Call (.Name "isinstance" p) [a, .Name x p2] [] pos) (.isi ca [.ty n]) :=
  ⟨(pe_callB call_isi hg hm boot_isinstance (pa_cons ha.pe (pa_cons (pe_bltn (v := .ty n) hg2 hm2 hv2 rfl hx hxd) pa_nil) he) (by decide) (by decide) he rfl).imp fun σ H Q h => by
    obtain ⟨μ, r, s, R, L, h⟩ := h
    refine ⟨μ, r, s, R, L, h.bind.map fun μ1 H1 s1 d le1 R1 h1 v hv => ?_⟩
    simp only at h1
    split at h1
    · rename_i k hk
      obtain ⟨t, ht, hkt⟩ := tyX_of hn R1 hv hk
      exact ⟨v, .ty n, .type t, .type n, k, rfl, .ty n, ht, kit_ty hkt, h1.ok R1 _ (.bl k)⟩
    · exact h1.elim⟩

/-! ### xs.append(e) -/
theorem se_append {apos cpos : Pos} (ha : SE T X ex W a ca) (hb : SE T X ex W b cb) (hbase : attributeBase a "append" X.env (eval a X.env) = eval a X.env := by rfl)
    (hfew : ((backTo cpos (starEach [b] X.env)).all (fun x => !x.1) && (backToKw cpos (keywordEach [] X.env)).all (fun x => x.1.isSome)
      && decide (([b] : List Expr).length + ([] : List Keyword).length + (if ([] : List Keyword).isEmpty then 0 else 1) < 30)) = true := by rfl)
    (hline : (apos.endLine == cpos.line) = true := by rfl) (hs : starEach [b] X.env = (false, eval b X.env) :: starEach [] X.env := by rfl) (hplain : (backTo cpos (starEach [] X.env)).any (·.1) = false := by rfl) :
    SE T X ex W (.Call (.Attribute a "append" apos) [b] [] cpos) (.meth .append ca (.cons cb .nil)) :=
  ⟨(pe_bm PySem.F.plainAttrs_list PySem.F.slot_list_append PySem.F.type_list_append mt_append ha.pe (pa_cons hb.pe pa_nil hs) hbase hfew hline hs hplain).imp fun σ H Q h => by
    obtain ⟨μ, r, s, R, L, h⟩ := h
    simp only [evE, evEs] at h
    cases hx : evE T.call T.G T.sub ca r s with
    | exc c s1 =>
      rw [hx] at h
      refine ⟨μ, r, s, R, L, ?_⟩
      rw [hx]
      exact h
    | stuck => rw [hx] at h; exact h.elim
    | ok x s1 =>
      rw [hx] at h
      refine ⟨μ, r, s, R, L, ?_⟩
      rw [hx]
      refine fun μ1 H1 le1 R1 v hv => ?_
      have h := h.later le1
      simp only [Res.bind] at h
      -- the receiver is a list
      cases hv with
      | @ref n a hm =>
        refine ⟨.inl ⟨rfl, ?_⟩, μ1, r, s1, R1, L.mono le1, ?_⟩
        · cases hc0 : cellL s1 n with
          | none => simp only [hc0] at h; exact h.elim
          | some xs0 =>
            obtain ⟨vs, q, _⟩ := R1.cellL hm hc0
            exact ⟨_, q⟩
        · cases hc0 : cellL s1 n with
          | none => simp only [hc0] at h; exact h.elim
          | some xs0 =>
          simp only [hc0] at h
          cases hy : evE T.call T.G T.sub cb r s1 with
          | exc c s2 => rw [hy] at h; exact h
          | stuck => rw [hy] at h; exact h.elim
          | ok y s2 =>
            rw [hy] at h
            refine fun μ2 H2 le2 R2 w hw => ?_
            have h := Go.later (K := X.K) h le2
            simp only [mtV] at h
            split at h
            · rename_i ys hc
              split at h
              · rename_i hz
                obtain ⟨vs, c1, c2, _⟩ := R2.at_ _ _ _ (le2.pre _ _ hm) hc
                refine ⟨a, vs, w, rfl, rfl, c1, by rw [c2.length]; exact hz, ?_⟩
                have q : VRs X.K μ2 H2 (vs ++ [w]) (ys ++ [y]) := c2.append (.cons hw .nil)
                have hz' : (ys ++ [y]).length ≤ sizeLine := by rw [List.length_append]; exact hz
                exact h μ2 _ (le_set c1) (R2.set (le2.pre _ _ hm) hc c1 q hz') _ .non
              · exact h.elim
            · exact h.elim
      | _ => exact h.elim⟩
end
end Ip
end PtIpExpr3
section PtIpStmt
set_option Elab.async false
set_option linter.all false
set_option maxRecDepth 100000
namespace Ip
open PySem PySem.Spec PyProof.Rows L2 RZ RT

/-! ### targets -/
def tG (T : Tb) (K : PySem.W.Frag) (ex : Option (Addr × Nat)) (c : CT) : TG := fun v σ H Q =>
  ∃ μ r s d, Rel K μ H s ∧ LR K ex μ H σ r ∧ VR K μ H v d ∧ Go K μ H (evT T.call T.G T.sub c d r s) (fun _ _ => False) (fun μ' H' _ r' => ∀ σ', LR K ex μ' H' σ' r' → Q σ' H')
def tGs (T : Tb) (K : PySem.W.Frag) (ex : Option (Addr × Nat)) (c : CTs) : TGs := fun vs σ H Q =>
  ∃ μ r s ds, Rel K μ H s ∧ LR K ex μ H σ r ∧ VRs K μ H vs ds ∧ Go K μ H (evTs T.call T.G T.sub c ds r s) (fun _ _ => False) (fun μ' H' _ r' => ∀ σ', LR K ex μ' H' σ' r' → Q σ' H')
structure SG (T : Tb) (X : Cx) (ex : Option (Addr × Nat)) (e : Expr) (c : CT) : Prop where
  pg : PG X e (tG T X.K ex c)
structure SGs (T : Tb) (X : Cx) (ex : Option (Addr × Nat)) (es : List Expr) (c : CTs) : Prop where
  pg : PGs X es (tGs T X.K ex c)
/-! ### what is walked -/
structure Wk (K : PySem.W.Frag) (J : It) (f : Src) (ds : List DV) (μ0 : List Addr) (H0 : Hp) : Prop where
  go : ∀ (i : Nat) (d : DV) (μ : List Addr) (H : Hp) (s : Store), Le K μ0 H0 μ H → Rel K μ H s → f.ok s → ds[i]? = some d → J.go i H ∧ ∀ x H', J.yld i H x H' → Le K μ H μ H' ∧ Rel K μ H' s ∧ VR K μ H' x d
  stop : ∀ (i : Nat) (μ : List Addr) (H : Hp) (s : Store), Le K μ0 H0 μ H → Rel K μ H s → f.ok s → ds.length ≤ i → J.stop i H
def tI (T : Tb) (K : PySem.W.Frag) (ex : Option (Addr × Nat)) (W : WX) (c : CI) : TI := fun σ H R =>
  ∃ μ r s, Rel K μ H s ∧ LR K ex μ H σ r ∧ Go K μ H (evI T.call T.G T.sub c r s) (fun c H' => ∀ C, T.cls c = some C → W (.ref C) none σ H') (fun μ' H' _ q => ∀ J, Wk K J q.1 q.2 μ' H' → R J H')
structure SI (T : Tb) (X : Cx) (ex : Option (Addr × Nat)) (W : WX) (tg e : Expr) (c : CI) : Prop where
  pi : PI X tg e (tI T X.K ex W c)
/-! ### statements -/
def GoS (T : Tb) (K : PySem.W.Frag) (ex : Option (Addr × Nat)) (W : WX) (μ : List Addr) (H : Hp) (o : Out) (D : Ends) : Prop := match o with
  | .nx r s => ∀ μ' H' σ', Le K μ H μ' H' → Rel K μ' H' s → LR K ex μ' H' σ' r → D.nx σ' H'
  | .rt v s => ∀ μ' H' u, Le K μ H μ' H' → Rel K μ' H' s → VR K μ' H' u v → D.rt u H'
  | .bk r s => ∀ μ' H' σ', Le K μ H μ' H' → Rel K μ' H' s → LR K ex μ' H' σ' r → D.bk σ' H'
  | .ct r s => ∀ μ' H' σ', Le K μ H μ' H' → Rel K μ' H' s → LR K ex μ' H' σ' r → D.ct σ' H'
  | .exc c r s => ∀ μ' H' σ', Le K μ H μ' H' → Rel K μ' H' s → LR K ex μ' H' σ' r → ∀ C, T.cls c = some C → W (.ref C) none σ' H'
  | .stuck => False
theorem GoS.later {T : Tb} {K : PySem.W.Frag} {ex : Option (Addr × Nat)} {W : WX} {μ μ' : List Addr} {H H' : Hp} {o : Out} {D : Ends} (h : GoS T K ex W μ H o D) (e : Le K μ H μ' H') : GoS T K ex W μ' H' o D := by
  cases o with
  | nx r s => exact fun μ2 H2 σ2 le R L => h μ2 H2 σ2 (e.trans le) R L
  | rt v s => exact fun μ2 H2 u le R L => h μ2 H2 u (e.trans le) R L
  | bk r s => exact fun μ2 H2 σ2 le R L => h μ2 H2 σ2 (e.trans le) R L
  | ct r s => exact fun μ2 H2 σ2 le R L => h μ2 H2 σ2 (e.trans le) R L
  | exc c r s => exact fun μ2 H2 σ2 le R L => h μ2 H2 σ2 (e.trans le) R L
  | stuck => exact h
def tS (T : Tb) (K : PySem.W.Frag) (ex : Option (Addr × Nat)) (W : WX) (c : CS) : TS := fun D σ H =>
  ∃ μ r s, Rel K μ H s ∧ LR K ex μ H σ r ∧ GoS T K ex W μ H (evS T.call T.G T.sub c r s) D
def tSs (T : Tb) (K : PySem.W.Frag) (ex : Option (Addr × Nat)) (W : WX) (c : CSs) : TS := fun D σ H =>
  ∃ μ r s, Rel K μ H s ∧ LR K ex μ H σ r ∧ GoS T K ex W μ H (evSs T.call T.G T.sub c r s) D
structure SS (T : Tb) (X : Cx) (ex : Option (Addr × Nat)) (W : WX) (st : Stmt) (c : CS) : Prop where
  ps : PS X st (tS T X.K ex W c)
structure SSs (T : Tb) (X : Cx) (ex : Option (Addr × Nat)) (W : WX) (st : List Stmt) (c : CSs) : Prop where
  ps : PSs X st (tSs T X.K ex W c)

section
variable {T : Tb} {X : Cx} {ex : Option (Addr × Nat)} {W : WX} {a b c e tg : Expr} {ca cb cc ce : CE} {pos : Pos} {es rest : List Expr} {ces : CEs} {ct : CT} {cts : CTs}

theorem sg_name (i : Nat) {x : Str} (hN : X.N.Nodup) (hi : X.N[i]? = some x := by rfl) (hx : L2.Loc X.env.scope x := by first | exact Or.inl rfl | exact Or.inr rfl) (hf : X.fn x = true ∨ X.env.scope.names.lookup x = some .local := by first | exact .inl rfl | exact .inr rfl) : SG T X ex (.Name x pos) (.name i) := ⟨(pg_name hN hi hx hf).imp fun v σ H Q h => by
  obtain ⟨μ, r, s, d, R, L, hv, h⟩ := h
  simp only [evT] at h
  split at h
  · exact h.ok R _ (L.set hv)
  · exact h.elim⟩
theorem sgs_nil : SGs T X ex [] .nil := ⟨pgs_nil.imp fun vs σ H Q h => by
  obtain ⟨μ, r, s, ds, R, L, hv, h⟩ := h
  cases hv with
  | nil => exact ⟨rfl, h.ok R _ L⟩
  | cons _ _ => exact h.elim⟩
theorem sgs_cons (h1 : SG T X ex e ct) (h2 : SGs T X ex es cts) (hs : (assignEach (e :: es) X.env).map (·.2) = assign e X.env :: (assignEach es X.env).map (·.2) := by rfl) : SGs T X ex (e :: es) (.cons ct cts) := ⟨(pgs_cons h1.pg h2.pg hs).imp fun vs σ H Q h => by
  obtain ⟨μ, r, s, ds, R, L, hv, h⟩ := h
  cases hv with
  | nil => exact h.elim
  | cons h3 h4 =>
    refine ⟨_, _, rfl, μ, r, s, _, R, L, h3, h.bind.map fun μ1 H1 s1 r1 le1 R1 q σ1 L1 => ⟨μ1, r1, s1, _, R1, L1, h4.mono le1, q⟩⟩⟩
mutual
theorem evT_noexc : ∀ (t : CT) (v : DV) (r : Loc) (s : Store) (c : Nat) (s' : Store), evT T.call T.G T.sub t v r s ≠ .exc c s'
  | .name i, v, r, s, c, s' => by
    simp only [evT]
    split <;> intro h <;> cases h
  | .tup ts, v, r, s, c, s' => by
    cases v with
    | tup xs => exact evTs_noexc ts xs r s c s'
    | ref l =>
      simp only [evT]
      split
      · exact evTs_noexc ts _ r s c s'
      · intro h; cases h
    | _ => intro h; cases h
  | .sub a b, v, r, s, c, s' => by
    simp only [evT]
    cases h1 : evE T.call T.G T.sub a r s with
    | ok x s1 =>
      simp only [Res.quiet, Res.bind]
      cases h2 : evE T.call T.G T.sub b r s1 with
      | ok y s2 =>
        simp only [Res.quiet, Res.bind, optR]
        cases setV x y v s2 <;> intro h <;> cases h
      | exc c s2 => intro h; cases h
      | stuck => intro h; cases h
    | exc c s1 => intro h; cases h
    | stuck => intro h; cases h
theorem evTs_noexc : ∀ (t : CTs) (v : List DV) (r : Loc) (s : Store) (c : Nat) (s' : Store), evTs T.call T.G T.sub t v r s ≠ .exc c s'
  | .nil, v, r, s, c, s' => by
    cases v <;> intro h <;> cases h
  | .cons t ts, v, r, s, c, s' => by
    cases v with
    | nil => intro h; cases h
    | cons x xs =>
      intro h
      simp only [evTs] at h
      cases h1 : evT T.call T.G T.sub t x r s with
      | ok r1 s1 =>
        rw [h1] at h
        exact evTs_noexc ts xs r1 s1 c s' h
      | exc d s1 => exact evT_noexc t x r s d s1 h1
      | stuck => rw [h1] at h; cases h
end
theorem sg_tup {k n : Nat} (hc : X.calm = true) (h : SGs T X ex es cts) (hlen : ∀ xs r s r' s', evTs T.call T.G T.sub cts xs r s = .ok r' s' → xs.length = n)
    (hn : (assignEach es X.env).length = n := by rfl) (hst : (assignEach es X.env).findIdx? (·.1) = none := by rfl) : SG T X ex (.Tuple es k pos) (.tup cts) :=
  ⟨⟨fun pins s0 σ H v u Q I rv h' => by
    obtain ⟨μ, r, s, d, R, L, hv, hg⟩ := h'
    have key : ∀ (vs : List V) (ds : List DV), VRs X.K μ H vs ds → Go X.K μ H (evTs T.call T.G T.sub cts ds r s) (fun _ _ => False) (fun μ' H' _ r' => ∀ σ', LR X.K ex μ' H' σ' r' → Q σ' H') → vs.length = n ∧ tGs T X.K ex cts vs σ H Q := fun vs ds hv hg => by
      refine ⟨?_, μ, r, s, ds, R, L, hv, hg⟩
      rw [hv.length]
      cases hm : evTs T.call T.G T.sub cts ds r s with
      | ok r' s' => exact hlen _ _ _ _ _ hm
      | exc c s' => exact absurd hm (evTs_noexc _ _ _ _ _ _)
      | stuck => rw [hm] at hg; exact hg.elim
    cases hv with
    | tup h1 h2 =>
      obtain ⟨k1, k2⟩ := key _ _ h2 hg
      exact (pg_tup hc h.pg hn hst).run pins s0 σ H _ u Q I rv ⟨_, _, rfl, h1.sq, k1, k2⟩
    | ref hm =>
      simp only [evT] at hg
      split at hg
      · rename_i xs hc'
        obtain ⟨vs, c1, c2⟩ := R.cellL hm hc'
        obtain ⟨k1, k2⟩ := key _ _ c2 hg
        exact (pg_lst hc h.pg hn hst).run pins s0 σ H _ u Q I rv ⟨_, _, rfl, c1, k1, k2⟩
      · exact hg.elim
    | _ => exact hg.elim⟩⟩

theorem lenT_nil : ∀ xs r s r' s', evTs T.call T.G T.sub .nil xs r s = .ok r' s' → xs.length = 0 := by
  intro xs r s r' s' h
  cases xs with
  | nil => rfl
  | cons _ _ => cases h
theorem lenT_cons {n : Nat} (hc : ∀ xs r s r' s', evTs T.call T.G T.sub cts xs r s = .ok r' s' → xs.length = n) : ∀ xs r s r' s', evTs T.call T.G T.sub (.cons ct cts) xs r s = .ok r' s' → xs.length = n + 1 := by
  intro xs r s r' s' h
  cases xs with
  | nil => cases h
  | cons x xs =>
    simp only [evTs] at h
    cases h1 : evT T.call T.G T.sub ct x r s with
    | ok r1 s1 =>
      rw [h1] at h
      rw [List.length_cons, hc _ _ _ _ _ h]
    | exc d s1 => rw [h1] at h; cases h
    | stuck => rw [h1] at h; cases h
theorem sg_sub (ha : SE T X ex (fun _ _ _ _ => False) a ca) (hb : SE T X ex (fun _ _ _ _ => False) b cb) (hs : ∀ v, assign (.Subscript a b pos) X.env v = (do
      let ov ← holding [v] (eval a X.env)
      let iv ← holding [v, ov] (eval b X.env)
      standAt pos
      holding [v, ov, iv] (setItem ov iv v)
      release [v, ov, iv] []) := by exact fun _ => rfl) : SG T X ex (.Subscript a b pos) (.sub ca cb) := ⟨(pg_sub ha.pe hb.pe set_list hs).imp fun v σ H Q h => by
  obtain ⟨μ, r, s, d, R, L, hv, h⟩ := h
  simp only [evT] at h
  cases h1 : evE T.call T.G T.sub ca r s with
  | exc c s1 => rw [h1] at h; exact h.elim
  | stuck => rw [h1] at h; exact h.elim
  | ok x s1 =>
    rw [h1] at h
    simp only [Res.quiet, Res.bind] at h
    refine ⟨μ, r, s, R, L, ?_⟩
    rw [h1]
    intro μ1 H1 le1 R1 o ho
    have h := h.later le1
    cases h2 : evE T.call T.G T.sub cb r s1 with
    | exc c s2 => rw [h2] at h; exact h.elim
    | stuck => rw [h2] at h; exact h.elim
    | ok y s2 =>
      rw [h2] at h
      simp only [Res.quiet, Res.bind] at h
      refine ⟨μ1, r, s1, R1, L.mono le1, ?_⟩
      rw [h2]
      intro μ2 H2 le2 R2 i hi
      have h := h.later le2
      have hv2 := (hv.mono le1).mono le2
      have hL := (L.mono le1).mono le2
      have ho2 := ho.mono le2
      clear ho
      cases ho2 with
      | @ref l pa hm =>
        cases hi with
        | int j =>
          simp only [setV] at h
          cases hc : s2[l]? with
          | none => rw [hc] at h; exact h.elim
          | some c =>
            rw [hc] at h
            cases c with
            | frz _ => exact h.elim
            | dct _ => exact h.elim
            | lst ys =>
              simp only at h
              cases hk : L2.ixN ys.length j with
              | none => rw [hk] at h; exact h.elim
              | some k =>
                rw [hk] at h
                obtain ⟨vs, c1, c2, c3⟩ := R2.at_ _ _ _ hm hc
                refine ⟨_, vs, j, k, rfl, rfl, c1, by rw [c2.length]; exact hk, ?_⟩
                exact h μ2 _ (le_set c1) (R2.set hm hc c1 (c2.set k hv2) (by rw [List.length_set]; exact c3)) σ (hL.mono (le_set c1))
        | _ => exact h.elim
      | _ => cases hi <;> exact h.elim⟩

/-! ### iterables -/
theorem wk_list {K : PySem.W.Frag} {a : Addr} {l : Nat} {xs : List DV} {μ0 : List Addr} {H0 : Hp} (hm : μ0[l]? = some a) : Wk K (Itl K a) (.cell l xs) xs μ0 H0 where
  go := fun i d μ H s le R hf hd => by
    obtain ⟨vs, c1, c2⟩ := R.cellL (le.pre _ _ hm) hf
    obtain ⟨v, hv, rv⟩ := c2.get hd
    refine ⟨⟨vs, v, c1, hv⟩, fun x H' hy => ?_⟩
    obtain ⟨rfl, hx⟩ := hy
    have e := hx vs c1
    rw [hv] at e
    cases e
    exact ⟨Le.refl, R, rv⟩
  stop := fun i μ H s le R hf hd => by
    obtain ⟨vs, c1, c2⟩ := R.cellL (le.pre _ _ hm) hf
    exact ⟨vs, c1, by rw [c2.length]; exact hd⟩
theorem wk_tup {K : PySem.W.Frag} {a : Addr} {vs : List V} {xs : List DV} {μ0 : List Addr} {H0 : Hp} (h1 : TupP K H0 a vs) (h2 : VRs K μ0 H0 vs xs) : Wk K (Itt K a) .free xs μ0 H0 where
  go := fun i d μ H s le R hf hd => by
    obtain ⟨v, hv, rv⟩ := (h2.mono le).get hd
    refine ⟨⟨vs, v, (le.tup _ _ h1).sq, hv⟩, fun x H' hy => ?_⟩
    obtain ⟨rfl, hx⟩ := hy
    have e := hx vs ((le.tup _ _ h1).sq)
    rw [hv] at e
    cases e
    exact ⟨Le.refl, R, rv⟩
  stop := fun i μ H s le R hf hd => ⟨vs, (le.tup _ _ h1).sq, by rw [h2.length]; exact hd⟩
theorem wk_str {K : PySem.W.Frag} {z : Str} {μ0 : List Addr} {H0 : Hp} : Wk K (Its z) .free (z.cps.toList.map fun c => .str ⟨#[c]⟩) μ0 H0 where
  go := fun i d μ H s le R hf hd => by
    rw [List.getElem?_map] at hd
    cases hc : z.cps.toList[i]? with
    | none => rw [hc] at hd; cases hd
    | some c =>
      rw [hc] at hd
      cases hd
      have hc' : z.cps[i]? = some c := by rw [← Array.getElem?_toList]; exact hc
      refine ⟨(Array.getElem?_eq_some_iff.mp hc').1, fun x H' hy => ?_⟩
      obtain ⟨rfl, c', e1, rfl⟩ := hy
      rw [hc'] at e1
      cases e1
      exact ⟨Le.refl, R, .str _⟩
  stop := fun i μ H s le R hf hd => by
    rw [List.length_map, Array.length_toList] at hd
    exact hd
theorem si_seq (ha : SE T X ex W a ca) : SI T X ex W tg a (.seq ca) := ⟨⟨fun pins s0 σ H R I h => by
  obtain ⟨μ, r, s, R0, L, h⟩ := h
  simp only [evI] at h
  cases hm : evE T.call T.G T.sub ca r s with
  | stuck => rw [hm] at h; exact h.elim
  | exc c s1 =>
    rw [hm] at h
    refine (pi_list (tg := tg) ha.pe).run pins s0 σ H R I ⟨μ, r, s, R0, L, ?_⟩
    rw [hm]
    exact h
  | ok x s1 =>
    rw [hm] at h
    simp only [Res.bind] at h
    cases x with
    | tup xs =>
      refine (pi_tup (tg := tg) ha.pe).run pins s0 σ H R I ⟨μ, r, s, R0, L, ?_⟩
      rw [hm]
      intro μ1 H1 le1 R1 v hv
      cases hv with
      | tup h1 h2 => exact ⟨_, rfl, ⟨_, h1.sq⟩, h μ1 H1 le1 R1 _ (wk_tup h1 h2)⟩
    | ref l =>
      simp only at h
      split at h
      · rename_i xs hc
        refine (pi_list (tg := tg) ha.pe).run pins s0 σ H R I ⟨μ, r, s, R0, L, ?_⟩
        rw [hm]
        intro μ1 H1 le1 R1 v hv
        cases hv with
        | ref q =>
          obtain ⟨vs, c1, _⟩ := R1.cellL q hc
          exact ⟨_, rfl, ⟨_, c1⟩, h μ1 H1 le1 R1 _ (wk_list q)⟩
      · exact h.elim
    | str z =>
      refine (pi_str (tg := tg) ha.pe).run pins s0 σ H R I ⟨μ, r, s, R0, L, ?_⟩
      rw [hm]
      intro μ1 H1 le1 R1 v hv
      cases hv with
      | str _ => exact ⟨z, rfl, h μ1 H1 le1 R1 _ wk_str⟩
    | _ => exact h.elim⟩⟩
theorem wk_range {K : PySem.W.Frag} {lo : Int} {n : Nat} {μ0 : List Addr} {H0 : Hp} : Wk K (Itr lo n) .free ((List.range n).map fun (i : Nat) => .int (lo + (i : Int))) μ0 H0 where
  go := fun i d μ H s le R hf hd => by
    rw [List.getElem?_map] at hd
    cases hc : (List.range n)[i]? with
    | none => rw [hc] at hd; cases hd
    | some c =>
      rw [hc] at hd
      cases hd
      have hi := (List.getElem?_eq_some_iff.mp hc).1
      have e : c = i := by
        rw [List.getElem?_eq_getElem hi, List.getElem_range] at hc
        exact (Option.some.inj hc).symm
      subst e
      rw [List.length_range] at hi
      refine ⟨hi, fun x H' hy => ?_⟩
      obtain ⟨rfl, rfl⟩ := hy
      exact ⟨Le.refl, R, .int _⟩
  stop := fun i μ H s le R hf hd => by
    rw [List.length_map, List.length_range] at hd
    exact hd
theorem si_range1 {p : Pos} (hm : X.mg "range" = none) (ha : SE T X ex W a ca) (hg : Gl X "range" := by rfl) (hs : starEach [a] X.env = [(false, eval a X.env)] := by rfl) : SI T X ex W tg (.Call (.Name "range" p) [a] [] pos) (.range1 ca) :=
  ⟨(pi_range1 hg hm (pa_cons ha.pe pa_nil hs) hs).imp fun σ H R h => by
    obtain ⟨μ, r, s, R0, L, h⟩ := h
    refine ⟨μ, r, s, R0, L, h.bind.map fun μ1 H1 s1 x le1 R1 h1 v hv => ?_⟩
    cases hv with
    | int n =>
      simp only at h1
      split at h1
      · rename_i hn
        exact ⟨n, rfl, hn.1, hn.2, h1.ok R1 _ wk_range⟩
      · exact h1.elim
    | _ => exact h1.elim⟩
theorem si_range2 {p : Pos} (hm : X.mg "range" = none) (ha : SE T X ex W a ca) (hb : SE T X ex W b cb) (hg : Gl X "range" := by rfl) (hs : starEach [a, b] X.env = [(false, eval a X.env), (false, eval b X.env)] := by rfl) (hs2 : starEach [b] X.env = [(false, eval b X.env)] := by rfl) :
    SI T X ex W tg (.Call (.Name "range" p) [a, b] [] pos) (.range2 ca cb) :=
  ⟨(pi_range2 hg hm (pa_cons ha.pe (pa_cons hb.pe pa_nil hs2) (by rw [hs, hs2])) hs hs2).imp fun σ H R h => by
    obtain ⟨μ, r, s, R0, L, h⟩ := h
    refine ⟨μ, r, s, R0, L, h.bind.map fun μ1 H1 s1 x le1 R1 h1 v hv => ?_⟩
    refine ⟨μ1, r, s1, R1, L.mono le1, h1.bind.map fun μ2 H2 s2 y le2 R2 h2 w hw => ?_⟩
    cases hv with
    | int m =>
      cases hw with
      | int n =>
        simp only at h2
        split at h2
        · rename_i hn
          exact ⟨m, n, rfl, ⟨hn.1.1, hn.1.2, hn.2.1, hn.2.2⟩, h2.ok R2 _ wk_range⟩
        · exact h2.elim
      | _ => exact h2.elim
    | _ => exact h2.elim⟩
theorem wk_rangeC {K : PySem.W.Frag} {lo c : Int} {n : Nat} {μ0 : List Addr} {H0 : Hp} : Wk K (Itc lo c n) .free ((List.range n).map fun (i : Nat) => .int (lo + (i : Int) * c)) μ0 H0 where
  go := fun i d μ H s le R hf hd => by
    rw [List.getElem?_map] at hd
    cases hc : (List.range n)[i]? with
    | none => rw [hc] at hd; cases hd
    | some c =>
      rw [hc] at hd
      cases hd
      have hi := (List.getElem?_eq_some_iff.mp hc).1
      have e : c = i := by
        rw [List.getElem?_eq_getElem hi, List.getElem_range] at hc
        exact (Option.some.inj hc).symm
      subst e
      rw [List.length_range] at hi
      refine ⟨hi, fun x H' hy => ?_⟩
      obtain ⟨rfl, rfl⟩ := hy
      exact ⟨Le.refl, R, .int _⟩
  stop := fun i μ H s le R hf hd => by
    rw [List.length_map, List.length_range] at hd
    exact hd
theorem si_range3 {c : Expr} {cc : CE} {p : Pos} (hm : X.mg "range" = none) (ha : SE T X ex W a ca) (hb : SE T X ex W b cb) (hc : SE T X ex W c cc) (hg : Gl X "range" := by rfl) (hs : starEach [a, b, c] X.env = (false, eval a X.env) :: starEach [b, c] X.env := by rfl) (hpl : (backTo pos (starEach [b, c] X.env)).any (·.1) = false := by rfl)
    (hs1 : starEach [b, c] X.env = (false, eval b X.env) :: starEach [c] X.env := by rfl) (hs2 : starEach [c] X.env = (false, eval c X.env) :: starEach [] X.env := by rfl) :
    SI T X ex W tg (.Call (.Name "range" p) [a, b, c] [] pos) (.range3 ca cb cc) :=
  ⟨(pi_range3 hg hm (pa_cons ha.pe (pa_cons hb.pe (pa_cons hc.pe pa_nil hs2) hs1) hs) hs hpl).imp fun σ H R h => by
    obtain ⟨μ, r, s, R0, L, h⟩ := h
    refine ⟨μ, r, s, R0, L, h.bind.map fun μ1 H1 s1 x le1 R1 h1 v hv => ?_⟩
    refine ⟨μ1, r, s1, R1, L.mono le1, h1.bind.map fun μ2 H2 s2 y le2 R2 h2 w hw => ?_⟩
    refine ⟨μ2, r, s2, R2, (L.mono le1).mono le2, h2.bind.map fun μ3 H3 s3 z le3 R3 h3 u hu => ?_⟩
    cases hv with
    | int m =>
      cases hw with
      | int n =>
        cases hu with
        | int d =>
          simp only at h3
          split at h3
          · rename_i hn
            obtain ⟨⟨q1, q2⟩, rfl⟩ := hn
            exact ⟨m, n, -1, _, rfl, .neg q1.1 q1.2 q2.1 q2.2, h3.ok R3 _ wk_rangeC⟩
          · exact h3.elim
        | _ => exact h3.elim
      | _ => exact h3.elim
    | _ => exact h3.elim⟩
theorem zip_get {α β : Type} : ∀ {xs : List α} {ys : List β} {i : Nat} {p : α × β}, (xs.zip ys)[i]? = some p → xs[i]? = some p.1 ∧ ys[i]? = some p.2
  | [], _, _, _, h => by simp at h
  | _ :: _, [], _, _, h => by simp at h
  | x :: xs, y :: ys, 0, p, h => by
    have e := Option.some.inj h
    subst e
    exact ⟨rfl, rfl⟩
  | x :: xs, y :: ys, i + 1, p, h => zip_get (xs := xs) (ys := ys) (i := i) h
theorem wk_rev {K : PySem.W.Frag} {a : Addr} {vs : List V} {xs : List DV} {μ0 : List Addr} {H0 : Hp} (h1 : TupP K H0 a vs) (h2 : VRs K μ0 H0 vs xs) : Wk K (ItvT K a vs.length) .free xs.reverse μ0 H0 where
  go := fun i d μ H s le R hf hd => by
    have hlt := (List.getElem?_eq_some_iff.mp hd).1
    rw [List.length_reverse] at hlt
    rw [List.getElem?_reverse hlt] at hd
    obtain ⟨v, hv, rv⟩ := (h2.mono le).get hd
    have hl := h2.length
    rw [← hl] at hv hlt
    refine ⟨⟨hlt, vs, v, (le.tup _ _ h1).sq, hv⟩, fun x H' hy => ?_⟩
    obtain ⟨rfl, hx⟩ := hy
    have e := hx vs ((le.tup _ _ h1).sq)
    rw [hv] at e
    cases e
    exact ⟨Le.refl, R, rv⟩
  stop := fun i μ H s le R hf hd => by
    rw [List.length_reverse, ← h2.length] at hd
    exact hd
theorem si_rev {p : Pos} (hm : X.mg "reversed" = none) (ha : SE T X ex W a ca) (hg : Gl X "reversed" := by rfl) (hs : starEach [a] X.env = (false, eval a X.env) :: starEach [] X.env := by rfl) : SI T X ex W tg (.Call (.Name "reversed" p) [a] [] pos) (.rev ca) :=
  ⟨(pi_revA hg hm ha.pe hs).imp fun σ H R h => by
    obtain ⟨μ, r, s, R0, L, h⟩ := h
    refine ⟨μ, r, s, R0, L, h.bind.map fun μ1 H1 s1 x le1 R1 h1 v hv => ?_⟩
    cases hv with
    | tup q1 q2 => exact ⟨_, _, rfl, .inr ⟨q1.sq, h1.ok R1 _ (wk_rev q1 q2)⟩⟩
    | _ => exact h1.elim⟩
end
end Ip
end PtIpStmt
section PtIpStmt2
set_option Elab.async false
set_option linter.all false
set_option maxRecDepth 100000
namespace Ip
open PySem PySem.Spec PyProof.Rows L2

section
variable {T : Tb} {X : Cx} {ex : Option (Addr × Nat)} {W : WX} {a b c e tg : Expr} {ca cb cc ce : CE} {pos : Pos} {es rest : List Expr} {ct : CT} {ci : CI} {st : Stmt} {sts sts2 : List Stmt} {cs : CS} {css css2 : CSs}

theorem sss_nil : SSs T X ex W [] .nil := ⟨pss_nil.imp fun D σ H h => by
  obtain ⟨μ, r, s, R, L, h⟩ := h
  exact h μ H σ Le.refl R L⟩
theorem sss_cons (h1 : SS T X ex W st cs) (h2 : SSs T X ex W sts css) : SSs T X ex W (st :: sts) (.cons cs css) := ⟨(pss_cons h1.ps h2.ps).imp fun D σ H h => by
  obtain ⟨μ, r, s, R, L, h⟩ := h
  refine ⟨μ, r, s, R, L, ?_⟩
  simp only [evSs] at h
  cases hm : evS T.call T.G T.sub cs r s with
  | nx r1 s1 =>
    rw [hm] at h
    exact fun μ' H' σ' le R' L' => ⟨μ', r1, s1, R', L', GoS.later (o := evSs T.call T.G T.sub css r1 s1) h le⟩
  | rt v s1 => rw [hm] at h; exact h
  | bk r1 s1 => rw [hm] at h; exact h
  | ct r1 s1 => rw [hm] at h; exact h
  | exc c r1 s1 => rw [hm] at h; exact h
  | stuck => rw [hm] at h; exact h⟩
theorem ss_asg (he : SE T X ex W e ce) (hg : SG T X ex tg ct) (hs : swapsWithSole [tg] e pos.line X.env = pure false := by rfl) (hw : swappedStores [tg] e X.env = pure none := by rfl)
    (h1 : (assignEach [tg] X.env).map (·.2) = [assign tg X.env] := by rfl) : SS T X ex W (.Assign [tg] e pos) (.asg ct ce) := ⟨(ps_asg he.pe hg.pg hs hw h1).imp fun D σ H h => by
  obtain ⟨μ, r, s, R, L, h⟩ := h
  refine ⟨μ, r, s, R, L, ?_⟩
  simp only [evS] at h
  cases hm : evE T.call T.G T.sub ce r s with
  | ok v s1 =>
    rw [hm] at h
    simp only [Res.out] at h
    intro μ1 H1 le1 R1 x hx
    refine ⟨μ1, r, s1, v, R1, L.mono le1, hx, ?_⟩
    cases hn : evT T.call T.G T.sub ct v r s1 with
    | ok r2 s2 =>
      rw [hn] at h
      exact fun μ2 H2 le2 R2 σ2 L2 => h μ2 H2 σ2 (le1.trans le2) R2 L2
    | exc c s2 => exact absurd hn (evT_noexc _ _ _ _ _ _)
    | stuck => rw [hn] at h; exact h
  | exc c s1 =>
    rw [hm] at h
    exact fun μ' H' le R' => h μ' H' σ le R' (L.mono le)
  | stuck => rw [hm] at h; exact h⟩
theorem ss_par {i j : Nat} {x y : Str} {px py pt : Pos} {kt k2 : Nat} {pt2 : Pos} (hc : X.calm = true) (hN : X.N.Nodup) (ha : SE T X ex W a ca) (hb : SE T X ex W b cb) (hi : X.N[i]? = some x := by rfl) (hj : X.N[j]? = some y := by rfl) (hij : i ≠ j := by decide)
    (hx : X.env.scope.names.lookup x = some .local := by rfl) (hy : X.env.scope.names.lookup y = some .local := by rfl) (hst : starEach [a, b] X.env = (false, eval a X.env) :: starEach [b] X.env := by rfl) (hst2 : starEach [b] X.env = (false, eval b X.env) :: starEach [] X.env := by rfl)
    (hw : swappedStores [.Tuple [.Name x px, .Name y py] kt pt] (.Tuple [a, b] k2 pt2) X.env = pure (some [x, y]) := by rfl)
    (hs : swapsWithSole [.Tuple [.Name x px, .Name y py] kt pt] (.Tuple [a, b] k2 pt2) pos.line X.env = pure false := by rfl) :
    SS T X ex W (.Assign [.Tuple [.Name x px, .Name y py] kt pt] (.Tuple [a, b] k2 pt2) pos) (.par i j ca cb) := ⟨(ps_par hc hN hi hj hij hx hy (pa_cons ha.pe (pa_cons hb.pe pa_nil hst2) hst) hw hs).imp fun D σ H h => by
  obtain ⟨μ, r, s, R, L, h⟩ := h
  refine ⟨μ, r, s, R, L, ?_⟩
  simp only [evS] at h
  cases hm : evE T.call T.G T.sub ca r s with
  | ok v s1 =>
    rw [hm] at h
    simp only [Res.out] at h
    intro μ1 H1 le1 R1 x1 hx1
    refine ⟨μ1, r, s1, R1, L.mono le1, ?_⟩
    cases hn : evE T.call T.G T.sub cb r s1 with
    | ok w s2 =>
      rw [hn] at h
      simp only at h
      split at h
      · exact fun μ2 H2 le2 R2 y1 hy1 => ⟨x1, y1, rfl, h μ2 H2 _ (le1.trans le2) R2 ((((L.mono le1).mono le2).set (hx1.mono le2)).set hy1)⟩
      · exact h.elim
    | exc c s2 =>
      rw [hn] at h
      exact fun μ' H' le R' => h μ' H' σ (le1.trans le) R' ((L.mono le1).mono le)
    | stuck => rw [hn] at h; exact h
  | exc c s1 =>
    rw [hm] at h
    exact fun μ' H' le R' => h μ' H' σ le R' (L.mono le)
  | stuck => rw [hm] at h; exact h⟩
/-! ### op= of ints -/
def rA (K : PySem.W.Frag) (op : BOp) : R2 := fun x y H Q => ∃ μ s d e Wn, Rel K μ H s ∧ VR K μ H x d ∧ VR K μ H y e ∧ Go K μ H (augV op d e s) Wn (fun μ' H' _ z => ∀ v, VR K μ' H' v z → Q v H')
theorem iop_sound (op : BOp) (ho : op = .add ∨ op = .sub) : PIp X (bopOf op) (rA X.K op) := by
  intro pins s σ H x y v u Q I rx ry h
  obtain ⟨μ, s0, d, e, Wn, R, hx, hy, h⟩ := h
  rcases ho with rfl | rfl
  · cases hx with
    | int i =>
      cases hy with
      | int j => exact iop_add pins s σ H _ _ v u Q I rx ry ⟨i, j, rfl, rfl, h.ok R _ (.int _)⟩
      | _ => exact h.elim
    | str i =>
      cases hy with
      | str j =>
        simp only [augV] at h
        split at h
        · rename_i hm
          exact iop_add_str pins s σ H _ _ v u Q I rx ry ⟨i, j, rfl, rfl, hm, h.ok R _ (.str _)⟩
        · exact h.elim
      | _ => exact h.elim
    | _ => cases hy <;> exact h.elim
  · cases hx with
    | int i =>
      cases hy with
      | int j => exact iop_sub pins s σ H _ _ v u Q I rx ry ⟨i, j, rfl, rfl, h.ok R _ (.int _)⟩
      | _ => exact h.elim
    | _ => cases hy <;> exact h.elim
theorem ss_aug (i : Nat) (op : BOp) {x : Str} {pos' : Pos} (hN : X.N.Nodup) (ho : op = .add ∨ op = .sub) (he : SE T X ex W e ce) (hi : X.N[i]? = some x := by rfl) (hx : L2.Loc X.env.scope x := by first | exact Or.inl rfl | exact Or.inr rfl)
    (hf : X.fn x = true ∨ X.env.scope.names.lookup x = some .local := by first | exact .inl rfl | exact .inr rfl) : SS T X ex W (.AugAssign (.Name x pos') (bopOf op) e pos) (.aug i op ce) := ⟨(ps_aug hN hi hx he.pe (iop_sound op ho) hf).imp fun D σ H h => by
  obtain ⟨μ, r, s, R, L, h⟩ := h
  simp only [evS] at h
  cases hr : r[i]? with
  | none => rw [hr] at h; exact h.elim
  | some o =>
    rw [hr] at h
    cases o with
    | none => exact h.elim
    | some d =>
      rcases L.at_ i d hr with ⟨v, h1, h2⟩ | ⟨_, c, h1, _⟩
      · refine ⟨v, h1, μ, r, s, R, L, ?_⟩
        have h' : GoS T X.K ex W μ H ((evE T.call T.G T.sub ce r s).out r fun y s => (augV op d y s).out r fun z s => .nx (r.set i (some z)) s) D := by
          cases h2 <;> exact h
        clear h
        cases hm : evE T.call T.G T.sub ce r s with
        | ok y s1 =>
          rw [hm] at h'
          simp only [Res.out] at h'
          intro μ1 H1 le1 R1 w hw
          refine ⟨μ1, s1, d, y, fun _ _ => False, R1, h2.mono le1, hw, ?_⟩
          cases hn : augV op d y s1 with
          | ok z s2 =>
            rw [hn] at h'
            exact fun μ2 H2 le2 R2 u hu => h' μ2 H2 _ (le1.trans le2) R2 (((L.mono le1).mono le2).set hu)
          | exc c s2 =>
            exfalso
            unfold augV at hn
            split at hn <;> (try split at hn) <;> cases hn
          | stuck => rw [hn] at h'; exact h'
        | exc c s1 =>
          rw [hm] at h'
          exact fun μ' H' le R' => h' μ' H' σ le R' (L.mono le)
        | stuck => rw [hm] at h'; exact h'
      · subst h1
        exact h.elim⟩
theorem ss_if (hc : ST T X ex W c cc) (ha : SSs T X ex W sts css) (hb : SSs T X ex W sts2 css2) : SS T X ex W (.If c sts sts2 pos) (.ife cc css css2) := ⟨(ps_if hc.pt ha.ps hb.ps).imp fun D σ H h => by
  obtain ⟨μ, r, s, R, L, h⟩ := h
  refine ⟨μ, r, s, R, L, ?_⟩
  simp only [evS] at h
  cases hm : evE T.call T.G T.sub cc r s with
  | ok v s1 =>
    rw [hm] at h
    simp only [Res.out, Res.bind] at h ⊢
    cases ht : truth v s1 with
    | ok k s2 =>
      rw [ht] at h
      intro μ1 H1 le1 R1
      cases k with
      | true => exact ⟨μ1, r, s2, R1, L.mono le1, GoS.later (o := evSs T.call T.G T.sub css r s2) h le1⟩
      | false => exact ⟨μ1, r, s2, R1, L.mono le1, GoS.later (o := evSs T.call T.G T.sub css2 r s2) h le1⟩
    | exc c s2 => exact absurd ht truth_noexc
    | stuck => rw [ht] at h; exact h.elim
  | exc c s1 =>
    rw [hm] at h
    exact fun μ' H' le R' => h μ' H' σ le R' (L.mono le)
  | stuck => rw [hm] at h; exact h⟩
theorem ss_ret (he : SE T X ex W e ce) : SS T X ex W (.Return (some e) pos) (.ret ce) := ⟨(ps_ret he.pe).imp fun D σ H h => by
  obtain ⟨μ, r, s, R, L, h⟩ := h
  refine ⟨μ, r, s, R, L, ?_⟩
  simp only [evS] at h
  cases hm : evE T.call T.G T.sub ce r s with
  | ok v s1 =>
    rw [hm] at h
    exact fun μ' H' le R' u hu => h μ' H' u le R' hu
  | exc c s1 =>
    rw [hm] at h
    exact fun μ' H' le R' => h μ' H' σ le R' (L.mono le)
  | stuck => rw [hm] at h; exact h⟩
theorem ss_retN : SS T X ex W (.Return none pos) .retN := ⟨ps_retN.imp fun D σ H h => by
  obtain ⟨μ, r, s, R, L, h⟩ := h
  exact h μ H .non Le.refl R .non⟩
theorem ss_drop (he : SE T X ex W e ce) (hs : swapsWith e none pos.line X.env = pure false := by rfl) : SS T X ex W (.Expr e pos) (.drop ce) := ⟨(ps_expr he.pe hs).imp fun D σ H h => by
  obtain ⟨μ, r, s, R, L, h⟩ := h
  refine ⟨μ, r, s, R, L, ?_⟩
  simp only [evS] at h
  cases hm : evE T.call T.G T.sub ce r s with
  | ok v s1 =>
    rw [hm] at h
    exact fun μ' H' le R' u hu => h μ' H' σ le R' (L.mono le)
  | exc c s1 =>
    rw [hm] at h
    exact fun μ' H' le R' => h μ' H' σ le R' (L.mono le)
  | stuck => rw [hm] at h; exact h⟩
theorem ss_pass : SS T X ex W (.Pass pos) .pass := ⟨ps_pass.imp fun D σ H h => by
  obtain ⟨μ, r, s, R, L, h⟩ := h
  exact h μ H σ Le.refl R L⟩
theorem ss_brk : SS T X ex W (.Break pos) .brk := ⟨ps_break.imp fun D σ H h => by
  obtain ⟨μ, r, s, R, L, h⟩ := h
  exact h μ H σ Le.refl R L⟩
theorem ss_cont : SS T X ex W (.Continue pos) .cont := ⟨ps_continue.imp fun D σ H h => by
  obtain ⟨μ, r, s, R, L, h⟩ := h
  exact h μ H σ Le.refl R L⟩

/-! ### loops -/
theorem for_sound {J : It} {f : Src} {ds : List DV} {μ0 : List Addr} {H0 : Hp} {g : TG} {tb : TS} {D : Ends} {body : DV → Loc → Store → Out} {σ : L2.St} {r : Loc} {s : Store} (K : PySem.W.Frag) (wk : Wk K J f ds μ0 H0)
    (hb : ∀ (D' : Ends) (μ : List Addr) (H : Hp) (σ : L2.St) (r : Loc) (s : Store) (x : V) (d : DV), Rel K μ H s → LR K ex μ H σ r → VR K μ H x d → GoS T K ex W μ H (body d r s) D' → g x σ H fun σ2 H2 => tb D' σ2 H2)
    (R : Rel K μ0 H0 s) (L : LR K ex μ0 H0 σ r) (h : GoS T K ex W μ0 H0 (forL f body ds r s) D) :
    ∃ Wv : Nat → Nat → L2.St → Hp → Prop, (∃ m, Wv 0 m σ H0) ∧ ∀ i m σ H, Wv i m σ H →
      (J.stop i H ∧ D.nx σ H) ∨ (J.go i H ∧ ∃ N : L2.St → Hp → Prop, (∀ σ' H', N σ' H' → ∃ m', m' < m ∧ Wv (i + 1) m' σ' H') ∧ ∀ x H', J.yld i H x H' → g x σ H' fun σ2 H2 => tb { D with nx := N, ct := N, bk := D.nx } σ2 H2) := by
  refine ⟨fun i m σ H => m = ds.length - i ∧ i ≤ ds.length ∧ ∃ μ r s, Le K μ0 H0 μ H ∧ Rel K μ H s ∧ LR K ex μ H σ r ∧ GoS T K ex W μ H (forL f body (ds.drop i) r s) D, ⟨_, rfl, Nat.zero_le _, μ0, r, s, Le.refl, R, L, h⟩, ?_⟩
  rintro i m σ H ⟨rfl, hi, μ, r, s, le, R, L, h⟩
  by_cases hlt : i < ds.length
  · refine .inr ?_
    have hd : ds[i]? = some ds[i] := List.getElem?_eq_getElem hlt
    rw [List.drop_eq_getElem_cons hlt] at h
    simp only [forL] at h
    split at h
    · rename_i hf
      obtain ⟨g1, g2⟩ := wk.go i _ μ H s le R hf hd
      refine ⟨g1, fun σ' H' => ∃ μ r s, Le K μ0 H0 μ H' ∧ Rel K μ H' s ∧ LR K ex μ H' σ' r ∧ GoS T K ex W μ H' (forL f body (ds.drop (i + 1)) r s) D, fun σ' H' hN => ⟨_, by omega, rfl, hlt, hN⟩, fun x H' hy => ?_⟩
      obtain ⟨l2, R2, rx⟩ := g2 x H' hy
      refine hb _ μ H' σ r s x _ R2 (L.mono l2) rx ?_
      cases hm : body ds[i] r s with
      | nx r1 s1 =>
        rw [hm] at h
        exact fun μ' H2 σ' le' R' L' => ⟨μ', r1, s1, (le.trans l2).trans le', R', L', GoS.later (o := forL f body (ds.drop (i + 1)) r1 s1) h (l2.trans le')⟩
      | ct r1 s1 =>
        rw [hm] at h
        exact fun μ' H2 σ' le' R' L' => ⟨μ', r1, s1, (le.trans l2).trans le', R', L', GoS.later (o := forL f body (ds.drop (i + 1)) r1 s1) h (l2.trans le')⟩
      | bk r1 s1 =>
        rw [hm] at h
        exact GoS.later (o := .nx r1 s1) h l2
      | rt v s1 =>
        rw [hm] at h
        exact GoS.later (o := .rt v s1) h l2
      | exc c r1 s1 =>
        rw [hm] at h
        exact GoS.later (o := .exc c r1 s1) h l2
      | stuck => rw [hm] at h; exact h
    · exact h.elim
  · refine .inl ?_
    have e : i = ds.length := by omega
    subst e
    rw [List.drop_length] at h
    simp only [forL] at h
    split at h
    · rename_i hf
      exact ⟨wk.stop _ μ H s le R hf (Nat.le_refl _), h μ H σ Le.refl R L⟩
    · exact h.elim
theorem ss_for {iter : Expr} (hp : PassesOwn (model X.prog X.w) X.A X.env X.xe) (hc : X.calm = true) (hi : SI T X ex W tg iter ci) (hg : SG T X ex tg ct) (hb : SSs T X ex W sts css)
    (hs : ∀ x, foldedSetIterable iter X.env x = pure x := by intro _; rfl) : SS T X ex W (.For tg iter sts [] pos) (.for_ ct ci css) := ⟨(ps_for hp hc hi.pi hg.pg hb.ps hs).imp fun D σ H h => by
  obtain ⟨μ, r, s, R, L, h⟩ := h
  simp only [evS] at h
  refine ⟨μ, r, s, R, L, ?_⟩
  cases hm : evI T.call T.G T.sub ci r s with
  | ok q s1 =>
    rw [hm] at h
    intro μ1 H1 le1 R1 J wk
    refine for_sound (T := T) (ex := ex) (W := W) X.K wk (fun D' μ H σ r s x d R L hx h => ?_) R1 (L.mono le1) (GoS.later h le1)
    refine ⟨μ, r, s, d, R, L, hx, ?_⟩
    cases hn : evT T.call T.G T.sub ct d r s with
    | ok r2 s2 =>
      rw [hn] at h
      exact fun μ2 H2 le2 R2 σ2 L2 => ⟨μ2, r2, s2, R2, L2, GoS.later (o := evSs T.call T.G T.sub css r2 s2) h le2⟩
    | exc c s2 => exact absurd hn (evT_noexc _ _ _ _ _ _)
    | stuck => rw [hn] at h; exact h
  | exc c s1 =>
    rw [hm] at h
    exact fun μ' H' le R' => h μ' H' σ le R' (L.mono le)
  | stuck => rw [hm] at h; exact h⟩
theorem ss_while (hp : PassesOwn (model X.prog X.w) X.A X.env X.xe) (hc : ST T X ex W c cc) (hb : SSs T X ex W sts css) : SS T X ex W (.While c sts [] pos) (.while_ cc css) := ⟨(ps_while hp hc.pt hb.ps).imp fun D σ H h => by
  obtain ⟨μ, r, s, R, L, h⟩ := h
  simp only [evS] at h
  refine ⟨fun m σ H => ∃ μ r s, Rel X.K μ H s ∧ LR X.K ex μ H σ r ∧ GoS T X.K ex W μ H (whileL (fun r s => (evE T.call T.G T.sub cc r s).bind fun x s => truth x s) (fun r s => evSs T.call T.G T.sub css r s) m r s) D, ⟨turns, μ, r, s, R, L, h⟩, ?_⟩
  rintro m σ H ⟨μ, r, s, R, L, h⟩
  cases m with
  | zero => exact h.elim
  | succ m =>
    refine ⟨μ, r, s, R, L, ?_⟩
    simp only [whileL] at h
    cases hm : (evE T.call T.G T.sub cc r s).bind fun x s => truth x s with
    | ok k s1 =>
      rw [hm] at h
      simp only [Res.out] at h
      intro μ1 H1 le1 R1
      cases k with
      | true =>
        refine ⟨fun σ' H' => ∃ μ r s, Rel X.K μ H' s ∧ LR X.K ex μ H' σ' r ∧ GoS T X.K ex W μ H' (whileL (fun r s => (evE T.call T.G T.sub cc r s).bind fun x s => truth x s) (fun r s => evSs T.call T.G T.sub css r s) m r s) D, fun σ' H' hN => ⟨m, Nat.lt_succ_self m, hN⟩, μ1, r, s1, R1, L.mono le1, ?_⟩
        simp only [cond] at h
        cases hn : evSs T.call T.G T.sub css r s1 with
        | nx r2 s2 =>
          rw [hn] at h
          exact fun μ2 H2 σ2 le2 R2 L2 => ⟨μ2, r2, s2, R2, L2, GoS.later (o := whileL _ _ m r2 s2) h (le1.trans le2)⟩
        | ct r2 s2 =>
          rw [hn] at h
          exact fun μ2 H2 σ2 le2 R2 L2 => ⟨μ2, r2, s2, R2, L2, GoS.later (o := whileL _ _ m r2 s2) h (le1.trans le2)⟩
        | bk r2 s2 =>
          rw [hn] at h
          exact GoS.later (o := .nx r2 s2) h le1
        | rt v s2 =>
          rw [hn] at h
          exact GoS.later (o := .rt v s2) h le1
        | exc c r2 s2 =>
          rw [hn] at h
          exact GoS.later (o := .exc c r2 s2) h le1
        | stuck => rw [hn] at h; exact h
      | false =>
        simp only [cond] at h ⊢
        exact h μ1 H1 σ le1 R1 (L.mono le1)
    | exc c s1 =>
      rw [hm] at h
      exact fun μ' H' le R' => h μ' H' σ le R' (L.mono le)
    | stuck => rw [hm] at h; exact h⟩
end

/-! ### defs -/
theorem VRs.start {K : PySem.W.Frag} {μ : List Addr} {H : Hp} {vs : List V} {ds : List DV} {N : List Str} (h : VRs K μ H vs ds) (hl : ds.length ≤ N.length) : LR K none μ H (L2.start N vs) (Ip.start N.length ds) := by
  have e := h.length
  refine ⟨?_, fun i d hd => .inl ?_⟩
  · unfold L2.start Ip.start
    rw [List.length_append, List.length_append, List.length_map, List.length_map, List.length_replicate, List.length_replicate, e]
  · unfold Ip.start at hd
    unfold L2.start
    rw [List.getElem?_append] at hd ⊢
    rw [List.length_map] at hd ⊢
    rw [e]
    split at hd
    · rename_i hi
      rw [if_pos hi]
      rw [List.getElem?_map] at hd ⊢
      cases hc : ds[i]? with
      | none => rw [hc] at hd; cases hd
      | some d' =>
        rw [hc] at hd
        cases hd
        obtain ⟨v, hv, rv⟩ := h.get hc
        exact ⟨v, by rw [hv]; rfl, rv⟩
    · rw [List.getElem?_replicate] at hd
      split at hd <;> cases hd
/-- the def number f by its body -/
theorem fn_ok {P : Program} {w : World} {K : PySem.W.Frag} {mg : Str → Option Value} {base : Heap} {x : Str} {st : Stmt} {ad : Addr} {fd : FuncData} {N ps : List Str} {k f : Nat} {D : Nat → Option Def} {G : Nat → Option DV} {sub : Nat → Nat → Bool} {cls : Nat → Option Addr} {body : CSs}
    (F : Fun K x x st ad fd) (S : FnScope N ps (defScope st)) (hd : D f = some ⟨N.length, ps.length, body⟩) (hle : ps.length ≤ N.length)
    (hbody : ∀ (cdv : Value) (A : Around) (outer : List Env) (s : Shared) (H : Hp) (E : XK), Room k (A.deeper (envOfC x (defScope st) s.heap.objs.size ad cdv)) →
      SSs ⟨callAt D G sub k, G, sub, cls⟩ (cxOf (L2.CX P w) P w K mg base N x (defScope st) ad cdv A outer s H E) none (fun c d _ H => E c d H) (defBody st) body) :
    FnOk P w K mg base (L2.CX P w) (k + 1) ad fd ps (spC ⟨callAt D G sub (k + 1), G, sub, cls⟩ K f ps.length) := by
  refine F.okX S (fun vs H Q E h => ?_) (fun cdv A outer s H vs Q E hr h => ?_)
  · obtain ⟨μ, s0, ds, R, hv, hl, _⟩ := h
    rw [hv.length, hl]
  · obtain ⟨μ, s0, ds, R, hv, hl, h⟩ := h
    refine ⟨_, (hbody cdv A outer s H E hr).ps, μ, Ip.start N.length ds, s0, R, hv.start (by rw [hl]; exact hle), ?_⟩
    simp only [callAt, hd] at h
    rw [if_pos hl] at h
    unfold Out.fin at h
    cases hm : evSs (callAt D G sub k) G sub body (Ip.start N.length ds) s0 with
    | nx r1 s1 =>
      rw [hm] at h
      exact fun μ' H' σ' le R' L' => h μ' H' le R' _ .non
    | rt v s1 =>
      rw [hm] at h
      exact fun μ' H' u le R' hu => h μ' H' le R' u hu
    | bk r1 s1 => rw [hm] at h; exact h.elim
    | ct r1 s1 => rw [hm] at h; exact h.elim
    | exc c r1 s1 =>
      rw [hm] at h
      exact fun μ' H' σ' le R' L' => h μ' H' le R'
    | stuck => rw [hm] at h; exact h

/-! ### the law -/
theorem fn_zero {P : Program} {w : World} {K : PySem.W.Frag} {mg : Str → Option Value} {base : Heap} {CX : CXT} {ad : Addr} {fd : FuncData} {ps : List Str} {f np : Nat} {D : Nat → Option Def} {G : Nat → Option DV} {sub : Nat → Nat → Bool} {cls : Nat → Option Addr} :
    FnOk P w K mg base CX 0 ad fd ps (spC ⟨callAt D G sub 0, G, sub, cls⟩ K f np) :=
  ⟨fun vs H Q E ⟨_, _, _, _, _, _, h⟩ => h.elim, fun _ _ _ _ _ _ _ _ _ _ _ _ _ ⟨_, _, _, _, _, _, h⟩ => h.elim⟩
theorem ints_vrs {K : PySem.W.Frag} {μ : List Addr} {H : Hp} : ∀ ns : List Int, VRs K μ H (ns.map V.int) (ns.map DV.int)
  | [] => .nil
  | n :: ns => .cons (.int n) (ints_vrs ns)
/-- the law's promise from the small machine's run -/
theorem law_sp {K : PySem.W.Frag} {H : Hp} {a : Addr} {ns : List Int} {T : Tb} {f : Nat} (hl : ns.length ≤ 63) (ho : Only H) (h : SqL K H a (ns.map V.int))
    (run : ∃ s', T.call f [.ref 0] [.frz (ns.map DV.int)] = .ok (.bl true) s') : spC T K f 1 [.ref a] H (fun v _ => v = .bl true) fun _ _ _ => False := by
  obtain ⟨s', run⟩ := run
  refine ⟨[a], [.frz (ns.map DV.int)], [.ref 0], ⟨rfl, fun n m b xs ys h1 h2 h3 h4 => ?_, fun n b c h1 h2 => ?_⟩, .cons (.ref rfl) .nil, rfl, ?_⟩
  · cases n with
    | zero => cases h3
    | succ n => simp at h3
  · cases n with
    | zero =>
      cases h1
      cases h2
      refine ⟨ns.map V.int, ?_, ints_vrs ns, by rw [List.length_map]; exact Nat.le_trans hl (by decide)⟩
      rcases h with (h | ⟨o, h⟩) | h
      · rcases ho a with q | ⟨o, xs, q⟩
        · rw [q] at h; cases h
        · rw [q] at h; cases h
      · exact .inl ⟨o, h⟩
      · exact .inr h
    | succ n => simp at h2
  · rw [run]
    exact fun μ' H' le R v hv => by
      cases hv
      rfl
theorem cx_none {P : Program} {w : World} {H : Hp} {s : Shared} {e : Value} {s' : Shared} (h : L2.CX P w [] H s (fun _ _ _ => False) e s') : False := by
  obtain ⟨_, _, _, _, _, _, _, _, _, _, _, _, z⟩ := h
  exact z
end Ip
end PtIpStmt2
section PtIpEqs
set_option Elab.async false
set_option linter.all false
set_option maxRecDepth 100000
set_option autoImplicit true
/-! the equations of the small machine, one a construct -/
namespace Ip
open PySem
theorem nr {α : Type} {a b : α} (h : a = b) : a = b := by
  cases h
  exact Eq.refl a
theorem qE_slot {call : Nat → List DV → Store → Res DV} {G : Nat → Option DV} {sub : Nat → Nat → Bool} {i r s} : evE call G sub (.slot i) r s = match r[i]? with
      | some (some (.exc _)) => .stuck
      | some (some v) => .ok v s
      | _ => .stuck := nr rfl
theorem qE_isx {call : Nat → List DV → Store → Res DV} {G : Nat → Option DV} {sub : Nat → Nat → Bool} {i c r s} : evE call G sub (.isx i c) r s = match r[i]? with
      | some (some (.exc d)) => match c with
        | .own c => .ok (.bl (sub d c)) s
        | .ty n => if n = "ValueError" then .ok (.bl true) s else .stuck
      | _ => .stuck := nr rfl
theorem qE_k {call : Nat → List DV → Store → Res DV} {G : Nat → Option DV} {sub : Nat → Nat → Bool} {c u0 s} : evE call G sub (.k c) u0 s = .ok c.dv s := nr rfl
theorem qE_glob {call : Nat → List DV → Store → Res DV} {G : Nat → Option DV} {sub : Nat → Nat → Bool} {g u0 s} : evE call G sub (.glob g) u0 s = match G g with
      | some v => .ok v s
      | none => .stuck := nr rfl
theorem qE_bin {call : Nat → List DV → Store → Res DV} {G : Nat → Option DV} {sub : Nat → Nat → Bool} {op a b r s} : evE call G sub (.bin op a b) r s = (evE call G sub a r s).bind fun x s => (evE call G sub b r s).bind fun y s => binV op x y s := nr rfl
theorem qE_neg {call : Nat → List DV → Store → Res DV} {G : Nat → Option DV} {sub : Nat → Nat → Bool} {a r s} : evE call G sub (.neg a) r s = (evE call G sub a r s).bind fun x s => match x with
      | .int i => .ok (.int (-i)) s
      | _ => .stuck := nr rfl
theorem qE_not {call : Nat → List DV → Store → Res DV} {G : Nat → Option DV} {sub : Nat → Nat → Bool} {a r s} : evE call G sub (.not a) r s = (evE call G sub a r s).bind fun x s => (truth x s).bind fun b s => .ok (.bl (!b)) s := nr rfl
theorem qE_and {call : Nat → List DV → Store → Res DV} {G : Nat → Option DV} {sub : Nat → Nat → Bool} {a b r s} : evE call G sub (.and a b) r s = (evE call G sub a r s).bind fun x s => (truth x s).bind fun c s => cond c (evE call G sub b r s) (.ok x s) := nr rfl
theorem qE_or {call : Nat → List DV → Store → Res DV} {G : Nat → Option DV} {sub : Nat → Nat → Bool} {a b r s} : evE call G sub (.or a b) r s = (evE call G sub a r s).bind fun x s => (truth x s).bind fun c s => cond c (.ok x s) (evE call G sub b r s) := nr rfl
theorem qE_cmp {call : Nat → List DV → Store → Res DV} {G : Nat → Option DV} {sub : Nat → Nat → Bool} {op a b r s} : evE call G sub (.cmp op a b) r s = (evE call G sub a r s).bind fun x s => (evE call G sub b r s).bind fun y s => (cmpV op x y s).bind fun c s => .ok (.bl c) s := nr rfl
theorem qE_chain {call : Nat → List DV → Store → Res DV} {G : Nat → Option DV} {sub : Nat → Nat → Bool} {op op2 a b c r s} : evE call G sub (.chain op op2 a b c) r s = (evE call G sub a r s).bind fun x s => (evE call G sub b r s).bind fun y s => (cmpV op x y s).bind fun k s =>
        cond k ((evE call G sub c r s).bind fun z s => (cmpV op2 y z s).bind fun k s => .ok (.bl k) s) (.ok (.bl false) s) := nr rfl
theorem qE_ife {call : Nat → List DV → Store → Res DV} {G : Nat → Option DV} {sub : Nat → Nat → Bool} {t a b r s} : evE call G sub (.ife t a b) r s = (evE call G sub t r s).bind fun x s => (truth x s).bind fun c s => cond c (evE call G sub a r s) (evE call G sub b r s) := nr rfl
theorem qE_ix {call : Nat → List DV → Store → Res DV} {G : Nat → Option DV} {sub : Nat → Nat → Bool} {a b r s} : evE call G sub (.ix a b) r s = (evE call G sub a r s).bind fun x s => (evE call G sub b r s).bind fun y s => itemV x y s := nr rfl
theorem qE_slc {call : Nat → List DV → Store → Res DV} {G : Nat → Option DV} {sub : Nat → Nat → Bool} {a lo hi r s} : evE call G sub (.slc a lo hi) r s = (evE call G sub a r s).bind fun x s => (evO call G sub lo r s).bind fun l s => (evO call G sub hi r s).bind fun h s => sliceV x l h s := nr rfl
theorem qE_rev {call : Nat → List DV → Store → Res DV} {G : Nat → Option DV} {sub : Nat → Nat → Bool} {a r s} : evE call G sub (.rev a) r s = (evE call G sub a r s).bind fun x s => match x with
      | .ref l => match cellL s l with
        | some xs => .ok (.ref s.length) (s ++ [.lst xs.reverse])
        | none => .stuck
      | _ => .stuck := nr rfl
theorem qE_tup {call : Nat → List DV → Store → Res DV} {G : Nat → Option DV} {sub : Nat → Nat → Bool} {es r s} : evE call G sub (.tup es) r s = (evEs call G sub es r s).bind fun xs s => if xs.length ≤ sizeLine then .ok (.tup xs) s else .stuck := nr rfl
theorem qE_lst {call : Nat → List DV → Store → Res DV} {G : Nat → Option DV} {sub : Nat → Nat → Bool} {es r s} : evE call G sub (.lst es) r s = (evEs call G sub es r s).bind fun xs s => if xs.length ≤ sizeLine then .ok (.ref s.length) (s ++ [.lst xs]) else .stuck := nr rfl
theorem qE_call {call : Nat → List DV → Store → Res DV} {G : Nat → Option DV} {sub : Nat → Nat → Bool} {f es r s} : evE call G sub (.call f es) r s = (evEs call G sub es r s).bind fun xs s => call f xs s := nr rfl
theorem qE_bi {call : Nat → List DV → Store → Res DV} {G : Nat → Option DV} {sub : Nat → Nat → Bool} {b es r s} : evE call G sub (.bi b es) r s = (evEs call G sub es r s).bind fun xs s => biV b xs s := nr rfl
theorem qE_isi {call : Nat → List DV → Store → Res DV} {G : Nat → Option DV} {sub : Nat → Nat → Bool} {a cs r s} : evE call G sub (.isi a cs) r s = (evE call G sub a r s).bind fun x s => match cs with
      | [c] => match clIs x s c with
        | some b => .ok (.bl b) s
        | none => .stuck
      | _ => .stuck := nr rfl
theorem qE_meth {call : Nat → List DV → Store → Res DV} {G : Nat → Option DV} {sub : Nat → Nat → Bool} {m o es r s} : evE call G sub (.meth m o es) r s = (evE call G sub o r s).bind fun x s => match x with
      | .ref l => match cellL s l with
        | some _ => (evEs call G sub es r s).bind fun xs s => mtV m (.ref l) xs s
        | none => .stuck
      | _ => .stuck := nr rfl
theorem qE_lc {call : Nat → List DV → Store → Res DV} {G : Nat → Option DV} {sub : Nat → Nat → Bool} {t it ifs e own r s} : evE call G sub (.lc t it ifs e own) r s = (evI call G sub it r s).bind fun q s => lcL s.length q.1
        (fun x s => (evT call G sub t x (wipe r own) s).bind fun r s => (evAll call G sub ifs r s).bind fun b s => cond b ((evE call G sub e r s).bind fun v s => .ok (some v) s) (.ok none s)) q.2 (s ++ [.lst []]) := nr rfl
theorem qE_smeth {call : Nat → List DV → Store → Res DV} {G : Nat → Option DV} {sub : Nat → Nat → Bool} {m o es r s} : evE call G sub (.smeth m o es) r s = (evE call G sub o r s).bind fun x s => match x with
      | .str z => (evEs call G sub es r s).bind fun xs s => smV m z xs s
      | _ => .stuck := nr rfl
theorem qE_get2 {call : Nat → List DV → Store → Res DV} {G : Nat → Option DV} {sub : Nat → Nat → Bool} {d k x r s} : evE call G sub (.get2 d k x) r s = (evE call G sub d r s).bind fun y s => match y with
      | .ref l => match s[l]? with
        | some (.dct _) => (evE call G sub k r s).bind fun z s => (evE call G sub x r s).bind fun w s => match s[l]? with
          | some (.dct kvs) => optR (key? z) fun k => .ok ((getD kvs k).getD w) s
          | _ => .stuck
        | _ => .stuck
      | _ => .stuck := nr rfl
theorem qEs_nil {call : Nat → List DV → Store → Res DV} {G : Nat → Option DV} {sub : Nat → Nat → Bool} {u0 s} : evEs call G sub (.nil) u0 s = .ok [] s := nr rfl
theorem qEs_cons {call : Nat → List DV → Store → Res DV} {G : Nat → Option DV} {sub : Nat → Nat → Bool} {e es r s} : evEs call G sub (.cons e es) r s = (evE call G sub e r s).bind fun x s => (evEs call G sub es r s).bind fun xs s => .ok (x :: xs) s := nr rfl
theorem qAll_nil {call : Nat → List DV → Store → Res DV} {G : Nat → Option DV} {sub : Nat → Nat → Bool} {u0 s} : evAll call G sub (.nil) u0 s = .ok true s := nr rfl
theorem qAll_cons {call : Nat → List DV → Store → Res DV} {G : Nat → Option DV} {sub : Nat → Nat → Bool} {e es r s} : evAll call G sub (.cons e es) r s = (evE call G sub e r s).bind fun x s => (truth x s).bind fun c s => cond c (evAll call G sub es r s) (.ok false s) := nr rfl
theorem qO_no {call : Nat → List DV → Store → Res DV} {G : Nat → Option DV} {sub : Nat → Nat → Bool} {u0 s} : evO call G sub (.no) u0 s = .ok none s := nr rfl
theorem qO_some {call : Nat → List DV → Store → Res DV} {G : Nat → Option DV} {sub : Nat → Nat → Bool} {e r s} : evO call G sub (.some e) r s = (evE call G sub e r s).bind fun x s => match x with
      | .int i => .ok (some i) s
      | _ => .stuck := nr rfl
theorem qI_seq {call : Nat → List DV → Store → Res DV} {G : Nat → Option DV} {sub : Nat → Nat → Bool} {e r s} : evI call G sub (.seq e) r s = (evE call G sub e r s).bind fun x s => match x with
      | .tup xs => .ok (.free, xs) s
      | .ref l => match cellL s l with
        | some xs => .ok (.cell l xs, xs) s
        | none => .stuck
      | .str z => .ok (.free, z.cps.toList.map fun c => .str ⟨#[c]⟩) s
      | _ => .stuck := nr rfl
theorem qI_range1 {call : Nat → List DV → Store → Res DV} {G : Nat → Option DV} {sub : Nat → Nat → Bool} {a r s} : evI call G sub (.range1 a) r s = (evE call G sub a r s).bind fun x s => match x with
      | .int n => if -(2 ^ 62) ≤ n ∧ n < 2 ^ 62 then .ok (.free, (List.range n.toNat).map fun (i : Nat) => .int (0 + (i : Int))) s else .stuck
      | _ => .stuck := nr rfl
theorem qI_range2 {call : Nat → List DV → Store → Res DV} {G : Nat → Option DV} {sub : Nat → Nat → Bool} {a b r s} : evI call G sub (.range2 a b) r s = (evE call G sub a r s).bind fun x s => (evE call G sub b r s).bind fun y s => match x, y with
      | .int m, .int n => if (-(2 ^ 62) ≤ m ∧ m < 2 ^ 62) ∧ -(2 ^ 62) ≤ n ∧ n < 2 ^ 62 then .ok (.free, (List.range (n - m).toNat).map fun (i : Nat) => .int (m + (i : Int))) s else .stuck
      | _, _ => .stuck := nr rfl
theorem qI_range3 {call : Nat → List DV → Store → Res DV} {G : Nat → Option DV} {sub : Nat → Nat → Bool} {a b c r s} : evI call G sub (.range3 a b c) r s = (evE call G sub a r s).bind fun x s => (evE call G sub b r s).bind fun y s => (evE call G sub c r s).bind fun z s => match x, y, z with
      | .int m, .int n, .int d => if ((-(2 ^ 62) ≤ m ∧ m < 2 ^ 62) ∧ -(2 ^ 62) ≤ n ∧ n < 2 ^ 62) ∧ d = -1 then .ok (.free, (List.range (m - n).toNat).map fun (i : Nat) => .int (m + (i : Int) * -1)) s else .stuck
      | _, _, _ => .stuck := nr rfl
theorem qI_zip {call : Nat → List DV → Store → Res DV} {G : Nat → Option DV} {sub : Nat → Nat → Bool} {a b r s} : evI call G sub (.zip a b) r s = (evE call G sub a r s).bind fun x s => (evE call G sub b r s).bind fun y s => match x, y with
      | .tup xs, .tup ys => .ok (.free, (xs.zip ys).map fun p => .tup [p.1, p.2]) s
      | _, _ => .stuck := nr rfl
theorem qI_enum {call : Nat → List DV → Store → Res DV} {G : Nat → Option DV} {sub : Nat → Nat → Bool} {a r s} : evI call G sub (.enum a) r s = .stuck := nr rfl
theorem qI_rev {call : Nat → List DV → Store → Res DV} {G : Nat → Option DV} {sub : Nat → Nat → Bool} {a r s} : evI call G sub (.rev a) r s = (evE call G sub a r s).bind fun x s => match x with
      | .tup xs => .ok (.free, xs.reverse) s
      | _ => .stuck := nr rfl
theorem qT_name {call : Nat → List DV → Store → Res DV} {G : Nat → Option DV} {sub : Nat → Nat → Bool} {i v r s} : evT call G sub (.name i) v r s = if i < r.length then .ok (r.set i (some v)) s else .stuck := nr rfl
theorem qT_tup {call : Nat → List DV → Store → Res DV} {G : Nat → Option DV} {sub : Nat → Nat → Bool} {ts v r s} : evT call G sub (.tup ts) v r s = match v with
      | .tup xs => evTs call G sub ts xs r s
      | .ref l => match cellL s l with
        | some xs => evTs call G sub ts xs r s
        | none => .stuck
      | _ => .stuck := nr rfl
theorem qT_sub {call : Nat → List DV → Store → Res DV} {G : Nat → Option DV} {sub : Nat → Nat → Bool} {a b v r s} : evT call G sub (.sub a b) v r s = (evE call G sub a r s).quiet.bind fun x s => (evE call G sub b r s).quiet.bind fun y s => optR (setV x y v s) fun s => .ok r s := nr rfl
theorem qTs_nil {call : Nat → List DV → Store → Res DV} {G : Nat → Option DV} {sub : Nat → Nat → Bool} {xs r s} : evTs call G sub (.nil) xs r s = match xs with
      | [] => .ok r s
      | _ :: _ => .stuck := nr rfl
theorem qTs_cons {call : Nat → List DV → Store → Res DV} {G : Nat → Option DV} {sub : Nat → Nat → Bool} {t ts xs r s} : evTs call G sub (.cons t ts) xs r s = match xs with
      | x :: xs => (evT call G sub t x r s).bind fun r s => evTs call G sub ts xs r s
      | [] => .stuck := nr rfl
theorem qS_asg {call : Nat → List DV → Store → Res DV} {G : Nat → Option DV} {sub : Nat → Nat → Bool} {t e r s} : evS call G sub (.asg t e) r s = (evE call G sub e r s).out r fun v s => (evT call G sub t v r s).out r fun r s => .nx r s := nr rfl
theorem qS_par {call : Nat → List DV → Store → Res DV} {G : Nat → Option DV} {sub : Nat → Nat → Bool} {i j a b r s} : evS call G sub (.par i j a b) r s = (evE call G sub a r s).out r fun x s => (evE call G sub b r s).out r fun y s => if i < r.length ∧ j < r.length then .nx ((r.set i (some x)).set j (some y)) s else .stuck := nr rfl
theorem qS_aug {call : Nat → List DV → Store → Res DV} {G : Nat → Option DV} {sub : Nat → Nat → Bool} {i op e r s} : evS call G sub (.aug i op e) r s = match r[i]? with
      | some (some (.exc _)) => .stuck
      | some (some x) => (evE call G sub e r s).out r fun y s => (augV op x y s).out r fun z s => .nx (r.set i (some z)) s
      | _ => .stuck := nr rfl
theorem qS_ife {call : Nat → List DV → Store → Res DV} {G : Nat → Option DV} {sub : Nat → Nat → Bool} {c a b r s} : evS call G sub (.ife c a b) r s = (evE call G sub c r s).out r fun x s => (truth x s).out r fun c s => cond c (evSs call G sub a r s) (evSs call G sub b r s) := nr rfl
theorem qS_for {call : Nat → List DV → Store → Res DV} {G : Nat → Option DV} {sub : Nat → Nat → Bool} {t it b r s} : evS call G sub (.for_ t it b) r s = (evI call G sub it r s).out r fun q s => forL q.1 (fun x r s => (evT call G sub t x r s).out r fun r s => evSs call G sub b r s) q.2 r s := nr rfl
theorem qS_while {call : Nat → List DV → Store → Res DV} {G : Nat → Option DV} {sub : Nat → Nat → Bool} {c b r s} : evS call G sub (.while_ c b) r s = whileL (fun r s => (evE call G sub c r s).bind fun x s => truth x s) (fun r s => evSs call G sub b r s) turns r s := nr rfl
theorem qS_ret {call : Nat → List DV → Store → Res DV} {G : Nat → Option DV} {sub : Nat → Nat → Bool} {e r s} : evS call G sub (.ret e) r s = (evE call G sub e r s).out r fun v s => .rt v s := nr rfl
theorem qS_retN {call : Nat → List DV → Store → Res DV} {G : Nat → Option DV} {sub : Nat → Nat → Bool} {u0 s} : evS call G sub (.retN) u0 s = .rt .non s := nr rfl
theorem qS_drop {call : Nat → List DV → Store → Res DV} {G : Nat → Option DV} {sub : Nat → Nat → Bool} {e r s} : evS call G sub (.drop e) r s = (evE call G sub e r s).out r fun _ s => .nx r s := nr rfl
theorem qS_pass {call : Nat → List DV → Store → Res DV} {G : Nat → Option DV} {sub : Nat → Nat → Bool} {r s} : evS call G sub (.pass) r s = .nx r s := nr rfl
theorem qS_brk {call : Nat → List DV → Store → Res DV} {G : Nat → Option DV} {sub : Nat → Nat → Bool} {r s} : evS call G sub (.brk) r s = .bk r s := nr rfl
theorem qS_cont {call : Nat → List DV → Store → Res DV} {G : Nat → Option DV} {sub : Nat → Nat → Bool} {r s} : evS call G sub (.cont) r s = .ct r s := nr rfl
theorem qS_raise {call : Nat → List DV → Store → Res DV} {G : Nat → Option DV} {sub : Nat → Nat → Bool} {c r s} : evS call G sub (.raise c) r s = .exc c r s := nr rfl
theorem qS_try {call : Nat → List DV → Store → Res DV} {G : Nat → Option DV} {sub : Nat → Nat → Bool} {b c i h r s} : evS call G sub (.try_ b c i h) r s = (evSs call G sub b r s).catch fun d r s => cond (sub d c) (match i with
        | none => (evSs call G sub h r s).hush
        | some i => (evSs call G sub h (r.set i (some (.exc d))) s).unset i) (.exc d r s) := nr rfl
theorem qS_pick {call : Nat → List DV → Store → Res DV} {G : Nat → Option DV} {sub : Nat → Nat → Bool} {i e kvs es r s} : evS call G sub (.pick i e kvs es) r s = (evE call G sub e r s).out r fun x s => match x with
      | .str z => match kvs.lookup z with
        | some f => if i < r.length then ((evEs call G sub es (r.set i none) s).bind fun xs s => call f xs s).out (r.set i none) fun v s => .rt v s else .stuck
        | none => .stuck
      | _ => .stuck := nr rfl
theorem qSs_nil {call : Nat → List DV → Store → Res DV} {G : Nat → Option DV} {sub : Nat → Nat → Bool} {r s} : evSs call G sub (.nil) r s = .nx r s := nr rfl
theorem qSs_cons {call : Nat → List DV → Store → Res DV} {G : Nat → Option DV} {sub : Nat → Nat → Bool} {st ss r s} : evSs call G sub (.cons st ss) r s = (evS call G sub st r s).then fun r s => evSs call G sub ss r s := nr rfl
end Ip
end PtIpEqs
section PtIpMath
set_option Elab.async false
set_option linter.all false
set_option maxRecDepth 100000
namespace Ip
open PySem
section
variable {α β : Type}
theorem bind_ok {a : α} {s : Store} {f : α → Store → Res β} : (Res.ok a s).bind f = f a s := rfl
theorem bind_exc {c : Nat} {s : Store} {f : α → Store → Res β} : (Res.exc c s : Res α).bind f = .exc c s := rfl
theorem out_ok {a : α} {s : Store} {r : Loc} {f : α → Store → Out} : (Res.ok a s).out r f = f a s := rfl
theorem out_exc {c : Nat} {s : Store} {r : Loc} {f : α → Store → Out} : (Res.exc c s : Res α).out r f = .exc c r s := rfl
theorem then_nx {r : Loc} {s : Store} {f : Loc → Store → Out} : (Out.nx r s).then f = f r s := rfl
theorem then_rt {v : DV} {s : Store} {f : Loc → Store → Out} : (Out.rt v s).then f = .rt v s := rfl
theorem then_exc {c : Nat} {r : Loc} {s : Store} {f : Loc → Store → Out} : (Out.exc c r s).then f = .exc c r s := rfl
theorem then_bk {r : Loc} {s : Store} {f : Loc → Store → Out} : (Out.bk r s).then f = .bk r s := rfl
theorem then_ct {r : Loc} {s : Store} {f : Loc → Store → Out} : (Out.ct r s).then f = .ct r s := rfl
end
/-! only the first place is looked into: what follows waits. A place on whose value a later place's type hangs is not looked into by simp without dsimp; so what waits is held by such a place. -/
def Hold {α : Type} (_ : α) : Type := Unit
def Hold2 {α β : Type} (_ : α) (_ : β) : Type := Unit
section
variable {α β : Type}
def bindK (m : Res α) (f : α → Store → Res β) (_ : Hold f) : Res β := m.bind f
def outK (m : Res α) (r : Loc) (f : α → Store → Out) (_ : Hold f) : Out := m.out r f
def thenK (m : Out) (f : Loc → Store → Out) (_ : Hold f) : Out := m.then f
def condK (c : Bool) (a b : α) (_ : Hold2 a b) : α := cond c a b
def optRK (o : Option α) (f : α → Res β) (_ : Hold f) : Res β := optR o f
noncomputable def forLK (f : Src) (b : DV → Loc → Store → Out) (l : List DV) (r : Loc) (s : Store) (_ : Hold b) : Out := forL f b l r s
noncomputable def lcLK (p : Nat) (f : Src) (b : DV → Store → Res (Option DV)) (l : List DV) (s : Store) (_ : Hold b) : Res DV := lcL p f b l s
noncomputable def whileLK (t : Loc → Store → Res Bool) (b : Loc → Store → Out) (n : Nat) (r : Loc) (s : Store) (_ : Hold2 t b) : Out := whileL t b n r s
def catchK (m : Out) (f : Nat → Loc → Store → Out) (_ : Hold f) : Out := m.catch f
theorem catch_K {m : Out} {f : Nat → Loc → Store → Out} : m.catch f = catchK m f () := nr rfl
theorem catchK_nx {r : Loc} {s : Store} {f : Nat → Loc → Store → Out} : catchK (.nx r s) f () = .nx r s := nr rfl
theorem catchK_rt {v : DV} {s : Store} {f : Nat → Loc → Store → Out} : catchK (.rt v s) f () = .rt v s := nr rfl
theorem catchK_exc {c : Nat} {r : Loc} {s : Store} {f : Nat → Loc → Store → Out} : catchK (.exc c r s) f () = f c r s := nr rfl
theorem unset_rt {v : DV} {s : Store} {i : Nat} : (Out.rt v s).unset i = .rt v s := nr rfl
theorem hush_rt {v : DV} {s : Store} : (Out.rt v s).hush = .rt v s := nr rfl
theorem hush_nx {r : Loc} {s : Store} : (Out.nx r s).hush = .nx r s := nr rfl
theorem hush_ct {r : Loc} {s : Store} : (Out.ct r s).hush = .ct r s := nr rfl
theorem bind_K {m : Res α} {f : α → Store → Res β} : m.bind f = bindK m f () := nr rfl
theorem out_K {m : Res α} {r : Loc} {f : α → Store → Out} : m.out r f = outK m r f () := nr rfl
theorem then_K {m : Out} {f : Loc → Store → Out} : m.then f = thenK m f () := nr rfl
theorem cond_K {c : Bool} {a b : α} : cond c a b = condK c a b () := nr rfl
theorem optR_K {o : Option α} {f : α → Res β} : optR o f = optRK o f () := nr rfl
theorem forL_K {f : Src} {b : DV → Loc → Store → Out} {l : List DV} {r : Loc} {s : Store} : forL f b l r s = forLK f b l r s () := nr rfl
theorem lcL_K {p : Nat} {f : Src} {b : DV → Store → Res (Option DV)} {l : List DV} {s : Store} : lcL p f b l s = lcLK p f b l s () := nr rfl
theorem whileL_K {t : Loc → Store → Res Bool} {b : Loc → Store → Out} {n : Nat} {r : Loc} {s : Store} : whileL t b n r s = whileLK t b n r s () := nr rfl
theorem bindK_ok {a : α} {s : Store} {f : α → Store → Res β} : bindK (.ok a s) f () = f a s := nr rfl
theorem outK_ok {a : α} {s : Store} {r : Loc} {f : α → Store → Out} : outK (.ok a s) r f () = f a s := nr rfl
theorem bindK_exc {c : Nat} {s : Store} {f : α → Store → Res β} : bindK (.exc c s) f () = .exc c s := nr rfl
theorem outK_exc {c : Nat} {s : Store} {r : Loc} {f : α → Store → Out} : outK (.exc c s) r f () = .exc c r s := nr rfl
theorem thenK_nx {r : Loc} {s : Store} {f : Loc → Store → Out} : thenK (.nx r s) f () = f r s := nr rfl
theorem thenK_rt {v : DV} {s : Store} {f : Loc → Store → Out} : thenK (.rt v s) f () = .rt v s := nr rfl
theorem thenK_exc {c : Nat} {r : Loc} {s : Store} {f : Loc → Store → Out} : thenK (.exc c r s) f () = .exc c r s := nr rfl
theorem thenK_bk {r : Loc} {s : Store} {f : Loc → Store → Out} : thenK (.bk r s) f () = .bk r s := nr rfl
theorem thenK_ct {r : Loc} {s : Store} {f : Loc → Store → Out} : thenK (.ct r s) f () = .ct r s := nr rfl
theorem condK_t {a b : α} : condK true a b () = a := nr rfl
theorem condK_f {a b : α} : condK false a b () = b := nr rfl
theorem optRK_some {a : α} {f : α → Res β} : optRK (some a) f () = f a := nr rfl
theorem cond_t {a b : α} : cond true a b = a := rfl
theorem cond_f {a b : α} : cond false a b = b := rfl
theorem optR_some {a : α} {f : α → Res β} : optR (some a) f = f a := rfl
theorem quiet_ok {a : α} {s : Store} : (Res.ok a s).quiet = .ok a s := rfl
end
theorem dv_int {i : Int} : (Kc.int i).dv = .int i := nr rfl
theorem dv_bl {b : Bool} : (Kc.bl b).dv = .bl b := nr rfl
theorem dv_str {x : Str} : (Kc.str x).dv = .str x := nr rfl
theorem dv_non : Kc.non.dv = .non := nr rfl
theorem fin_rt {v : DV} {s : Store} : (Out.rt v s).fin = .ok v s := rfl
theorem fin_nx {r : Loc} {s : Store} : (Out.nx r s).fin = .ok .non s := rfl
theorem fin_exc {c : Nat} {r : Loc} {s : Store} : (Out.exc c r s).fin = .exc c s := rfl
theorem itemV_ref {n : Nat} {i : Int} {s : Store} : itemV (.ref n) (.int i) s = optR (cellL s n) fun xs => optR (L2.atI xs i) fun v => .ok v s := rfl
theorem itemV_tup {xs : List DV} {i : Int} {s : Store} : itemV (.tup xs) (.int i) s = optR (L2.atI xs i) fun v => .ok v s := rfl
theorem at_0 {α : Type} {a : α} {l : List α} : L2.atI (a :: l) 0 = some a := by simp [L2.atI, L2.ixN]
theorem at_1 {α : Type} {a b : α} {l : List α} : L2.atI (a :: b :: l) 1 = some b := by
  have : (1 : Int) < ((a :: b :: l).length : Int) := by simp only [List.length_cons]; omega
  unfold L2.atI L2.ixN
  rw [if_pos (by decide), if_pos this]
  rfl
theorem at_2 {α : Type} {a b c : α} {l : List α} : L2.atI (a :: b :: c :: l) 2 = some c := by
  have : (2 : Int) < ((a :: b :: c :: l).length : Int) := by simp only [List.length_cons]; omega
  unfold L2.atI L2.ixN
  rw [if_pos (by decide), if_pos this]
  rfl
theorem at_3 {α : Type} {a b c d : α} {l : List α} : L2.atI (a :: b :: c :: d :: l) 3 = some d := by
  have : (3 : Int) < ((a :: b :: c :: d :: l).length : Int) := by simp only [List.length_cons]; omega
  unfold L2.atI L2.ixN
  rw [if_pos (by decide), if_pos this]
  rfl
theorem setV_4 {s : Store} {n : Nat} {a b c d v : DV} (h : s[n]? = some (.lst [a, b, c, d])) :
    setV (.ref n) (.int 1) v s = some (s.set n (.lst [a, v, c, d])) ∧ setV (.ref n) (.int 2) v s = some (s.set n (.lst [a, b, v, d])) ∧ setV (.ref n) (.int 3) v s = some (s.set n (.lst [a, b, c, v])) := by
  refine ⟨?_, ?_, ?_⟩ <;> simp only [setV, h] <;> rfl
theorem deq_int {i j : Int} : deq (.int i) (.int j) = (i == j) := rfl
theorem cmpable_int {i : Int} : cmpable (.int i) = true := rfl
theorem cmp_eq_int {i j : Int} {s : Store} : cmpV .eq (.int i) (.int j) s = .ok (i == j) s := rfl
theorem cmp_ne_int {i j : Int} {s : Store} : cmpV .ne (.int i) (.int j) s = .ok (!(i == j)) s := rfl
theorem cmp_lt_int {i j : Int} {s : Store} : cmpV .lt (.int i) (.int j) s = .ok (decide (i < j)) s := rfl
theorem cmp_le_int {i j : Int} {s : Store} : cmpV .le (.int i) (.int j) s = .ok (decide (i ≤ j)) s := rfl
theorem cmp_gt_int {i j : Int} {s : Store} : cmpV .gt (.int i) (.int j) s = .ok (decide (j < i)) s := rfl
theorem cmp_ge_int {i j : Int} {s : Store} : cmpV .ge (.int i) (.int j) s = .ok (decide (j ≤ i)) s := rfl
theorem truth_bl {b : Bool} {s : Store} : truth (.bl b) s = .ok b s := rfl
theorem bin_add {i j : Int} {s : Store} : binV .add (.int i) (.int j) s = .ok (.int (i + j)) s := rfl
theorem bin_sub {i j : Int} {s : Store} : binV .sub (.int i) (.int j) s = .ok (.int (i - j)) s := rfl
theorem bin_mul {i j : Int} {s : Store} (h : mulOk i j = true) : binV .mul (.int i) (.int j) s = .ok (.int (i * j)) s := by
  simp only [binV, binI, h, if_true]
theorem mulOk_r {i j : Int} (h : j.natAbs < 2 ^ 64) : mulOk i j = true := by
  unfold mulOk
  rw [Bool.or_eq_true, Bool.or_eq_true]
  exact .inl (.inr (decide_eq_true h))
theorem mulOk_l {i j : Int} (h : i.natAbs < 2 ^ 64) : mulOk i j = true := by
  unfold mulOk
  rw [Bool.or_eq_true, Bool.or_eq_true]
  exact .inl (.inl (decide_eq_true h))
theorem bin_mod {i j : Int} {s : Store} (h : 0 < j) : binV .mod (.int i) (.int j) s = .ok (.int (i % j)) s := by
  simp only [binV, binI, if_pos h]
theorem bin_fdiv {i j : Int} {s : Store} (h : 0 < j) (h2 : j.natAbs.log2 < 9000) : binV .fdiv (.int i) (.int j) s = .ok (.int (i / j)) s := by
  simp only [binV, binI, if_pos (show 0 < j ∧ j.natAbs.log2 < 9000 from ⟨h, h2⟩)]
theorem bi_int_int {i : Int} {s : Store} : biV .int [.int i] s = .ok (.int i) s := rfl
theorem bi_abs_int {i : Int} {s : Store} : biV .abs [.int i] s = .ok (.int (if i < 0 then -i else i)) s := rfl
theorem cellL_of {s : Store} {n : Nat} {xs : List DV} (h : s[n]? = some (.lst xs)) : cellL s n = some xs := by
  unfold cellL
  rw [h]
theorem cellF_of {s : Store} {n : Nat} {xs : List DV} (h : s[n]? = some (.frz xs)) : cellL s n = some xs := by
  unfold cellL
  rw [h]
theorem item_ref {s : Store} {n : Nat} {xs : List DV} {i : Int} {v : DV} (h : cellL s n = some xs) (hv : L2.atI xs i = some v) : itemV (.ref n) (.int i) s = .ok v s := by
  simp only [itemV, h, hv, optR]
theorem item_tup {s : Store} {xs : List DV} {i : Int} {v : DV} (hv : L2.atI xs i = some v) : itemV (.tup xs) (.int i) s = .ok v s := by
  simp only [itemV, hv, optR]
theorem len_ref {s : Store} {n : Nat} {xs : List DV} (h : cellL s n = some xs) : biV .len [.ref n] s = .ok (.int xs.length) s := by
  simp only [biV, h]
theorem setV_ref {s : Store} {n : Nat} {xs : List DV} {i : Int} {j : Nat} {v : DV} (h : s[n]? = some (.lst xs)) (hj : L2.ixN xs.length i = some j) : setV (.ref n) (.int i) v s = some (s.set n (.lst (xs.set j v))) := by
  simp only [setV, h, hj]
theorem list_ref {s : Store} {n : Nat} {xs : List DV} (h : cellL s n = some xs) : biV .list [.ref n] s = .ok (.ref s.length) (s ++ [.lst xs]) := by
  simp only [biV, h]
theorem tuple_ref {s : Store} {n : Nat} {xs : List DV} (h : cellL s n = some xs) : biV .tuple [.ref n] s = .ok (.tup xs) s := by
  simp only [biV, h]
theorem lt_of_get {α : Type} {l : List α} {n : Nat} {a : α} (h : l[n]? = some a) : n < l.length := (List.getElem?_eq_some_iff.mp h).1
theorem get_set {α : Type} {l : List α} {n : Nat} {a b : α} (h : l[n]? = some a) : (l.set n b)[n]? = some b := List.getElem?_set_self (lt_of_get h)
theorem get_set_ne {α : Type} {l : List α} {n m : Nat} {b : α} (h : n ≠ m) : (l.set n b)[m]? = l[m]? := List.getElem?_set_ne h

/-! ### loops by a word -/
/-- a for whose turns keep a word: every turn goes on -/
theorem forL_word {f : Src} {body : DV → Loc → Store → Out} (Pv : List DV → Loc → Store → Prop) : ∀ {all done rest : List DV} {r : Loc} {s : Store}, all = done ++ rest → Pv done r s → (∀ d r s, Pv d r s → f.ok s) →
    (∀ d x e r s, all = d ++ x :: e → Pv d r s → ∃ r' s', (body x r s = .nx r' s' ∨ body x r s = .ct r' s') ∧ Pv (d ++ [x]) r' s') → ∃ r' s', forL f body rest r s = .nx r' s' ∧ Pv all r' s'
  | all, done, [], r, s, e, h, hf, hs => by
    rw [List.append_nil] at e
    subst e
    refine ⟨r, s, ?_, h⟩
    simp only [forL]
    rw [if_pos (hf _ _ _ h)]
  | all, done, x :: rest, r, s, e, h, hf, hs => by
    obtain ⟨r1, s1, h1, h2⟩ := hs done x rest r s e h
    obtain ⟨r2, s2, h3, h4⟩ := forL_word Pv (rest := rest) (r := r1) (s := s1) (by rw [e, List.append_assoc]; rfl) h2 hf hs
    refine ⟨r2, s2, ?_, h4⟩
    simp only [forL]
    rw [if_pos (hf _ _ _ h)]
    rcases h1 with h1 | h1 <;> rw [h1] <;> exact h3
theorem for_word {f : Src} {body : DV → Loc → Store → Out} {all : List DV} {r : Loc} {s : Store} (Pv : List DV → Loc → Store → Prop) (h0 : Pv [] r s) (hf : ∀ d r s, Pv d r s → f.ok s)
    (hs : ∀ d x e r s, all = d ++ x :: e → Pv d r s → ∃ r' s', (body x r s = .nx r' s' ∨ body x r s = .ct r' s') ∧ Pv (d ++ [x]) r' s') : ∃ r' s', forL f body all r s = .nx r' s' ∧ Pv all r' s' :=
  forL_word Pv (done := []) rfl h0 hf hs
/-- a for that ends as told -/
theorem evS_for {call : Nat → List DV → Store → Res DV} {G : Nat → Option DV} {sub : Nat → Nat → Bool} {t : CT} {it : CI} {b : CSs} {r : Loc} {s s1 : Store} {f : Src} {xs : List DV} {o : Out}
    (hi : evI call G sub it r s = .ok (f, xs) s1) (h : forL f (fun x r s => (evT call G sub t x r s).out r fun r s => evSs call G sub b r s) xs r s1 = o) : evS call G sub (.for_ t it b) r s = o := by
  simp only [evS]
  rw [hi]
  exact h
/-! ### while, turn by turn -/
theorem while_go {t : Loc → Store → Res Bool} {b : Loc → Store → Out} {n : Nat} {r r' : Loc} {s s1 s' : Store} (h1 : t r s = .ok true s1) (h2 : b r s1 = .nx r' s') : whileL t b (n + 1) r s = whileL t b n r' s' := by
  simp only [whileL]
  rw [h1]
  simp only [Res.out, cond]
  rw [h2]
theorem while_end {t : Loc → Store → Res Bool} {b : Loc → Store → Out} {n : Nat} {r : Loc} {s s1 : Store} (h1 : t r s = .ok false s1) : whileL t b (n + 1) r s = .nx r s1 := by
  simp only [whileL]
  rw [h1]
  rfl
theorem len_tup {xs : List DV} {s : Store} : biV .len [.tup xs] s = .ok (.int xs.length) s := rfl
theorem abs_nat {i : Int} {s : Store} : biV .abs [.int i] s = .ok (.int (i.natAbs : Int)) s := by
  have : (if i < 0 then -i else i) = (i.natAbs : Int) := by split <;> omega
  show Res.ok (DV.int (if i < 0 then -i else i)) s = _
  rw [this]
end Ip
end PtIpMath
section PtIpExc
set_option Elab.async false
set_option linter.all false
set_option maxRecDepth 100000
/-! errors of the program's own classes: raise, try .. except X as e, isinstance of what was caught; ints by name -/
namespace Ip
open PySem PySem.Spec PyProof.Rows L2

/-- what the written part says of a class below ValueError -/
structure OwnC (K : PySem.W.Frag) (mg : Str → Option Value) (x : Str) (C : Addr) : Prop where
  g : mg x = some (.ref C)
  k : PySem.W.keepIn K (.ref C) = true
  e : PySem.W.excIn K C [.type "ValueError", .type "Exception", .type "BaseException", .type "object"] "ValueError.__new__" = true
  b : PySem.W.subIn K (.ref C) (.type "BaseException") = some true
  t : PySem.W.typeIn K (.ref C) = some (.type "type")
  v : PySem.W.subIn K (.ref C) (.type "ValueError") = some true
  i : ExcC K C
/-- all classes -/
structure ClsT (K : PySem.W.Frag) (mg : Str → Option Value) (sub : Nat → Nat → Bool) (cls : Nat → Option Addr) : Prop where
  own : ∀ c C, cls c = some C → ∃ x, OwnC K mg x C
  sb : ∀ c C e D, cls c = some C → cls e = some D → PySem.W.subIn K (.ref D) (.ref C) = some (sub e c)
  refl : ∀ c C, cls c = some C → sub c c = true
section
variable {K : PySem.W.Frag} {mg : Str → Option Value} {sub : Nat → Nat → Bool} {cls : Nat → Option Addr} {c e : Nat} {C D : Addr}
theorem ClsT.exm (M : ClsT K mg sub cls) (hc : cls c = some C) (he : cls e = some D) : PySem.W.exmOne K (.ref D) (.ref C) = some (sub e c) := by
  obtain ⟨x, O⟩ := M.own c C hc
  exact PySem.W.exm_ref O.b O.i.hd O.t (M.sb c C e D hc he)
theorem ClsT.kit (M : ClsT K mg sub cls) (hc : cls c = some C) (he : cls e = some D) : PySem.W.kitOne K (.ref D) (.ref C) = some (sub e c) := by
  obtain ⟨x, O⟩ := M.own c C hc
  have h := M.sb c C e D hc he
  by_cases q : D = C
  · subst q
    have h2 := M.sb c D c D hc hc
    rw [M.refl c D hc, h] at h2
    rw [h2]
    unfold PySem.W.kitOne
    rw [if_pos (beq_self_eq_true _)]
  · unfold PySem.W.kitOne
    rw [if_neg (fun z => q (Value.ref.inj (beq_iff_eq.mp z)))]
    obtain ⟨cd, hcd, _⟩ := PySem.W.any_some O.i.hd
    show (if ((PySem.W.clsIn K C).isSome && PySem.W.typeIn K (.ref C) == some (.type "type")) = true then PySem.W.subIn K (.ref D) (.ref C) else none) = some (sub e c)
    have e2 : ((PySem.W.clsIn K C).isSome && PySem.W.typeIn K (.ref C) == some (.type "type")) = true := by rw [hcd, O.t] <;> rfl
    rw [if_pos e2]
    exact h
theorem kit_meta : PySem.W.kitMeta "ValueError" = true := by decide +kernel
theorem ClsT.ve (M : ClsT K mg sub cls) (he : cls e = some D) : PySem.W.kitOne K (.ref D) (.type "ValueError") = some true := by
  obtain ⟨x, O⟩ := M.own e D he
  unfold PySem.W.kitOne
  have q : (Value.ref D == Value.type "ValueError") = false := Bool.eq_false_iff.mpr fun z => by
    have z := beq_iff_eq.mp z
    cases z
  rw [q, if_neg Bool.false_ne_true]
  show (if PySem.W.kitMeta "ValueError" = true then PySem.W.subIn K (.ref D) (.type "ValueError") else none) = some true
  rw [if_pos kit_meta]
  exact O.v
end

section
variable {T : Tb} {X : Cx} {ex : Option (Addr × Nat)} {W : WX} {a b : Expr} {pos : Pos} {ct : CT} {ci : CI} {st : Stmt} {sts : List Stmt} {cs : CS} {css : CSs}
theorem ss_raise (c : Nat) {C : Addr} {x m : Str} {j : Nat} {p p2 p3 : Pos} (hcls : T.cls c = some C) (O : OwnC X.K X.mg x C) (tk : Takes X W) (hc : X.calm = true := by rfl) (hg : Gl X x := by rfl) (hd : (x == ("__debug__" : Str)) = false := by decide) :
    SS T X ex W (.Raise (some (.Call (.Name x p) [.Constant (.str m) j p2] [] p3)) none pos) (.raise c) :=
  ⟨(ps_raise hc tk (pmk_own PySem.F.excBase_ValueError O.e O.g O.k (raises_own O.b O.t) hg hd)).imp fun D σ H h => by
    obtain ⟨μ, r, s, R, L, h⟩ := h
    exact h μ H σ Le.refl R L C hcls⟩
theorem LR.setx {K : PySem.W.Frag} {μ : List Addr} {H : Hp} {σ : L2.St} {r : Loc} {i e : Nat} {a : Addr} (h : LR K none μ H σ r) : LR K (some (a, e)) μ H (σ.set i (some (.ref a))) (r.set i (some (.exc e))) := by
  refine ⟨by rw [List.length_set, List.length_set]; exact h.len, fun j d hd => ?_⟩
  by_cases hij : i = j
  · subst hij
    have hlt : i < (r.set i (some (.exc e))).length := (List.getElem?_eq_some_iff.mp hd).1
    rw [List.length_set] at hlt
    rw [List.getElem?_set_self hlt] at hd
    cases hd
    exact .inr ⟨a, e, rfl, rfl, by rw [List.getElem?_set_self (by rw [← h.len]; exact hlt)]⟩
  · rw [List.getElem?_set_ne hij] at hd
    rw [List.getElem?_set_ne hij]
    rcases h.at_ j d hd with h | ⟨_, _, _, h2, _⟩
    · exact .inl h
    · cases h2
theorem LR.unx {K : PySem.W.Frag} {μ : List Addr} {H : Hp} {σ : L2.St} {r : Loc} {ex : Option (Addr × Nat)} (h : LR K ex μ H σ r) (hx : noX r = true) : LR K none μ H σ r := ⟨h.len, fun i d q => by
  rcases h.at_ i d q with h | ⟨a, c, h1, _, _⟩
  · exact .inl h
  · subst h1
    have := List.all_eq_true.mp hx _ (List.mem_of_getElem? q)
    cases this⟩
theorem ss_try_as (i c : Nat) {C : Addr} {x n : Str} {np p1 : Pos} {body suite : List Stmt} {b₀ : Stmt} {cb ch : CSs} (M : ClsT X.K X.mg T.sub T.cls) (hcls : T.cls c = some C) (O : OwnC X.K X.mg x C) (tk : Takes X W) (hN : X.N.Nodup)
    (hb : ∀ (W : WX) (pn : List (Addr × Obj)) (xe : Value → Shared → Prop), Takes (X.tr pn xe) W → PassesOwn (model X.prog X.w) X.A X.env xe → SSs T (X.tr pn xe) none W body cb)
    (hsu : ∀ (a : Addr) (oe : Obj) (D : Addr) (e : Nat) (pn : List (Addr × Obj)), T.cls e = some D → Zc (.ref D) none oe → (∃ vs, oe.data = .fields vs) → SSs T (X.suite a ((a, oe) :: pn)) (some (a, e)) (fun _ _ _ _ => False) (b₀ :: suite) ch)
    (hs : X.stack = X.env :: X.outer := by rfl) (hf : X.env.frame = some X.env.locals := by rfl) (hi : X.N[i]? = some n := by rfl) (hln : X.env.kindOf n = some .local := by rfl) (hg : Gl X x := by rfl) (hd : (x == ("__debug__" : Str)) = false := by decide) :
    SS T X none W (.Try body [.ExceptHandler (some (.Name x np)) (some n) (b₀ :: suite) p1] [] [] pos) (.try_ cb c (some i) ch) :=
  ⟨(ps_try_as (c := .ref C) (tb := fun W => tSs T X.K none W cb) (ts := fun a cls d D σ H => ∃ (e : Nat) (D' : Addr), cls = .ref D' ∧ d = none ∧ T.cls e = some D' ∧ tSs T X.K (some (a, e)) (fun _ _ _ _ => False) ch D σ H) hs hf hN hi hln ⟨hg, hd, .inl O.g⟩ tk
    (fun W pn xe tk hp => (hb W pn xe tk hp).ps)
    (fun a oe cls d pn hz hf => ⟨fun pins s σ H D I q => by
      obtain ⟨e, D', rfl, rfl, he, q⟩ := q
      exact (hsu a oe D' e pn he hz hf).ps.run pins s σ H D I q⟩)).imp fun D σ H h => by
    obtain ⟨μ, r, s, R, L, h⟩ := h
    refine ⟨μ, r, s, R, L, ?_⟩
    simp only [evS] at h
    cases hm : evSs T.call T.G T.sub cb r s with
    | nx r1 s1 => rw [hm] at h; exact h
    | rt v s1 => rw [hm] at h; exact h
    | bk r1 s1 => rw [hm] at h; exact h
    | ct r1 s1 => rw [hm] at h; exact h
    | stuck => rw [hm] at h; exact h
    | exc d r1 s1 =>
      rw [hm] at h
      intro μ' H' σ' le R' L' D' hD
      simp only [Out.catch] at h
      refine ⟨T.sub d c, M.exm hcls hD, fun hb a ha => ?_, fun hb => ?_⟩
      · rw [hb] at h
        refine ⟨d, D', rfl, rfl, hD, μ', _, s1, R', L'.setx, ?_⟩
        simp only [cond] at h
        cases hn : evSs T.call T.G T.sub ch (r1.set i (some (.exc d))) s1 with
        | nx r2 s2 =>
          rw [hn] at h
          simp only [Out.unset] at h
          split at h
          · rename_i hx
            exact fun μ2 H2 σ2 le2 R2 L2 => h μ2 H2 _ (le.trans le2) R2 (L2.del.unx hx)
          · exact h.elim
        | bk r2 s2 =>
          rw [hn] at h
          simp only [Out.unset] at h
          split at h
          · rename_i hx
            exact fun μ2 H2 σ2 le2 R2 L2 => h μ2 H2 _ (le.trans le2) R2 (L2.del.unx hx)
          · exact h.elim
        | ct r2 s2 =>
          rw [hn] at h
          simp only [Out.unset] at h
          split at h
          · rename_i hx
            exact fun μ2 H2 σ2 le2 R2 L2 => h μ2 H2 _ (le.trans le2) R2 (L2.del.unx hx)
          · exact h.elim
        | rt v s2 =>
          rw [hn] at h
          exact fun μ2 H2 u le2 R2 hu => h μ2 H2 u (le.trans le2) R2 hu
        | exc e r2 s2 => rw [hn] at h; exact h.elim
        | stuck => rw [hn] at h; exact h.elim
      · rw [hb] at h
        exact h μ' H' σ' le R' L' D' hD⟩
theorem ss_try_only (c : Nat) {C : Addr} {x : Str} {np p1 : Pos} {body suite : List Stmt} {b₀ : Stmt} {cb ch : CSs} (M : ClsT X.K X.mg T.sub T.cls) (hcls : T.cls c = some C) (O : OwnC X.K X.mg x C) (tk : Takes X W)
    (hb : ∀ (W : WX) (pn : List (Addr × Obj)) (xe : Value → Shared → Prop), Takes (X.tr pn xe) W → PassesOwn (model X.prog X.w) X.A X.env xe → SSs T (X.tr pn xe) none W body cb)
    (hsu : ∀ (a : Addr) (oe : Obj) (pn : List (Addr × Obj)), SSs T (X.suite a ((a, oe) :: pn)) none (fun _ _ _ _ => False) (b₀ :: suite) ch)
    (hs : X.stack = X.env :: X.outer := by rfl) (hf : X.env.frame = some X.env.locals := by rfl) (hg : Gl X x := by rfl) (hd : (x == ("__debug__" : Str)) = false := by decide) :
    SS T X none W (.Try body [.ExceptHandler (some (.Name x np)) none (b₀ :: suite) p1] [] [] pos) (.try_ cb c none ch) :=
  ⟨(ps_try_only (c := .ref C) (tb := fun W => tSs T X.K none W cb) (ts := fun a cls d D σ H => tSs T X.K none (fun _ _ _ _ => False) ch D σ H) hs hf ⟨hg, hd, .inl O.g⟩ tk
    (fun W pn xe tk hp => (hb W pn xe tk hp).ps)
    (fun a oe cls d pn hz hf => (hsu a oe pn).ps)).imp fun D σ H h => by
    obtain ⟨μ, r, s, R, L, h⟩ := h
    refine ⟨μ, r, s, R, L, ?_⟩
    simp only [evS] at h
    cases hm : evSs T.call T.G T.sub cb r s with
    | nx r1 s1 => rw [hm] at h; exact h
    | rt v s1 => rw [hm] at h; exact h
    | bk r1 s1 => rw [hm] at h; exact h
    | ct r1 s1 => rw [hm] at h; exact h
    | stuck => rw [hm] at h; exact h
    | exc d r1 s1 =>
      rw [hm] at h
      intro μ' H' σ' le R' L' D' hD
      simp only [Out.catch] at h
      refine ⟨T.sub d c, M.exm hcls hD, fun hb a ha => ?_, fun hb => ?_⟩
      · rw [hb] at h
        refine ⟨μ', r1, s1, R', L', ?_⟩
        simp only [cond] at h
        cases hn : evSs T.call T.G T.sub ch r1 s1 with
        | nx r2 s2 =>
          rw [hn] at h
          exact fun μ2 H2 σ2 le2 R2 L2 => h μ2 H2 _ (le.trans le2) R2 L2
        | bk r2 s2 =>
          rw [hn] at h
          exact fun μ2 H2 σ2 le2 R2 L2 => h μ2 H2 _ (le.trans le2) R2 L2
        | ct r2 s2 =>
          rw [hn] at h
          exact fun μ2 H2 σ2 le2 R2 L2 => h μ2 H2 _ (le.trans le2) R2 L2
        | rt v s2 =>
          rw [hn] at h
          exact fun μ2 H2 u le2 R2 hu => h μ2 H2 u (le.trans le2) R2 hu
        | exc e r2 s2 => rw [hn] at h; exact h.elim
        | stuck => rw [hn] at h; exact h.elim
      · rw [hb] at h
        exact h μ' H' σ' le R' L' D' hD⟩
/-! ### isinstance of what was caught -/
theorem se_isx (i c : Nat) {C D a : Addr} {e : Nat} {oe : Obj} {pn : List (Addr × Obj)} {x n : Str} {p p1 p2 : Pos} (M : ClsT X.K X.mg T.sub T.cls) (hcls : T.cls c = some C) (O : OwnC X.K X.mg x C) (he : T.cls e = some D) (hz : Zc (.ref D) none oe) (hf : ∃ vs, oe.data = .fields vs)
    (hm : X.mg "isinstance" = none) (hN : X.N[i]? = some n := by rfl) (hv : Vis X.env.scope n := by first | exact Or.inl rfl | exact Or.inr (Or.inl rfl) | exact Or.inr (Or.inr rfl)) (hd : (n == ("__debug__" : Str)) = false := by decide) (hcd : (n == ("__classdict__" : Str)) = false := by decide)
    (hg : Gl X "isinstance" := by rfl) (hg2 : Gl X x := by rfl) (hxd : (x == ("__debug__" : Str)) = false := by decide)
    (hst : starEach [.Name n p1, .Name x p2] X.env = (false, eval (.Name n p1) X.env) :: starEach [.Name x p2] X.env := by rfl) :
    SE T (X.suite a ((a, oe) :: pn)) (some (a, e)) W (.Call (.Name "isinstance" p) [.Name n p1, .Name x p2] [] pos) (.isx i (.own c)) := by
  obtain ⟨x', O'⟩ := M.own e D he
  refine ⟨(pe_callB (X := X.suite a ((a, oe) :: pn)) (call_isE O'.i hz hf) hg hm boot_isinstance (pa_cons (pe_var hN hv hd hcd) (pa_cons (pe_glob (X := X.suite a ((a, oe) :: pn)) (v := .ref C) hg2 O.g rfl hxd) pa_nil) hst) (by decide) (by decide) hst rfl).imp fun σ H Q h => ?_⟩
  obtain ⟨μ, r, s, R, L, h⟩ := h
  simp only [evE] at h
  cases hr : r[i]? with
  | none => rw [hr] at h; exact h.elim
  | some o =>
    rw [hr] at h
    cases o with
    | none => exact h.elim
    | some d =>
      cases d with
      | exc d =>
        rcases L.at_ i _ hr with ⟨v, _, h2⟩ | ⟨a', c', h1, h2, h3⟩
        · cases h2
        · cases h1
          cases h2
          exact ⟨.ref a, h3, .ref C, .ref C, T.sub e c, rfl, fun u r => r, M.kit hcls he, h.ok R _ (.bl _)⟩
      | _ => exact h.elim
theorem se_isv (i : Nat) {D a : Addr} {e : Nat} {oe : Obj} {pn : List (Addr × Obj)} {n : Str} {p p1 p2 : Pos} (M : ClsT X.K X.mg T.sub T.cls) (he : T.cls e = some D) (hz : Zc (.ref D) none oe) (hf : ∃ vs, oe.data = .fields vs)
    (hm : X.mg "isinstance" = none) (hm2 : X.mg "ValueError" = none) (hv2 : bootBuiltins "ValueError" = some (.type "ValueError")) (hN : X.N[i]? = some n := by rfl) (hv : Vis X.env.scope n := by first | exact Or.inl rfl | exact Or.inr (Or.inl rfl) | exact Or.inr (Or.inr rfl)) (hd : (n == ("__debug__" : Str)) = false := by decide) (hcd : (n == ("__classdict__" : Str)) = false := by decide)
    (hg : Gl X "isinstance" := by rfl) (hg2 : Gl X "ValueError" := by rfl)
    (hst : starEach [.Name n p1, .Name "ValueError" p2] X.env = (false, eval (.Name n p1) X.env) :: starEach [.Name "ValueError" p2] X.env := by rfl) :
    SE T (X.suite a ((a, oe) :: pn)) (some (a, e)) W (.Call (.Name "isinstance" p) [.Name n p1, .Name "ValueError" p2] [] pos) (.isx i (.ty "ValueError")) := by
  obtain ⟨x', O'⟩ := M.own e D he
  refine ⟨(pe_callB (X := X.suite a ((a, oe) :: pn)) (call_isE O'.i hz hf) hg hm boot_isinstance (pa_cons (pe_var hN hv hd hcd) (pa_cons (pe_bltn (X := X.suite a ((a, oe) :: pn)) (v := .ty "ValueError") hg2 hm2 hv2 rfl (by decide) (by decide)) pa_nil) hst) (by decide) (by decide) hst rfl).imp fun σ H Q h => ?_⟩
  obtain ⟨μ, r, s, R, L, h⟩ := h
  simp only [evE] at h
  cases hr : r[i]? with
  | none => rw [hr] at h; exact h.elim
  | some o =>
    rw [hr] at h
    cases o with
    | none => exact h.elim
    | some d =>
      cases d with
      | exc d =>
        rcases L.at_ i _ hr with ⟨v, _, h2⟩ | ⟨a', c', h1, h2, h3⟩
        · cases h2
        · cases h1
          cases h2
          simp only [if_true] at h
          exact ⟨.ref a, h3, .ty "ValueError", .type "ValueError", true, rfl, fun u r => r, M.ve he, h.ok R _ (.bl _)⟩
      | _ => exact h.elim
/-! ### an int by name -/
theorem se_globI (g : Nat) {x : Str} {i : Int} {p : Pos} (hG : T.G g = some (.int i)) (hm : ∃ t, X.mg x = some (.int i t)) (hg : Gl X x := by rfl) (hd : (x == ("__debug__" : Str)) = false := by decide) : SE T X ex W (.Name x p) (.glob g) := by
  obtain ⟨t, hm⟩ := hm
  exact ⟨(pe_glob (v := .int i) hg hm ⟨t, rfl⟩ hd).imp fun σ H Q h => by
    obtain ⟨μ, r, s, R, L, h⟩ := h
    simp only [evE, hG] at h
    exact h.ok R _ (.int i)⟩
/-! ### gcd -/
theorem se_gcd {x : Str} {p : Pos} {e : Expr} {es : List Expr} {cs : CEs} (hm : X.mg x = some (.builtin "math.gcd")) (ha : SEs T X ex W (e :: es) cs) (hg : Gl X x := by rfl) (hdb : (x == ("__debug__" : Str)) = false := by decide)
    (he : starEach (e :: es) X.env = (false, eval e X.env) :: starEach es X.env := by rfl) (hpl : (backTo pos (starEach es X.env)).any (·.1) = false := by rfl) : SE T X ex W (.Call (.Name x p) (e :: es) [] pos) (.bi .gcd cs) :=
  ⟨(pe_callBfun cr_gcd hg hm ha.pa hdb he hpl).imp fun σ H Q h => by
    obtain ⟨μ, r, s, R, L, h⟩ := h
    refine ⟨μ, r, s, R, L, h.bind.map fun μ1 H1 s1 xs le1 R1 h1 vs hv => ?_⟩
    match hv with
    | .nil => exact h1.elim
    | .cons hx .nil => cases hx <;> exact h1.elim
    | .cons hx (.cons hy .nil) =>
      cases hx with
      | int i =>
        cases hy with
        | int j => exact ⟨i, j, rfl, h1.ok R1 _ (.int _)⟩
        | _ => exact h1.elim
      | _ => cases hy <;> exact h1.elim
    | .cons hx (.cons hy (.cons hz hr)) => cases hx <;> (first | exact h1.elim | (cases hy <;> exact h1.elim))⟩
end
/-! ### the classes by a list, the law whatever the classes are -/
def clsOf (l : List Addr) : Nat → Option Addr := fun i => l[i]?
def spO (call : Nat → List DV → Store → Res DV) (K : PySem.W.Frag) (f np : Nat) : Sp := fun vs H Q _ => ∃ μ s ds d s', Rel K μ H s ∧ VRs K μ H vs ds ∧ ds.length = np ∧ call f ds s = .ok d s' ∧ ∀ μ' H', Le K μ H μ' H' → Rel K μ' H' s' → ∀ v, VR K μ' H' v d → Q v H'
theorem spO_spC {T : Tb} {K : PySem.W.Frag} {f np : Nat} (vs : List V) (H : Hp) (Q : VK) (E : XK) (h : spO T.call K f np vs H Q E) : spC T K f np vs H Q E := by
  obtain ⟨μ, s, ds, d, s', R, hv, hl, e, h⟩ := h
  refine ⟨μ, s, ds, R, hv, hl, ?_⟩
  rw [e]
  exact h
theorem law_spO {K : PySem.W.Frag} {H : Hp} {a : Addr} {ns : List Int} {call : Nat → List DV → Store → Res DV} {f : Nat} (hl : ns.length ≤ 63) (ho : Only H) (h : SqL K H a (ns.map V.int))
    (run : ∃ s', call f [.ref 0] [.frz (ns.map DV.int)] = .ok (.bl true) s') : spO call K f 1 [.ref a] H (fun v _ => v = .bl true) fun _ _ _ => False := by
  obtain ⟨s', run⟩ := run
  refine ⟨[a], [.frz (ns.map DV.int)], [.ref 0], .bl true, s', ⟨rfl, fun n m b xs ys h1 h2 h3 h4 => ?_, fun n b c h1 h2 => ?_⟩, .cons (.ref rfl) .nil, rfl, run, fun μ' H' le R v hv => by
    cases hv
    rfl⟩
  · cases n with
    | zero => cases h3
    | succ n => simp at h3
  · cases n with
    | zero =>
      cases h1
      cases h2
      refine ⟨ns.map V.int, ?_, ints_vrs ns, by rw [List.length_map]; exact Nat.le_trans hl (by decide)⟩
      rcases h with (h | ⟨o, h⟩) | h
      · rcases ho a with q | ⟨o, xs, q⟩
        · rw [q] at h; cases h
        · rw [q] at h; cases h
      · exact .inl ⟨o, h⟩
      · exact .inr h
    | succ n => simp at h2
end Ip
end PtIpExc
section PtIpComp
set_option Elab.async false
set_option linter.all false
set_option maxRecDepth 100000
/-! comprehensions -/
namespace Ip
open PySem PySem.Spec PyProof.Rows L2

theorem wipe_set_none {σ : L2.St} {i : Nat} {x : Option V} : ∀ vs : List Nat, (L2.wipe (σ.set i x) vs).set i none = (L2.wipe σ vs).set i none
  | [] => by simp only [L2.wipe, List.set_set]
  | v :: vs => by
    simp only [L2.wipe]
    by_cases h : v = i
    · subst h
      rw [wipe_set_none vs]
    · rw [List.set_comm _ _ h, wipe_set_none vs, List.set_comm _ _ h]
theorem wipe_set {σ : L2.St} {i : Nat} {x : Option V} : ∀ {vs : List Nat}, i ∈ vs → L2.wipe (σ.set i x) vs = L2.wipe σ vs
  | v :: vs, h => by
    simp only [L2.wipe]
    rcases List.mem_cons.mp h with rfl | h
    · exact wipe_set_none vs
    · rw [wipe_set h]
theorem wipe_sub {σ : L2.St} {vs : List Nat} : ∀ {ws : List Nat}, (∀ w ∈ ws, w ∈ vs) → L2.wipe (L2.wipe σ ws) vs = L2.wipe σ vs
  | [], _ => rfl
  | w :: ws, h => by
    simp only [L2.wipe]
    rw [wipe_set (h w List.mem_cons_self)]
    exact wipe_sub fun u hu => h u (List.mem_cons_of_mem _ hu)

def tGw (T : Tb) (K : PySem.W.Frag) (ex : Option (Addr × Nat)) (c : CT) (vs : List Nat) : TG := fun v σ H Q =>
  ∃ μ r s d, Rel K μ H s ∧ LR K ex μ H σ r ∧ VR K μ H v d ∧ Go K μ H (evT T.call T.G T.sub c d r s) (fun _ _ => False) (fun μ' H' _ r' => ∀ σ', LR K ex μ' H' σ' r' → L2.wipe σ' vs = L2.wipe σ vs → Q σ' H')
def tGsw (T : Tb) (K : PySem.W.Frag) (ex : Option (Addr × Nat)) (c : CTs) (vs : List Nat) : TGs := fun us σ H Q =>
  ∃ μ r s ds, Rel K μ H s ∧ LR K ex μ H σ r ∧ VRs K μ H us ds ∧ Go K μ H (evTs T.call T.G T.sub c ds r s) (fun _ _ => False) (fun μ' H' _ r' => ∀ σ', LR K ex μ' H' σ' r' → L2.wipe σ' vs = L2.wipe σ vs → Q σ' H')
/-- a target of a comprehension: only its own names -/
structure SGw (T : Tb) (X : Cx) (ex : Option (Addr × Nat)) (vs : List Nat) (e : Expr) (c : CT) : Prop where
  pg : PG X e (tGw T X.K ex c vs)
structure SGsw (T : Tb) (X : Cx) (ex : Option (Addr × Nat)) (vs : List Nat) (es : List Expr) (c : CTs) : Prop where
  pg : PGs X es (tGsw T X.K ex c vs)
def tIf (T : Tb) (K : PySem.W.Frag) (ex : Option (Addr × Nat)) (c : CEs) : TT := fun σ H Q =>
  ∃ μ r s, Rel K μ H s ∧ LR K ex μ H σ r ∧ Go K μ H (evAll T.call T.G T.sub c r s) (fun _ _ => False) (fun _ H' _ b => Q b H')
structure SIf (T : Tb) (X : Cx) (ex : Option (Addr × Nat)) (es : List Expr) (c : CEs) : Prop where
  pts : PTs X es (tIf T X.K ex c)
section
variable {T : Tb} {X : Cx} {ex : Option (Addr × Nat)} {W : WX} {e : Expr} {es : List Expr} {ct : CT} {cts : CTs} {ce : CE} {pos : Pos} {vs : List Nat}
theorem sgw_name (i : Nat) {x : Str} (hN : X.N.Nodup) (hv : i ∈ vs := by decide) (hi : X.N[i]? = some x := by rfl) (hx : L2.Loc X.env.scope x := by first | exact Or.inl rfl | exact Or.inr rfl) (hf : X.fn x = true ∨ X.env.scope.names.lookup x = some .local := by first | exact .inl rfl | exact .inr rfl) :
    SGw T X ex vs (.Name x pos) (.name i) := ⟨(pg_name hN hi hx hf).imp fun v σ H Q h => by
  obtain ⟨μ, r, s, d, R, L, hd, h⟩ := h
  simp only [evT] at h
  split at h
  · exact h.ok R _ (L.set hd) (wipe_set hv)
  · exact h.elim⟩
theorem sgsw_nil : SGsw T X ex vs [] .nil := ⟨pgs_nil.imp fun us σ H Q h => by
  obtain ⟨μ, r, s, ds, R, L, hv, h⟩ := h
  cases hv with
  | nil => exact ⟨rfl, h.ok R _ L rfl⟩
  | cons _ _ => exact h.elim⟩
theorem sgsw_cons (h1 : SGw T X ex vs e ct) (h2 : SGsw T X ex vs es cts) (hs : (assignEach (e :: es) X.env).map (·.2) = assign e X.env :: (assignEach es X.env).map (·.2) := by rfl) : SGsw T X ex vs (e :: es) (.cons ct cts) := ⟨(pgs_cons h1.pg h2.pg hs).imp fun us σ H Q h => by
  obtain ⟨μ, r, s, ds, R, L, hv, h⟩ := h
  cases hv with
  | nil => exact h.elim
  | cons h3 h4 =>
    exact ⟨_, _, rfl, μ, r, s, _, R, L, h3, h.bind.map fun μ1 H1 s1 r1 le1 R1 q σ1 L1 w1 => ⟨μ1, r1, s1, _, R1, L1, h4.mono le1, q.map fun _ _ _ _ _ _ z σ2 L2 w2 => z σ2 L2 (w2.trans w1)⟩⟩⟩
theorem sgw_tup {k n : Nat} (hc : X.calm = true) (h : SGsw T X ex vs es cts) (hlen : ∀ xs r s r' s', evTs T.call T.G T.sub cts xs r s = .ok r' s' → xs.length = n)
    (hn : (assignEach es X.env).length = n := by rfl) (hst : (assignEach es X.env).findIdx? (·.1) = none := by rfl) : SGw T X ex vs (.Tuple es k pos) (.tup cts) :=
  ⟨⟨fun pins s0 σ H v u Q I rv h' => by
    obtain ⟨μ, r, s, d, R, L, hv, hg⟩ := h'
    have key : ∀ (us : List V) (ds : List DV), VRs X.K μ H us ds → Go X.K μ H (evTs T.call T.G T.sub cts ds r s) (fun _ _ => False) (fun μ' H' _ r' => ∀ σ', LR X.K ex μ' H' σ' r' → L2.wipe σ' vs = L2.wipe σ vs → Q σ' H') → us.length = n ∧ tGsw T X.K ex cts vs us σ H Q := fun us ds hv hg => by
      refine ⟨?_, μ, r, s, ds, R, L, hv, hg⟩
      rw [hv.length]
      cases hm : evTs T.call T.G T.sub cts ds r s with
      | ok r' s' => exact hlen _ _ _ _ _ hm
      | exc c s' => exact absurd hm (evTs_noexc _ _ _ _ _ _)
      | stuck => rw [hm] at hg; exact hg.elim
    cases hv with
    | tup h1 h2 =>
      obtain ⟨k1, k2⟩ := key _ _ h2 hg
      exact (pg_tup hc h.pg hn hst).run pins s0 σ H _ u Q I rv ⟨_, _, rfl, h1.sq, k1, k2⟩
    | ref hm =>
      simp only [evT] at hg
      split at hg
      · rename_i xs hc'
        obtain ⟨us, c1, c2⟩ := R.cellL hm hc'
        obtain ⟨k1, k2⟩ := key _ _ c2 hg
        exact (pg_lst hc h.pg hn hst).run pins s0 σ H _ u Q I rv ⟨_, _, rfl, c1, k1, k2⟩
      · exact hg.elim
    | _ => exact hg.elim⟩⟩
theorem _root_.L2.PTs.imp {X : Cx} {es : List Expr} {t t' : TT} (h : PTs X es t) (f : ∀ σ H Q, t' σ H Q → t σ H Q) : PTs X es t' := ⟨fun pins s σ H Q I q => h.run pins s σ H Q I (f σ H Q q)⟩
theorem sif_nil : SIf T X ex [] .nil := ⟨pts_nil.imp fun σ H Q h => by
  obtain ⟨μ, r, s, R, L, h⟩ := h
  exact h.ok R⟩
theorem sif_one (h1 : ST T X ex (fun _ _ _ _ => False) e ce) : SIf T X ex [e] (.cons ce .nil) := ⟨(pts_one h1.pt).imp fun σ H Q h => by
  obtain ⟨μ, r, s, R, L, h⟩ := h
  refine ⟨μ, r, s, R, L, ?_⟩
  simp only [evAll] at h
  cases hm : evE T.call T.G T.sub ce r s with
  | ok v s1 =>
    rw [hm] at h
    simp only [Res.bind] at h ⊢
    cases ht : truth v s1 with
    | ok b s2 =>
      rw [ht] at h
      cases b <;> exact h
    | exc c s2 => exact absurd ht truth_noexc
    | stuck => rw [ht] at h; exact h
  | exc c s1 => rw [hm] at h; exact fun μ' H' le R' => (h μ' H' le R').elim
  | stuck => rw [hm] at h; exact h⟩
/-- [e for t in it if ..] -/
theorem lc_imp {σ : L2.St} {H : Hp} {Q : VK} {K : PySem.W.Frag} {ci : CI} {cis : CEs} {own : List Nat} (h : tE T K ex W (.lc ct ci cis ce own) σ H Q) :
    tLc (tI T K ex W ci) (tGw T K ex ct own) (tIf T K ex cis) (tE T K ex (fun _ _ _ _ => False) ce) own σ H Q := by
  obtain ⟨μ, r, s, R, L, h⟩ := h
  simp only [evE] at h
  generalize hb : (fun (x : DV) (s : Store) => (evT T.call T.G T.sub ct x (Ip.wipe r own) s).bind fun r s => (evAll T.call T.G T.sub cis r s).bind fun b s => cond b ((evE T.call T.G T.sub ce r s).bind fun v s => Res.ok (some v) s) (.ok none s)) = body at h
  refine ⟨μ, r, s, R, L, ?_⟩
  cases hm : evI T.call T.G T.sub ci r s with
  | exc c s1 => rw [hm] at h; exact h
  | stuck => rw [hm] at h; exact h
  | ok q s1 =>
    rw [hm] at h
    simp only [Res.bind] at h
    intro μ1 H1 le1 R1 J wk D hD
    have le2 : Le K μ1 H1 (μ1 ++ [D]) (L2.upd H1 D (.lst [])) := le_new hD
    have h := Go.later h (le1.trans le2)
    have R2 : Rel K (μ1 ++ [D]) (L2.upd H1 D (.lst [])) (s1 ++ [.lst []]) := R1.new hD .nil (Nat.zero_le _)
    have pD : (μ1 ++ [D])[s1.length]? = some D := by rw [← R1.len]; exact get_app_n
    refine ⟨fun i m H => m = q.2.length - i ∧ i ≤ q.2.length ∧ ∃ μ s, Le K (μ1 ++ [D]) (L2.upd H1 D (.lst [])) μ H ∧ Rel K μ H s ∧ LR K ex μ H σ r ∧ Go K μ H (lcL s1.length q.1 body (q.2.drop i) s) (fun c H' => ∀ C, T.cls c = some C → W (.ref C) none σ H') (fun μ' H' _ d => ∀ v, VR K μ' H' v d → Q v H'),
      ⟨_, rfl, Nat.zero_le _, μ1 ++ [D], _, Le.refl, R2, (L.mono le1).mono le2, h⟩, ?_⟩
    rintro i m H2 ⟨rfl, hi, μ2, s2, le3, R3, L3, h2⟩
    by_cases hlt : i < q.2.length
    · refine .inr ?_
      have hd : q.2[i]? = some q.2[i] := List.getElem?_eq_getElem hlt
      rw [List.drop_eq_getElem_cons hlt] at h2
      simp only [lcL] at h2
      split at h2
      · rename_i hf
        obtain ⟨g1, g2⟩ := wk.go i _ μ2 H2 s2 (le2.trans le3) R3 hf hd
        refine ⟨g1, fun H' => ∃ μ s, Le K (μ1 ++ [D]) (L2.upd H1 D (.lst [])) μ H' ∧ Rel K μ H' s ∧ LR K ex μ H' σ r ∧ Go K μ H' (lcL s1.length q.1 body (q.2.drop (i + 1)) s) (fun c H' => ∀ C, T.cls c = some C → W (.ref C) none σ H') (fun μ' H' _ d => ∀ v, VR K μ' H' v d → Q v H'),
          fun H' hN => ⟨_, by omega, rfl, hlt, hN⟩, fun x H3 hy => ?_⟩
        obtain ⟨l4, R4, rx⟩ := g2 x H3 hy
        have L4 := L3.mono l4
        refine ⟨μ2, Ip.wipe r own, s2, q.2[i], R4, L4.wipe own, rx, ?_⟩
        have hbx : body q.2[i] s2 = (evT T.call T.G T.sub ct q.2[i] (Ip.wipe r own) s2).bind fun r s => (evAll T.call T.G T.sub cis r s).bind fun b s => cond b ((evE T.call T.G T.sub ce r s).bind fun v s => Res.ok (some v) s) (.ok none s) := by rw [← hb]
        rw [hbx] at h2
        cases h5 : evT T.call T.G T.sub ct q.2[i] (Ip.wipe r own) s2 with
        | exc c s3 => exact absurd h5 (evT_noexc _ _ _ _ _ _)
        | stuck => rw [h5] at h2; exact h2.elim
        | ok r5 s5 =>
          rw [h5] at h2
          simp only [Res.bind] at h2
          intro μ5 H5 le5 R5 σ5 L5 w5
          refine ⟨w5.trans (wipe_sub fun _ h => h), μ5, r5, s5, R5, L5, ?_⟩
          have h2 := Go.later h2 (l4.trans le5)
          cases h6 : evAll T.call T.G T.sub cis r5 s5 with
          | exc c s6 => rw [h6] at h2; exact h2.elim
          | stuck => rw [h6] at h2; exact h2.elim
          | ok b s6 =>
            rw [h6] at h2
            intro μ6 H6 le6 R6
            have h2 := Go.later h2 le6
            have L6 := (L4.mono le5).mono le6
            have lx := ((le3.trans l4).trans le5).trans le6
            cases b with
            | false =>
              simp only [cond, Res.quiet, Res.bind] at h2
              simp only [Bool.false_eq_true, if_false]
              exact ⟨μ6, s6, lx, R6, L6, h2⟩
            | true =>
              simp only [if_true]
              simp only [cond] at h2
              refine ⟨μ6, r5, s6, R6, L5.mono le6, ?_⟩
              cases h7 : evE T.call T.G T.sub ce r5 s6 with
              | exc c s7 => rw [h7] at h2; exact h2.elim
              | stuck => rw [h7] at h2; exact h2.elim
              | ok y s7 =>
                rw [h7] at h2
                simp only [Res.quiet, Res.bind] at h2
                intro μ7 H7 le7 R7 v hv
                have h2 := Go.later h2 le7
                split at h2
                · rename_i acc hacc
                  split at h2
                  · rename_i hz
                    have pm : μ7[s1.length]? = some D := (lx.trans le7).pre _ _ pD
                    obtain ⟨us, u1, u2, u3⟩ := R7.at_ _ _ _ pm hacc
                    have R8 := R7.set pm hacc u1 (u2.append (.cons hv .nil)) (by rw [List.length_append]; exact hz)
                    have le8 : Le K μ7 H7 μ7 (L2.upd H7 D (.lst (us ++ [v]))) := le_set u1
                    exact ⟨us, u1, by rw [u2.length]; exact hz, μ7, _, (lx.trans le7).trans le8, R8, (L6.mono le7).mono le8, Go.later h2 le8⟩
                  · exact h2.elim
                · exact h2.elim
      · exact h2.elim
    · refine .inl ?_
      have e : i = q.2.length := by omega
      subst e
      rw [List.drop_length] at h2
      simp only [lcL] at h2
      split at h2
      · rename_i hf
        exact ⟨wk.stop _ μ2 H2 s2 (le2.trans le3) R3 hf (Nat.le_refl _), h2.ok R3 _ (.ref (le3.pre _ _ pD))⟩
      · exact h2.elim
theorem se_lc (own : List (Str × Nat)) {elt tg iter : Expr} {ifs : List Expr} {scope : Scope} {ci : CI} {cis : CEs} (hc : X.calm = true) (hN : X.N.Nodup) (hi : SI T X ex W tg iter ci) (hB : BlkOk X.N X.env.scope scope own)
    (hg : ∀ (s : Shared) (H : Hp) (C : Addr) (cl : List (Str × Addr)) (fp : List Addr), SGw T (X.blk s H scope (compEnvC scope cl C X.env) fp) ex (own.map (·.2)) tg ct)
    (ht : ∀ (s : Shared) (H : Hp) (C : Addr) (cl : List (Str × Addr)) (fp : List Addr), SIf T (X.blk s H scope (compEnvC scope cl C X.env) fp) ex ifs cis)
    (he : ∀ (s : Shared) (H : Hp) (C : Addr) (cl : List (Str × Addr)) (fp : List Addr), SE T (X.blk s H scope (compEnvC scope cl C X.env) fp) ex (fun _ _ _ _ => False) elt ce)
    (hs : ∀ x, foldedSetIterable iter X.env x = pure x := by intro _; rfl) : SE T X ex W (.ListComp elt [⟨tg, iter, ifs, 0⟩] scope pos) (.lc ct ci cis ce (own.map (·.2))) :=
  ⟨(pe_lc (own := own) hc hN hi.pi hB (fun s H C cl fp => (hg s H C cl fp).pg) (fun s H C cl fp => (ht s H C cl fp).pts) (fun s H C cl fp => (he s H C cl fp).pe) hs).imp fun σ H Q h => lc_imp h⟩
/-- y = [e for t in it if ..] -/
theorem ss_setLc (i : Nat) (own : List (Str × Nat)) {y : Str} {py spos : Pos} {elt tg iter : Expr} {ifs : List Expr} {scope : Scope} {ci : CI} {cis : CEs} (hc : X.calm = true) (hN : X.N.Nodup) (hi : SI T X ex W tg iter ci) (hB : BlkOk X.N X.env.scope scope own)
    (hg : ∀ (s : Shared) (H : Hp) (C : Addr) (cl : List (Str × Addr)) (fp : List Addr), SGw T (X.blk s H scope (compEnvC scope cl C X.env) fp) ex (own.map (·.2)) tg ct)
    (ht : ∀ (s : Shared) (H : Hp) (C : Addr) (cl : List (Str × Addr)) (fp : List Addr), SIf T (X.blk s H scope (compEnvC scope cl C X.env) fp) ex ifs cis)
    (he : ∀ (s : Shared) (H : Hp) (C : Addr) (cl : List (Str × Addr)) (fp : List Addr), SE T (X.blk s H scope (compEnvC scope cl C X.env) fp) ex (fun _ _ _ _ => False) elt ce)
    (hsw : swapsWith (.ListComp elt [⟨tg, iter, ifs, 0⟩] scope pos) (some (.Name y py)) spos.line X.env = pure true)
    (hy : X.N[i]? = some y := by rfl) (hl : X.env.scope.names.lookup y = some .local := by rfl)
    (hs : ∀ x, foldedSetIterable iter X.env x = pure x := by intro _; rfl) : SS T X ex W (.Assign [.Name y py] (.ListComp elt [⟨tg, iter, ifs, 0⟩] scope pos) spos) (.asg (.name i) (.lc ct ci cis ce (own.map (·.2)))) :=
  ⟨(ps_setLc (own := own) hc hN hy hl hsw hi.pi hB (fun s H C cl fp => (hg s H C cl fp).pg) (fun s H C cl fp => (ht s H C cl fp).pts) (fun s H C cl fp => (he s H C cl fp).pe) hs).imp fun D σ H h => by
    obtain ⟨μ, r, s, R, L, h⟩ := h
    show tLc _ _ _ _ _ σ H _
    refine lc_imp (T := T) (ex := ex) (W := W) (ct := ct) (cis := cis) (ce := ce) ⟨μ, r, s, R, L, ?_⟩
    simp only [evS, evT] at h
    cases hm : evE T.call T.G T.sub (.lc ct ci cis ce (own.map (·.2))) r s with
    | ok v s1 =>
      rw [hm] at h
      simp only [Res.out] at h
      intro μ1 H1 le1 R1 x hx
      by_cases hlt : i < r.length
      · rw [if_pos hlt] at h
        exact h μ1 H1 _ le1 R1 ((L.mono le1).set hx)
      · rw [if_neg hlt] at h
        exact h.elim
    | exc c s1 =>
      rw [hm] at h
      exact fun μ' H' le R' => h μ' H' σ le R' (L.mono le)
    | stuck => rw [hm] at h; exact h⟩
end
end Ip
end PtIpComp
section PtIpMore
set_option Elab.async false
set_option linter.all false
set_option maxRecDepth 100000
/-! texts, dicts, sorted, any, all -/
namespace Ip
open PySem PySem.Spec PyProof.Rows L2

theorem VRs.bools {K : PySem.W.Frag} {μ : List Addr} {H : Hp} : ∀ {vs : List V} {ds : List DV} {is : List Bool}, VRs K μ H vs ds → bools? ds = some is → vs = is.map V.bl
  | _, _, _, .nil, e => by cases e; rfl
  | _, _, is, .cons h hs, e => by
    cases h with
    | bl i =>
      simp only [bools?] at e
      split at e
      · rename_i js hj
        cases e
        rw [VRs.bools hs hj]
        rfl
      · cases e
    | _ => cases e
theorem VRs.of_ints {K : PySem.W.Frag} {μ : List Addr} {H : Hp} : ∀ is : List Int, VRs K μ H (is.map V.int) (is.map DV.int)
  | [] => .nil
  | i :: is => .cons (.int i) (VRs.of_ints is)
theorem VRs.of_strs {K : PySem.W.Frag} {μ : List Addr} {H : Hp} : ∀ is : List Str, VRs K μ H (is.map V.str) (is.map DV.str)
  | [] => .nil
  | i :: is => .cons (.str i) (VRs.of_strs is)
section
variable {T : Tb} {X : Cx} {ex : Option (Addr × Nat)} {W : WX} {a b c e : Expr} {ca cb cc : CE} {pos : Pos} {es rest : List Expr} {ces : CEs}
theorem bi_any (hc : X.calm = true) : CallR X (.builtin "any") (rBi X.K .any) := by
  intro pins s σ H xs us Q I r h
  obtain ⟨μ, s0, ds, Wn, R, hv, h⟩ := h
  match hv with
  | .nil => exact h.elim
  | .cons hx .nil =>
    cases hx with
    | ref hm =>
      simp only [biV] at h
      cases hcl : cellL s0 _ with
      | none => rw [hcl] at h; exact h.elim
      | some ys =>
        rw [hcl] at h
        simp only [optR] at h
        cases hb : bools? ys with
        | none => rw [hb] at h; exact h.elim
        | some bs =>
          rw [hb] at h
          obtain ⟨vs, c1, c2⟩ := R.cellL hm hcl
          have e1 := c2.bools hb
          subst e1
          exact cr_any hc pins s σ H _ us Q I r ⟨_, bs, rfl, c1, h.ok R _ (.bl _)⟩
    | _ => exact h.elim
  | .cons hx (.cons hy hr) => cases hx <;> exact h.elim
theorem bi_all (hc : X.calm = true) : CallR X (.builtin "all") (rBi X.K .all) := by
  intro pins s σ H xs us Q I r h
  obtain ⟨μ, s0, ds, Wn, R, hv, h⟩ := h
  match hv with
  | .nil => exact h.elim
  | .cons hx .nil =>
    cases hx with
    | ref hm =>
      simp only [biV] at h
      cases hcl : cellL s0 _ with
      | none => rw [hcl] at h; exact h.elim
      | some ys =>
        rw [hcl] at h
        simp only [optR] at h
        cases hb : bools? ys with
        | none => rw [hb] at h; exact h.elim
        | some bs =>
          rw [hb] at h
          obtain ⟨vs, c1, c2⟩ := R.cellL hm hcl
          have e1 := c2.bools hb
          subst e1
          exact cr_all hc pins s σ H _ us Q I r ⟨_, bs, rfl, c1, h.ok R _ (.bl _)⟩
    | _ => exact h.elim
  | .cons hx (.cons hy hr) => cases hx <;> exact h.elim

/-! ### sorted -/
theorem ins_perm (x : Int) : ∀ l : List Int, (ins x l).Perm (x :: l)
  | [] => List.Perm.refl _
  | y :: ys => by
    unfold ins
    split
    · exact List.Perm.refl _
    · exact ((ins_perm x ys).cons y).trans (List.Perm.swap x y ys)
theorem isort_perm : ∀ l : List Int, (isort l).Perm l
  | [] => List.Perm.refl _
  | x :: xs => (ins_perm x (isort xs)).trans ((isort_perm xs).cons x)
theorem ins_sorted (x : Int) : ∀ l : List Int, l.Pairwise (· ≤ ·) → (ins x l).Pairwise (· ≤ ·)
  | [], _ => List.pairwise_singleton _ _
  | y :: ys, h => by
    unfold ins
    rw [List.pairwise_cons] at h
    split
    · rename_i hx
      refine List.pairwise_cons.mpr ⟨fun z hz => ?_, List.pairwise_cons.mpr h⟩
      rcases List.mem_cons.mp hz with rfl | hz
      · exact hx
      · have := h.1 z hz
        omega
    · rename_i hx
      refine List.pairwise_cons.mpr ⟨fun z hz => ?_, ins_sorted x ys h.2⟩
      rcases List.mem_cons.mp ((ins_perm x ys).mem_iff.mp hz) with rfl | hz
      · omega
      · exact h.1 z hz
theorem isort_sorted : ∀ l : List Int, (isort l).Pairwise (· ≤ ·)
  | [] => List.Pairwise.nil
  | x :: xs => ins_sorted x _ (isort_sorted xs)
theorem sorted_unique {l m : List Int} (hp : l.Perm m) (hl : l.Pairwise (· ≤ ·)) (hm : m.Pairwise (· ≤ ·)) : l = m :=
  List.Perm.eq_of_pairwise (fun a b _ _ h1 h2 => Int.le_antisymm h1 h2) hl hm hp
theorem bi_sorted : CallR X (.builtin "sorted") (rBi X.K .sorted) := by
  intro pins s σ H xs us Q I r h
  obtain ⟨μ, s0, ds, Wn, R, hv, h⟩ := h
  match hv with
  | .nil => exact h.elim
  | .cons hx .nil =>
    cases hx with
    | ref hm =>
      simp only [biV] at h
      cases hcl : cellL s0 _ with
      | none => rw [hcl] at h; exact h.elim
      | some ys =>
        rw [hcl] at h
        simp only [optR] at h
        cases hb : ints? ys with
        | none => rw [hb] at h; exact h.elim
        | some bs =>
          rw [hb] at h
          simp only at h
          split at h
          · rename_i h64
            obtain ⟨vs, c1, c2⟩ := R.cellL hm hcl
            have e1 := c2.ints hb
            subst e1
            refine cr_sorted pins s σ H _ us Q I r ⟨_, bs, rfl, c1, h64, fun ns' p h1 h2 hp => ?_⟩
            have e2 : ns' = isort bs := sorted_unique (h1.trans (isort_perm bs).symm) h2 (isort_sorted bs)
            subst e2
            refine h (μ ++ [p]) _ (le_new hp) (R.new hp (VRs.of_ints _) ?_) _ (ref_new R)
            rw [List.length_map, (isort_perm bs).length_eq]
            exact small64 h64
          · exact h.elim
    | _ => exact h.elim
  | .cons hx (.cons hy hr) => cases hx <;> exact h.elim

/-! ### methods of texts -/
def rSM (K : PySem.W.Frag) (m : SM) : V → List V → Hp → VK → Prop := fun x xs H Q => ∃ μ s z ds Wn, Rel K μ H s ∧ x = .str z ∧ VRs K μ H xs ds ∧ Go K μ H (smV m z ds s) Wn (fun μ' H' _ d => ∀ v, VR K μ' H' v d → Q v H')
theorem sm_join : MtR X "str.join" (rSM X.K .join) := by
  intro pins s σ H x xs v us Q I rx rs h
  obtain ⟨μ, s0, z, ds, Wn, R, rfl, hv, h⟩ := h
  match hv with
  | .nil => exact h.elim
  | .cons hx .nil =>
    cases hx with
    | ref hm =>
      simp only [smV] at h
      cases hcl : cellL s0 _ with
      | none => rw [hcl] at h; exact h.elim
      | some ys =>
        rw [hcl] at h
        simp only [optR] at h
        cases hb : strs? ys with
        | none => rw [hb] at h; exact h.elim
        | some bs =>
          rw [hb] at h
          simp only at h
          split at h
          · rename_i hz
            obtain ⟨vs, c1, c2⟩ := R.cellL hm hcl
            have e1 := c2.strs hb
            subst e1
            exact mt_join pins s σ H _ _ v us Q I rx rs ⟨z, _, bs, rfl, rfl, .inl c1, hz, h.ok R _ (.str _)⟩
          · exact h.elim
    | _ => exact h.elim
  | .cons hx (.cons hy hr) => cases hx <;> exact h.elim
theorem sm_split : MtR X "str.split" (rSM X.K .split) := by
  intro pins s σ H x xs v us Q I rx rs h
  obtain ⟨μ, s0, z, ds, Wn, R, rfl, hv, h⟩ := h
  match hv with
  | .nil => exact h.elim
  | .cons hx .nil =>
    cases hx with
    | str y =>
      simp only [smV] at h
      split at h
      · rename_i hz
        refine mt_split pins s σ H _ _ v us Q I rx rs ⟨z, y, rfl, rfl, hz.1, hz.2.1, fun p hp => ?_⟩
        refine h (μ ++ [p]) _ (le_new hp) (R.new hp (VRs.of_strs _) ?_) _ (ref_new R)
        rw [List.length_map]
        exact hz.2.2
      · exact h.elim
    | _ => exact h.elim
  | .cons hx (.cons hy hr) => cases hx <;> exact h.elim
theorem sm_partition : MtR X "str.partition" (rSM X.K .partition) := by
  intro pins s σ H x xs v us Q I rx rs h
  obtain ⟨μ, s0, z, ds, Wn, R, rfl, hv, h⟩ := h
  match hv with
  | .nil => exact h.elim
  | .cons hx .nil =>
    cases hx with
    | str y =>
      simp only [smV] at h
      split at h
      · rename_i hz
        exact mt_partZ pins s σ H _ _ v us Q I rx rs ⟨z, y, rfl, rfl, hz.1, hz.2, fun p o hp hd => h μ _ (le_upd hp) (R.upd hp) _ (.tup (TupP.of upd_same hd) (.cons (.str _) (.cons (.str _) (.cons (.str _) .nil))))⟩
      · exact h.elim
    | _ => exact h.elim
  | .cons hx (.cons hy hr) => cases hx <;> exact h.elim
theorem sm_startswith : MtR X "str.startswith" (rSM X.K .startswith) := by
  intro pins s σ H x xs v us Q I rx rs h
  obtain ⟨μ, s0, z, ds, Wn, R, rfl, hv, h⟩ := h
  match hv with
  | .nil => exact h.elim
  | .cons hx .nil =>
    cases hx with
    | str y => exact mt_startswith pins s σ H _ _ v us Q I rx rs ⟨z, y, rfl, rfl, h.ok R _ (.bl _)⟩
    | _ => exact h.elim
  | .cons hx (.cons hy hr) => cases hx <;> exact h.elim
theorem sm_isascii : MtR X "str.isascii" (rSM X.K .isascii) := by
  intro pins s σ H x xs v us Q I rx rs h
  obtain ⟨μ, s0, z, ds, Wn, R, rfl, hv, h⟩ := h
  match hv with
  | .nil => exact mt_isascii pins s σ H _ _ v us Q I rx rs ⟨z, rfl, rfl, trivial, h.ok R _ (.bl _)⟩
  | .cons hx hr => exact h.elim
theorem sm_isdigit : MtR X "str.isdigit" (rSM X.K .isdigit) := by
  intro pins s σ H x xs v us Q I rx rs h
  obtain ⟨μ, s0, z, ds, Wn, R, rfl, hv, h⟩ := h
  match hv with
  | .nil => exact mt_isdigit pins s σ H _ _ v us Q I rx rs ⟨z, rfl, rfl, trivial, h.ok R _ (.bl _)⟩
  | .cons hx hr => exact h.elim
theorem se_sm1 (m : SM) {id : String} {name : Str} {apos : Pos} (slot : Slot "str" name id) (ty : typeOf (.builtin id) = pure (.type "method_descriptor")) (rule : MtR X id (rSM X.K m)) (ha : SE T X ex W a ca) (hb : SE T X ex W b cb)
    (hs : starEach [b] X.env = [(false, eval b X.env)] := by rfl) (hbase : attributeBase a name X.env (eval a X.env) = eval a X.env := by rfl) (hline : (apos.endLine == pos.line) = true := by rfl) :
    SE T X ex W (.Call (.Attribute a name apos) [b] [] pos) (.smeth m ca (.cons cb .nil)) := ⟨(pe_m1 slot ty rule ha.pe hb.pe hs hbase hline).imp fun σ H Q h => by
  obtain ⟨μ, r, s, R, L, h⟩ := h
  refine ⟨μ, r, s, R, L, h.bind.map fun μ1 H1 s1 x le1 R1 h1 v1 hv1 => ?_⟩
  cases hv1 with
  | str z =>
    refine ⟨⟨z, rfl⟩, μ1, r, s1, R1, L.mono le1, ?_⟩
    simp only [evEs] at h1
    rw [Res.bind_assoc] at h1
    refine h1.bind.map fun μ2 H2 s2 y le2 R2 h2 w hw => ?_
    exact ⟨μ2, s2, z, [y], _, R2, rfl, .cons hw .nil, h2⟩
  | _ => exact h1.elim⟩
theorem se_sm0 (m : SM) {id : String} {name : Str} {apos : Pos} (slot : Slot "str" name id) (ty : typeOf (.builtin id) = pure (.type "method_descriptor")) (rule : MtR X id (rSM X.K m)) (ha : SE T X ex W a ca)
    (hbase : attributeBase a name X.env (eval a X.env) = eval a X.env := by rfl) (hline : (apos.endLine == pos.line) = true := by rfl) :
    SE T X ex W (.Call (.Attribute a name apos) [] [] pos) (.smeth m ca .nil) := ⟨(pe_m0 slot ty rule ha.pe hbase hline).imp fun σ H Q h => by
  obtain ⟨μ, r, s, R, L, h⟩ := h
  refine ⟨μ, r, s, R, L, h.bind.map fun μ1 H1 s1 x le1 R1 h1 v1 hv1 => ?_⟩
  cases hv1 with
  | str z => exact ⟨⟨z, rfl⟩, μ1, s1, z, [], _, R1, rfl, .nil, h1⟩
  | _ => exact h1.elim⟩

/-! ### len(set(text)) -/
def tLenSetC (ta : TE) : TE := fun σ H Q => ta σ H fun x H1 => ∃ z : Str, x = .str z ∧ z.cps.size + 1 < scanBound ∧ Q (.int (IpS.metC (IpS.sgn z) z.cps.size).length) H1
theorem pe_lenSetC {ta : TE} {p p2 q pos : Pos} (hg : Gl X "len") (hm : X.mg "len" = none) (hg2 : Gl X "set") (hm2 : X.mg "set" = none) (ha : PE X a ta) (hc : X.calm = true := by rfl)
    (na : starEach [a] X.env = (false, eval a X.env) :: starEach [] X.env := by rfl) : PE X (.Call (.Name "len" p) [.Call (.Name "set" p2) [a] [] q] [] pos) (tLenSetC ta) := by
  refine ⟨fun pins s σ H Q I h => Call_ (ld_blt I hg hm boot_len (PyProof.Rows.callWith_builtin1 (PyProof.Rows.args_cons (Call_ (ld_blt I hg2 hm2 boot_set (PyProof.Rows.callWith_type1 (PyProof.Rows.args_cons (thn (ha.run pins s σ H _ I h) fun v t q => PyProof.Rows.args_nil ?_) na) na rfl))) rfl) rfl rfl))⟩
  obtain ⟨_, H1, I1, rv, z, rfl, few, q1⟩ := q
  obtain ⟨tk0, rfl⟩ := rv
  apply IpS.call_set_text (I1.ok.hd hc) few
  rintro h' tk ⟨o, es, ep, tb, ho, hex, hd, _, _, _, hf, hn⟩ keep
  have I2 := I1.kept (t' := tk) fun b u e => keep b u (Heap.lt_size e) e
  have le := IpS.metC_le (IpS.sgn z) z.cps.size
  exact PyProof.Rows.args_nil (call_len_set ho hex hd hf (by rw [hn]; unfold scanBound at few; omega) ⟨.int _, H1, I2.tok _, ⟨_, by rw [hn]⟩, q1⟩)
theorem se_lenset {p p2 q pos : Pos} (hm : X.mg "len" = none) (hm2 : X.mg "set" = none) (ha : SE T X ex W a ca) (hg : Gl X "len" := by rfl) (hg2 : Gl X "set" := by rfl) (hc : X.calm = true := by rfl)
    (na : starEach [a] X.env = (false, eval a X.env) :: starEach [] X.env := by rfl) : SE T X ex W (.Call (.Name "len" p) [.Call (.Name "set" p2) [a] [] q] [] pos) (.bi .lenset (.cons ca .nil)) := ⟨(pe_lenSetC hg hm hg2 hm2 ha.pe hc na).imp fun σ H Q h => by
  obtain ⟨μ, r, s, R, L, h⟩ := h
  simp only [evE, evEs] at h
  rw [Res.bind_assoc] at h
  refine ⟨μ, r, s, R, L, h.bind.map fun μ1 H1 s1 x le1 R1 h1 v1 hv1 => ?_⟩
  simp only [Res.bind] at h1
  cases hv1 with
  | str z =>
    simp only [biV] at h1
    split at h1
    · rename_i hl
      exact ⟨z, rfl, hl, h1.ok R1 _ (.int _)⟩
    · exact h1.elim
  | _ => exact h1.elim⟩
end
end Ip
end PtIpMore
section PtIpDict
set_option Elab.async false
set_option linter.all false
set_option maxRecDepth 100000
/-! dicts: dict(t) of a tuple of pairs, d.get(k, x) -/
namespace Ip
open PySem PySem.Spec PyProof.Rows L2
/-! ### what a dict holds -/
/-- the same keys, values that go together -/
inductive KR (K : PySem.W.Frag) (μ : List Addr) (H : Hp) : List (Key × V) → List (Key × DV) → Prop
  | nil : KR K μ H [] []
  | cons {k : Key} {v : V} {d : DV} {ws : List (Key × V)} {ks : List (Key × DV)} : VR K μ H v d → KR K μ H ws ks → KR K μ H ((k, v) :: ws) ((k, d) :: ks)
section
variable {K : PySem.W.Frag} {μ μ' : List Addr} {H H' : Hp}
theorem KR.both {ws : List (Key × V)} {ks : List (Key × DV)} (h : KR K μ H ws ks) : ws.map (·.1) = ks.map (·.1) ∧ VRs K μ H (ws.map (·.2)) (ks.map (·.2)) := by
  induction h with
  | nil => exact ⟨rfl, .nil⟩
  | cons r _ ih => exact ⟨by rw [List.map_cons, List.map_cons, ih.1], .cons r ih.2⟩
theorem KR.of : ∀ {ws : List (Key × V)} {ks : List (Key × DV)}, ws.map (·.1) = ks.map (·.1) → VRs K μ H (ws.map (·.2)) (ks.map (·.2)) → KR K μ H ws ks
  | [], [], _, _ => .nil
  | [], _ :: _, e, _ => by simp at e
  | _ :: _, [], e, _ => by simp at e
  | (k, v) :: ws, (k', d) :: ks, e, r => by
    rw [List.map_cons, List.map_cons, List.cons.injEq] at e
    obtain rfl : k = k' := e.1
    rw [List.map_cons, List.map_cons] at r
    cases r with
    | cons r t => exact .cons r (KR.of e.2 t)
theorem KR.len {ws : List (Key × V)} {ks : List (Key × DV)} (h : KR K μ H ws ks) : ws.length = ks.length := by
  induction h with
  | nil => rfl
  | cons _ _ ih => rw [List.length_cons, List.length_cons, ih]
theorem KR.some_in {ws : List (Key × V)} {ks : List (Key × DV)} (h : KR K μ H ws ks) (k : Key) : (ws.any fun z => decide (z.1 = k)) = ks.any fun z => decide (z.1 = k) := by
  induction h with
  | nil => rfl
  | cons _ _ ih => rw [List.any_cons, List.any_cons, ih]
theorem KR.at_end {ws : List (Key × V)} {ks : List (Key × DV)} {k : Key} {v : V} {d : DV} (h : KR K μ H ws ks) (r : VR K μ H v d) : KR K μ H (ws ++ [(k, v)]) (ks ++ [(k, d)]) := by
  induction h with
  | nil => exact .cons r .nil
  | cons q _ ih => exact .cons q ih
theorem KR.over {ws : List (Key × V)} {ks : List (Key × DV)} {k : Key} {v : V} {d : DV} (h : KR K μ H ws ks) (r : VR K μ H v d) :
    KR K μ H (ws.map fun z => if z.1 = k then (z.1, v) else z) (ks.map fun z => if z.1 = k then (z.1, d) else z) := by
  induction h with
  | nil => exact .nil
  | @cons k0 v0 d0 ws0 ks0 q _ ih =>
    rw [List.map_cons, List.map_cons]
    by_cases e : k0 = k
    · rw [if_pos e, if_pos e]
      exact .cons r ih
    · rw [if_neg e, if_neg e]
      exact .cons q ih
theorem KR.put {ws : List (Key × V)} {ks : List (Key × DV)} {k : Key} {v : V} {d : DV} (h : KR K μ H ws ks) (r : VR K μ H v d) : KR K μ H (putK ws k v) (putD ks k d) := by
  unfold putK putD
  rw [h.some_in k]
  split
  · exact h.over r
  · exact h.at_end r
theorem KR.fill {ws : List (Key × V)} {ks : List (Key × DV)} (h : KR K μ H ws ks) : ∀ {us : List (Key × V)} {ls : List (Key × DV)}, KR K μ H us ls → KR K μ H (mergeK us ws) (mergeD ls ks) := by
  induction h with
  | nil => exact fun q => q
  | cons r _ ih => exact fun q => ih (q.put r)
theorem KR.find {ws : List (Key × V)} {ks : List (Key × DV)} (h : KR K μ H ws ks) (k : Key) {v : V} {d : DV} (r : VR K μ H v d) : VR K μ H ((valV ws k).getD v) ((getD ks k).getD d) := by
  induction h with
  | nil => exact r
  | @cons k0 v0 d0 ws0 ks0 q _ ih =>
    unfold valV getD at ih ⊢
    rw [List.find?_cons, List.find?_cons]
    by_cases e : k0 = k
    · simp only [e, decide_true]
      exact q
    · simp only [e, decide_false]
      exact ih
theorem key_kV {v : V} {d : DV} {k : Key} (r : VR K μ H v d) (e : key? d = some k) : v = kV k := by
  cases r <;> cases e <;> rfl
/-- the pairs in a tuple -/
theorem pairs_kr : ∀ {vs : List V} {ds : List DV} {ks : List (Key × DV)}, VRs K μ H vs ds → pairs? ds = some ks →
    ∃ (ps : List Addr) (ws : List (Key × V)), vs = ps.map V.ref ∧ Paired (fun p z => SqT K H p [kV z.1, z.2]) ps ws ∧ KR K μ H ws ks
  | _, _, _, .nil, e => by
    cases e
    exact ⟨[], [], rfl, .nil, .nil⟩
  | _, _, _, .cons (d := d) (ds := ds) r t, e => by
    cases r with
    | @tup a us zs q1 q2 =>
      cases q2 with
      | nil => cases e
      | @cons k0 _ kd _ ra q3 =>
        cases q3 with
        | nil => cases e
        | @cons v0 _ vd _ rb q4 =>
          cases q4 with
          | cons _ _ => cases e
          | nil =>
            rw [show pairs? (.tup [kd, vd] :: ds) = (match key? kd, pairs? ds with | some k, some kvs => some ((k, vd) :: kvs) | _, _ => none) from rfl] at e
            cases hk : key? kd with
            | none => rw [hk] at e; cases e
            | some k =>
              cases hp : pairs? ds with
              | none => rw [hk, hp] at e; cases e
              | some ks0 =>
                rw [hk, hp] at e
                cases e
                obtain ⟨ps, ws, e1, e2, e3⟩ := pairs_kr t hp
                have := key_kV ra hk
                subst this
                subst e1
                exact ⟨_ :: ps, (k, _) :: ws, rfl, .cons q1.sq e2, .cons rb e3⟩
    | _ => cases e
end
section
variable {X : Cx}
theorem parts_of {pins : List (Addr × Obj)} {σ : L2.St} {H : Hp} {s : Shared} (I : Inv X pins σ H s) : ∀ {ps : List Addr} {ws : List (Key × V)}, Paired (fun p z => SqT X.K H p [kV z.1, z.2]) ps ws →
    ∃ (qs : List (Value × Value)) (rs : List (Key × Value)), KV ws rs ∧ rs.length = ps.length ∧ qs.length = ps.length ∧
      ∀ (j : Nat) (a b : Value), qs[j]? = some (a, b) → ∃ p k, ps[j]? = some p ∧ s.heap.IsTuple p #[a, b] ∧ rs[j]? = some (k, b) ∧ keyIs k a = true
  | _, _, .nil => ⟨[], [], .nil, rfl, rfl, fun j a b e => by simp at e⟩
  | _, _, .cons (a := p) (b := z) h t => by
    obtain ⟨qs, rs, r, l1, l2, hq⟩ := parts_of I t
    obtain ⟨its, rv, ht, _⟩ := I.tuple h
    obtain ⟨u, y, rfl, ru, ry⟩ := vals2 rv
    refine ⟨(u, y) :: qs, (z.1, y) :: rs, .cons ⟨rfl, ry⟩ r, by rw [List.length_cons, List.length_cons, l1], by rw [List.length_cons, List.length_cons, l2], fun j a b e => ?_⟩
    cases j with
    | zero =>
      cases e
      exact ⟨p, z.1, rfl, ht, rfl, kV_is (P := X.prog) (w := X.w) ru⟩
    | succ j => exact hq j a b e
/-- dict(t), t a tuple of pairs (key, value) -/
theorem cr_dictZ (hc : X.calm = true) : CallR X (.type "dict") (fun xs H Q => ∃ a ps ws, xs = [.ref a] ∧ TupP X.K H a (ps.map V.ref) ∧ Paired (fun p z => SqT X.K H p [kV z.1, z.2]) ps ws ∧ ws.length ≤ sizeLine ∧
    ∀ p, H p = none → Q (.ref p) (upd H p (.dK (mergeK [] ws)))) := by
  rintro pins s σ H xs us Q I r ⟨a, ps, ws, rfl, ht, hp, hz, q⟩
  rw [Vals.ref1 r]
  obtain ⟨its, rv, pl, _⟩ := tup_plain I ht
  rw [refs_at rv] at pl
  obtain ⟨qs, rs, rk, l1, l2, hq⟩ := parts_of I hp
  have P := PairArg.tuple (prog := X.prog) (w := X.w) a (ps.map Value.ref).toArray (fun j => ps.getD j 0) qs
  refine PySem.call_dict_pairs (knd := mixKind X.prog X.w) (kvs := rs) P (I.ok.hd hc) ⟨pl, by simp [l2], fun j k v e => ?_⟩ ⟨by rw [l1, l2], fun j k v e => ?_⟩ (by rw [l2, ← l1, ← rk.length]; exact hz) fun h' tk hd kp => ?_
  · obtain ⟨p, _, e1, e2, _⟩ := hq j k v e
    refine ⟨by simp [e1], .inl ?_⟩
    show s.heap.IsTuple (ps.getD j 0) _
    rw [List.getD_eq_getElem?_getD, e1]
    exact e2
  · obtain ⟨p, k', _, _, e3, e4⟩ := hq j k v e
    exact ⟨k', e3, e4⟩
  · have n : (mergeK [] ws).length ≤ sizeLine := by
      have := length_mergeK ws []
      rw [List.length_nil] at this
      omega
    exact ⟨.ref s.heap.objs.size, _, I.laid (o := .dK (mergeK [] ws)) (t' := tk) (fun b o e => kp b o (by simp) e) (Nat.le_refl _) ⟨n, beq_eq_false_iff_ne.mpr (Nat.ne_of_gt I.big), _, KV.merge rk .nil, hd⟩, rfl, q _ (I.hok.fresh (Nat.le_refl _))⟩
theorem bi_dict (hc : X.calm = true) : CallR X (.type "dict") (rBi X.K .dict) := by
  intro pins s σ H xs us Q I r h
  obtain ⟨μ, s0, ds, Wn, R, hv, h⟩ := h
  match hv with
  | .nil => exact h.elim
  | .cons hx .nil =>
    cases hx with
    | tup h1 h2 =>
      simp only [biV] at h
      cases hk : pairs? _ with
      | none => rw [hk] at h; exact h.elim
      | some ks =>
        rw [hk] at h
        obtain ⟨ps, ws, e1, e2, e3⟩ := pairs_kr h2 hk
        subst e1
        have hz : ws.length ≤ sizeLine := by
          obtain ⟨its, rv, _, hz⟩ := I.tuple h1.sq
          rw [List.length_map, e2.length] at hz
          exact hz
        refine cr_dictZ hc pins s σ H _ us Q I r ⟨_, ps, ws, rfl, h1, e2, hz, fun p hp => ?_⟩
        have e4 : KR X.K μ H (mergeK [] ws) (mergeD [] ks) := e3.fill .nil
        have n : (mergeD [] ks).length ≤ sizeLine := by
          rw [← e4.len]
          have := length_mergeK ws []
          rw [List.length_nil] at this
          omega
        exact h (μ ++ [p]) _ (le_new hp) (R.newD hp e4.both.1 e4.both.2 n) _ (ref_new R)
    | _ => exact h.elim
  | .cons hx (.cons hy hr) => cases hx <;> exact h.elim
variable {T : Tb} {ex : Option (Addr × Nat)} {W : WX} {a b c : Expr} {ca cb cc : CE} {pos apos : Pos}
/-- d.get(k, x) -/
theorem se_get2 (hu : X.A.units + 64 < cLine) (ha : SE T X ex W a ca) (hb : SE T X ex W b cb) (hc : SE T X ex W c cc) (m : M2 X a "get" apos b c pos) : SE T X ex W (.Call (.Attribute a "get" apos) [b, c] [] pos) (.get2 ca cb cc) :=
  ⟨(pe_dget2 (Nat.lt_of_le_of_lt (Nat.add_le_add_left (by decide) _) hu) ha.pe hb.pe hc.pe m).imp fun σ H Q h => by
    obtain ⟨μ, r, s, R, L, h⟩ := h
    refine ⟨μ, r, s, R, L, h.bind.map fun μ1 H1 s1 x le1 R1 h1 v hv => ?_⟩
    cases hv with
    | ref hm =>
      simp only at h1
      split at h1
      · rename_i ks0 hc0
        obtain ⟨ws0, d0, _⟩ := R1.at_ _ _ _ hm hc0
        refine ⟨_, rfl, .inl ⟨_, .inl d0⟩, μ1, r, s1, R1, L.mono le1, h1.bind.map fun μ2 H2 s2 y le2 R2 h2 w hw => ?_⟩
        refine ⟨μ2, r, s2, R2, (L.mono le1).mono le2, h2.bind.map fun μ3 H3 s3 z le3 R3 h3 u hu => ?_⟩
        split at h3
        · rename_i ks hc3
          obtain ⟨ws, d3, k1, k2, _⟩ := R3.at_ _ _ _ (le3.pre _ _ (le2.pre _ _ hm)) hc3
          cases hk : key? y with
          | none => rw [hk] at h3; exact h3.elim
          | some k =>
            rw [hk] at h3
            have := key_kV hw hk
            subst this
            exact ⟨_, DGet.k d3, h3.ok R3 _ ((KR.of k1 k2).find k hu)⟩
        · exact h3.elim
      · exact h1.elim
    | _ => exact h1.elim⟩
end
end Ip
end PtIpDict
section PtIpPick
set_option Elab.async false
set_option linter.all false
set_option maxRecDepth 100000
/-! tables of defs, constants that are tuples, max and min of a tuple -/
namespace Ip
open PySem PySem.Spec PyProof.Rows L2
section
variable {T : Tb} {X : Cx} {ex : Option (Addr × Nat)} {W : WX} {a b c e : Expr} {ca cb cc ce : CE} {pos : Pos} {es rest : List Expr} {ces : CEs}
/-! ### a constant that is a tuple -/
/-- a tuple of constants of the top -/
def KTup (K : PySem.W.Frag) (a : Addr) (vs : List V) : Prop := ∃ (o : Obj) (its : Array Value) (n : Nat), K.lookup a = some o ∧ o.cls = .type "tuple" ∧ o.dict = none ∧ o.data = .seq its n ∧ its.size ≤ sizeLine ∧ Vals vs its.toList
theorem se_globT (g : Nat) {x : Str} {xs : List Str} {p : Pos} (hG : T.G g = some (.tup (xs.map DV.str))) (hm : ∃ a, X.mg x = some (.ref a) ∧ KTup X.K a (xs.map V.str)) (hg : Gl X x := by rfl) (hd : (x == ("__debug__" : Str)) = false := by decide) : SE T X ex W (.Name x p) (.glob g) := by
  obtain ⟨a, hm, hk⟩ := hm
  exact ⟨(pe_glob (v := .ref a) hg hm rfl hd).imp fun σ H Q h => by
    obtain ⟨μ, r, s, R, L, h⟩ := h
    simp only [evE, hG] at h
    exact h.ok R _ (.tup (.const hk) (VRs.of_strs xs))⟩
/-! a constant of the top: tuples in tuples -/
mutual
inductive KC (K : PySem.W.Frag) : V → DV → Prop
  | non : KC K .non .non
  | bl (b : Bool) : KC K (.bl b) (.bl b)
  | int (i : Int) : KC K (.int i) (.int i)
  | str (x : Str) : KC K (.str x) (.str x)
  | tup {a : Addr} {vs : List V} {ds : List DV} : KTup K a vs → KCs K vs ds → KC K (.ref a) (.tup ds)
inductive KCs (K : PySem.W.Frag) : List V → List DV → Prop
  | nil : KCs K [] []
  | cons {v : V} {vs : List V} {d : DV} {ds : List DV} : KC K v d → KCs K vs ds → KCs K (v :: vs) (d :: ds)
end
mutual
theorem KC.vr {K : PySem.W.Frag} {μ : List Addr} {H : Hp} : ∀ {v : V} {d : DV}, KC K v d → VR K μ H v d
  | _, _, .non => .non
  | _, _, .bl b => .bl b
  | _, _, .int i => .int i
  | _, _, .str x => .str x
  | _, _, .tup h hs => .tup (.const h) (KCs.vr hs)
theorem KCs.vr {K : PySem.W.Frag} {μ : List Addr} {H : Hp} : ∀ {vs : List V} {ds : List DV}, KCs K vs ds → VRs K μ H vs ds
  | _, _, .nil => .nil
  | _, _, .cons h hs => .cons (KC.vr h) (KCs.vr hs)
end
theorem se_globC (g : Nat) {x : Str} {d : DV} {p : Pos} (hG : T.G g = some d) (hm : ∃ a, X.mg x = some (.ref a) ∧ KC X.K (.ref a) d) (hg : Gl X x := by rfl) (hd : (x == ("__debug__" : Str)) = false := by decide) : SE T X ex W (.Name x p) (.glob g) := by
  obtain ⟨a, hm, hk⟩ := hm
  exact ⟨(pe_glob (v := .ref a) hg hm rfl hd).imp fun σ H Q h => by
    obtain ⟨μ, r, s, R, L, h⟩ := h
    simp only [evE, hG] at h
    exact h.ok R _ hk.vr⟩
/-! ### max, min of a tuple of ints -/
theorem reads_ints {h : Heap} : ∀ {ns : List Int} {us : List Value}, Vals (ns.map V.int) us → ∃ as, ReadsAll h us (ns.map PyData.int) as
  | [], _, .nil => ⟨_, .nil⟩
  | n :: ns, _, .cons r t => by
    obtain ⟨k, rfl⟩ := r
    obtain ⟨as, q⟩ := reads_ints t
    exact ⟨_, .cons (.int n k) q⟩
theorem alike_ints (ns : List Int) : PySem.W.AlikeAll (ns.map PyData.int) := by
  refine ⟨fun x hx y hy => ?_, fun x hx => ?_⟩
  · obtain ⟨i, _, rfl⟩ := List.mem_map.mp hx
    obtain ⟨j, _, rfl⟩ := List.mem_map.mp hy
    rfl
  · obtain ⟨i, _, rfl⟩ := List.mem_map.mp hx
    intro e
    cases e
theorem depth_ints : ∀ ns : List Int, PyData.depthAll (ns.map PyData.int) = 0
  | [] => rfl
  | n :: ns => by
    simp only [List.map_cons, PyData.depthAll, PyData.depth, depth_ints ns]
    rfl
theorem bi_max1 (hc : X.calm = true) (hu : X.A.units + 64 < cLine) : CallR X (.builtin "max") (rBi X.K .max1) := by
  intro pins s σ H xs us Q I r h
  obtain ⟨μ, s0, ds, Wn, R, hv, h⟩ := h
  match hv with
  | .nil => exact h.elim
  | .cons hx .nil =>
    cases hx with
    | tup h1 h2 =>
      simp only [biV] at h
      cases hb : ints? _ with
      | none => rw [hb] at h; exact h.elim
      | some is =>
        rw [hb] at h
        simp only [optR] at h
        cases is with
        | nil => exact h.elim
        | cons i is =>
          have e1 := h2.ints hb
          subst e1
          obtain ⟨its, rv, hl, _⟩ := I.tuple h1.sq
          rw [Vals.ref1 r]
          obtain ⟨as, hr⟩ := reads_ints rv
          refine PySem.W.max_tuple_data (I.ok.hd hc) (vs := its.toArray) hl (by simpa using hr) (alike_ints (i :: is)) (by rw [show PyData.depthAll (PyData.int i :: is.map PyData.int) = 0 from depth_ints (i :: is)]; omega) fun j v h' tk bs _ hv hk => ?_
          rw [PySem.W.maxD_ints] at hv
          cases hv
          exact ⟨.int _, H, I.kept hk, ⟨_, rfl⟩, h.ok R _ (.int _)⟩
    | ref hm =>
      simp only [biV] at h
      cases hcl : cellL s0 _ with
      | none => rw [hcl] at h; exact h.elim
      | some ds =>
        rw [hcl] at h
        simp only [optR] at h
        cases hb : ints? ds with
        | none => rw [hb] at h; exact h.elim
        | some is =>
          rw [hb] at h
          simp only [optR] at h
          cases is with
          | nil => exact h.elim
          | cons i is =>
            obtain ⟨vs, c1, c2⟩ := R.cellL hm hcl
            have e1 := c2.ints hb
            subst e1
            obtain ⟨its, rv, hl, _⟩ := I.list c1
            rw [Vals.ref1 r]
            obtain ⟨as, hr⟩ := reads_ints rv
            refine PySem.W.max_list_data (I.ok.hd hc) (vs := its.toArray) hl.isList (by simpa using hr) (alike_ints (i :: is)) (by rw [show PyData.depthAll (PyData.int i :: is.map PyData.int) = 0 from depth_ints (i :: is)]; omega) fun j v h' tk bs _ hv hk => ?_
            rw [PySem.W.maxD_ints] at hv
            cases hv
            exact ⟨.int _, H, I.kept hk, ⟨_, rfl⟩, h.ok R _ (.int _)⟩
    | _ => exact h.elim
  | .cons hx (.cons hy hr) => cases hx <;> exact h.elim
theorem bi_min1 (hc : X.calm = true) (hu : X.A.units + 64 < cLine) : CallR X (.builtin "min") (rBi X.K .min1) := by
  intro pins s σ H xs us Q I r h
  obtain ⟨μ, s0, ds, Wn, R, hv, h⟩ := h
  match hv with
  | .nil => exact h.elim
  | .cons hx .nil =>
    cases hx with
    | tup h1 h2 =>
      simp only [biV] at h
      cases hb : ints? _ with
      | none => rw [hb] at h; exact h.elim
      | some is =>
        rw [hb] at h
        simp only [optR] at h
        cases is with
        | nil => exact h.elim
        | cons i is =>
          have e1 := h2.ints hb
          subst e1
          obtain ⟨its, rv, hl, _⟩ := I.tuple h1.sq
          rw [Vals.ref1 r]
          obtain ⟨as, hr⟩ := reads_ints rv
          refine PySem.W.min_tuple_data (I.ok.hd hc) (vs := its.toArray) hl (by simpa using hr) (alike_ints (i :: is)) (by rw [show PyData.depthAll (PyData.int i :: is.map PyData.int) = 0 from depth_ints (i :: is)]; omega) fun j v h' tk bs _ hv hk => ?_
          rw [PySem.W.minD_ints] at hv
          cases hv
          exact ⟨.int _, H, I.kept hk, ⟨_, rfl⟩, h.ok R _ (.int _)⟩
    | ref hm =>
      simp only [biV] at h
      cases hcl : cellL s0 _ with
      | none => rw [hcl] at h; exact h.elim
      | some ds =>
        rw [hcl] at h
        simp only [optR] at h
        cases hb : ints? ds with
        | none => rw [hb] at h; exact h.elim
        | some is =>
          rw [hb] at h
          simp only [optR] at h
          cases is with
          | nil => exact h.elim
          | cons i is =>
            obtain ⟨vs, c1, c2⟩ := R.cellL hm hcl
            have e1 := c2.ints hb
            subst e1
            obtain ⟨its, rv, hl, _⟩ := I.list c1
            rw [Vals.ref1 r]
            obtain ⟨as, hr⟩ := reads_ints rv
            refine PySem.W.min_list_data (I.ok.hd hc) (vs := its.toArray) hl.isList (by simpa using hr) (alike_ints (i :: is)) (by rw [show PyData.depthAll (PyData.int i :: is.map PyData.int) = 0 from depth_ints (i :: is)]; omega) fun j v h' tk bs _ hv hk => ?_
            rw [PySem.W.minD_ints] at hv
            cases hv
            exact ⟨.int _, H, I.kept hk, ⟨_, rfl⟩, h.ok R _ (.int _)⟩
    | _ => exact h.elim
  | .cons hx (.cons hy hr) => cases hx <;> exact h.elim
theorem bi_sum (hc : X.calm = true) : CallR X (.builtin "sum") (rBi X.K .sum) := by
  intro pins s σ H xs us Q I r h
  obtain ⟨μ, s0, ds, Wn, R, hv, h⟩ := h
  match hv with
  | .nil => exact h.elim
  | .cons hx .nil =>
    cases hx with
    | ref hm =>
      simp only [biV] at h
      cases hcl : cellL s0 _ with
      | none => rw [hcl] at h; exact h.elim
      | some ds =>
        rw [hcl] at h
        simp only [optR] at h
        cases hb : ints? ds with
        | none => rw [hb] at h; exact h.elim
        | some is =>
          rw [hb] at h
          obtain ⟨vs, c1, c2⟩ := R.cellL hm hcl
          have e1 := c2.ints hb
          subst e1
          exact cr_sum hc pins s σ H _ us Q I r ⟨_, is, rfl, c1, h.ok R _ (.int _)⟩
    | _ => exact h.elim
  | .cons hx (.cons hy hr) => cases hx <;> exact h.elim
/-! ### a table of defs: y = table[key]; return y(..) -/
def PickAt (T : Tb) (X : Cx) (k : Nat) (aT : Addr) (np : Nat) (z : Str) (f : Nat) : Prop := ∃ (ad : Addr) (fd : FuncData) (ps : List Str), KDct X.K X.w aT z (.ref ad) ∧
  FnOk X.prog X.w X.K X.mg X.base (L2.CX X.prog X.w) k ad fd ps (spC T X.K f np) ∧ ps.length = np ∧ PySem.W.keepIn X.K (.ref ad) = true ∧ Binds X.K fd ps []
theorem pick_nil {k : Nat} {aT : Addr} {np : Nat} : ∀ z f, ([] : List (Str × Nat)).lookup z = some f → PickAt T X k aT np z f := fun z f h => by cases h
theorem pick_cons {k : Nat} {aT : Addr} {np : Nat} {z0 : Str} {f0 : Nat} {kvs : List (Str × Nat)} (h : PickAt T X k aT np z0 f0) (hr : ∀ z f, kvs.lookup z = some f → PickAt T X k aT np z f) : ∀ z f, ((z0, f0) :: kvs).lookup z = some f → PickAt T X k aT np z f := fun z f q => by
  rw [List.lookup_cons] at q
  split at q
  · rename_i e
    cases q
    have e' : z = z0 := eq_of_beq e
    subst e'
    exact h
  · exact hr z f q
/-- a local that holds a def, called -/
theorem pe_callV {i : Nat} {k : Nat} {f : Addr} {fd : FuncData} {ps : List Str} {sp : Sp} {E : L2.St → XK} {x : Str} {p : Pos} {t : TA} (F : FnOk X.prog X.w X.K X.mg X.base (L2.CX X.prog X.w) k f fd ps sp) (hr : Room k X.A) (hk : PySem.W.keepIn X.K (.ref f) = true) (hb : Binds X.K fd ps []) (hx : ∀ σ, PassesAt (L2.CX X.prog X.w) X σ (E σ))
    (hN : X.N[i]? = some x) (hv : Vis X.env.scope x) (ha : PA X (e :: es) t)
    (hd : (x == ("__debug__" : Str)) = false := by decide) (hcd : (x == ("__classdict__" : Str)) = false := by decide)
    (he : starEach (e :: es) X.env = (false, eval e X.env) :: starEach es X.env := by rfl) (hpl : (backTo pos (starEach es X.env)).any (·.1) = false := by rfl) :
    PE X (.Call (.Name x p) (e :: es) [] pos) (fun σ H Q => σ[i]? = some (some (.ref f)) ∧ tCallS sp E t σ H Q) := by
  refine ⟨fun pins s σ H Q I h => ?_⟩
  obtain ⟨hs, ht⟩ := h
  refine wpAny_Call_Name_kw (thn ((pe_var (pos := p) hN hv hd hcd).run pins s σ H (fun v H1 => v = .ref f ∧ H1 = H) I ⟨.ref f, hs, rfl, rfl⟩) fun u s1 ⟨v, H1, I1, r1, q1⟩ => ?_)
  obtain ⟨rfl, rfl⟩ := q1
  cases r1
  refine PySem.W.callWith_K (h₀ := X.base) I.ok.mod.kin hk (thn (ha.run pos pins s1 σ _ _ I1 ht) fun us s2 ⟨vs, H2, I2, r, q⟩ => ⟨I2.kIn, ?_⟩) he hpl
  exact run_fnS F hr hb (hx σ) I2 r q
theorem LR.void {K : PySem.W.Frag} {μ : List Addr} {H : Hp} {σ : L2.St} {r : Loc} {i : Nat} {o : Option V} (h : LR K ex μ H σ r) : LR K ex μ H (σ.set i o) (r.set i none) := by
  refine ⟨by rw [List.length_set, List.length_set]; exact h.len, fun j e he => ?_⟩
  by_cases hij : i = j
  · subst hij
    have hlt : i < (r.set i none).length := (List.getElem?_eq_some_iff.mp he).1
    rw [List.length_set] at hlt
    rw [List.getElem?_set_self hlt] at he
    cases he
  · rw [List.getElem?_set_ne hij] at he
    rw [List.getElem?_set_ne hij]
    exact h.at_ j e he
theorem sss_pick (i : Nat) {k : Nat} {aT : Addr} {np : Nat} {tbl y : Str} {kvs : List (Str × Nat)} {ekey : Expr} {pt p2 p3 p4 p5 p6 py : Pos} (hN : X.N.Nodup) (hm : X.mg tbl = some (.ref aT)) (hk : ∀ z f, kvs.lookup z = some f → PickAt T X k aT np z f) (hr : Room k X.A) (tk : Takes X W)
    (he : SE T X ex W ekey ce) (ha : SEs T X ex W (e :: es) ces) (hlen : ∀ r s xs s', evEs T.call T.G T.sub ces r s = .ok xs s' → xs.length = np) (hi : X.N[i]? = some y := by rfl) (hx : L2.Loc X.env.scope y := by first | exact Or.inl rfl | exact Or.inr rfl)
    (hf : X.fn y = true ∨ X.env.scope.names.lookup y = some .local := by first | exact .inl rfl | exact .inr rfl) (hv : Vis X.env.scope y := by first | exact Or.inl rfl | exact Or.inr (Or.inl rfl) | exact Or.inr (Or.inr rfl)) (hg : Gl X tbl := by rfl) (hdb : (tbl == ("__debug__" : Str)) = false := by decide) (hp : PlainIx ekey := by exact fun _ _ => rfl)
    (hd : (y == ("__debug__" : Str)) = false := by decide) (hcd : (y == ("__classdict__" : Str)) = false := by decide) (hes : starEach (e :: es) X.env = (false, eval e X.env) :: starEach es X.env := by rfl) (hpl : (backTo p5 (starEach es X.env)).any (·.1) = false := by rfl)
    (hs : swapsWithSole [.Name y py] (.Subscript (.Name tbl pt) ekey p2) p3.line X.env = pure false := by rfl) (hw : swappedStores [.Name y py] (.Subscript (.Name tbl pt) ekey p2) X.env = pure none := by rfl)
    (h1 : (assignEach [.Name y py] X.env).map (·.2) = [assign (.Name y py) X.env] := by rfl) :
    SSs T X ex W [.Assign [.Name y py] (.Subscript (.Name tbl pt) ekey p2) p3, .Return (some (.Call (.Name y p4) (e :: es) [] p5)) p6] (.cons (.pick i ce kvs ces) .nil) := by
  have pk : PE X (.Call (.Name y p4) (e :: es) [] p5) (fun σ H Q => ∃ ad fd ps f, FnOk X.prog X.w X.K X.mg X.base (L2.CX X.prog X.w) k ad fd ps (spC T X.K f np) ∧ PySem.W.keepIn X.K (.ref ad) = true ∧ Binds X.K fd ps [] ∧ σ[i]? = some (some (.ref ad)) ∧ tCallS (spC T X.K f np) (WE W) (tEs T X.K ex W ces) σ H Q) :=
    ⟨fun pins s σ H Q I h => by
      obtain ⟨ad, fd, ps, f, FO, kp, bd, q⟩ := h
      exact (pe_callV FO hr kp bd (fun σ => passAt tk σ) hi hv ha.pa hd hcd hes hpl).run pins s σ H Q I q⟩
  refine ⟨(pss_cons (ps_asg (pe_ix ix_kdict (pe_glob (v := .ref aT) hg hm rfl hdb) he.pe hp) (pg_name hN hi hx hf) hs hw h1) (pss_one (ps_ret pk))).imp fun D σ H h => ?_⟩
  obtain ⟨μ, r, s, R, L, h⟩ := h
  simp only [evSs, evS] at h
  refine ⟨μ, r, s, R, L, ?_⟩
  cases hm1 : evE T.call T.G T.sub ce r s with
  | exc c s1 =>
    rw [hm1] at h
    exact fun μ' H' le R' => h μ' H' σ le R' (L.mono le)
  | stuck => rw [hm1] at h; exact h
  | ok x s1 =>
    rw [hm1] at h
    simp only [Res.out] at h
    intro μ1 H1 le1 R1 v hv1
    have L1 := L.mono le1
    cases hv1 with
    | str z =>
      simp only at h
      cases hz : kvs.lookup z with
      | none => rw [hz] at h; exact h.elim
      | some f =>
        rw [hz] at h
        simp only at h
        by_cases hlt : i < r.length
        · rw [if_pos hlt] at h
          obtain ⟨ad, fd, ps, kd, FO, _, kp, bd⟩ := hk z f hz
          refine ⟨aT, z, .ref ad, rfl, rfl, kd, ?_⟩
          refine ⟨ad, fd, ps, f, FO, kp, bd, List.getElem?_set_self (by rw [← L1.len]; exact hlt), ?_⟩
          refine ⟨μ1, r.set i none, s1, R1, L1.void, ?_⟩
          cases hm2 : evEs T.call T.G T.sub ces (r.set i none) s1 with
          | exc c s2 =>
            rw [hm2] at h
            exact fun μ' H' le R' => h μ' H' _ (le1.trans le) R' (L1.void.mono le)
          | stuck => rw [hm2] at h; exact h
          | ok xs s2 =>
            rw [hm2] at h
            simp only [Res.bind] at h
            intro μ2 H2 le2 R2 vs hvs
            refine ⟨μ2, s2, xs, R2, hvs, hlen _ _ _ _ hm2, ?_⟩
            cases hm3 : T.call f xs s2 with
            | exc c s3 =>
              rw [hm3] at h
              exact fun μ' H' le R' => h μ' H' _ ((le1.trans le2).trans le) R' ((L1.void.mono le2).mono le)
            | stuck => rw [hm3] at h; exact h
            | ok d s3 =>
              rw [hm3] at h
              exact fun μ' H' le R' u hu => h μ' H' u ((le1.trans le2).trans le) R' hu
        · rw [if_neg hlt] at h
          exact h.elim
    | _ => exact h.elim
end
end Ip
end PtIpPick
section PtIpText
set_option Elab.async false
set_option linter.all false
set_option maxRecDepth 100000
/-! f-strings -/
namespace Ip
open PySem PySem.Spec PyProof.Rows L2
section
variable {T : Tb} {X : Cx} {ex : Option (Addr × Nat)} {W : WX} {a b c e : Expr} {ca cb cc ce : CE} {pos : Pos} {es rest : List Expr} {ces : CEs}
/-- {x} -/
theorem se_fmtv (ha : SE T X ex W a ca) : SE T X ex W (.FormattedValue a (-1) none pos) (.bi .fmt (.cons ca .nil)) := ⟨(pe_fmt ha.pe).imp fun σ H Q h => by
  obtain ⟨μ, r, s, R, L, h⟩ := h
  simp only [evE, evEs] at h
  rw [Res.bind_assoc] at h
  refine ⟨μ, r, s, R, L, h.bind.map fun μ1 H1 s1 x le1 R1 h1 v1 hv1 => ?_⟩
  simp only [Res.bind] at h1
  cases hv1 with
  | str z =>
    simp only [biV] at h1
    split at h1
    · rename_i hl
      exact .inl ⟨z, rfl, Nat.le_trans hl (by decide), h1.ok R1 _ (.str _)⟩
    · exact h1.elim
  | int i =>
    simp only [biV] at h1
    split at h1
    · rename_i hl
      exact .inr ⟨i, rfl, hl.1, h1.ok R1 _ (.str _)⟩
    · exact h1.elim
  | _ => exact h1.elim⟩
/-- a part: always a short text -/
def StrE (T : Tb) (c : CE) : Prop := ∀ r s x s', evE T.call T.G T.sub c r s = .ok x s' → ∃ z, x = .str z ∧ z.length ≤ 1000
theorem strE_k {z : Str} (h : z.length ≤ 1000) : StrE T (.k (.str z)) := fun r s x s' q => by
  cases q
  exact ⟨z, rfl, h⟩
theorem strE_fmt : StrE T (.bi .fmt (.cons ca .nil)) := fun r s x s' q => by
  simp only [evE, evEs] at q
  cases hm : evE T.call T.G T.sub ca r s with
  | ok d s1 =>
    rw [hm] at q
    simp only [Res.bind] at q
    cases d with
    | str z =>
      simp only [biV] at q
      split at q
      · rename_i hl
        cases q
        exact ⟨z, rfl, hl⟩
      · cases q
    | int i =>
      simp only [biV] at q
      split at q
      · rename_i hl
        cases q
        exact ⟨_, rfl, hl.2⟩
      · cases q
    | _ => cases q
  | exc c s1 => rw [hm] at q; cases q
  | stuck => rw [hm] at q; cases q
structure SJ (T : Tb) (X : Cx) (ex : Option (Addr × Nat)) (W : WX) (es : List Expr) (cs : CEs) (n : Nat) : Prop where
  ok : ∃ ts, PJ X es ts ∧ ∀ (acc : Str) σ H (Q : Str → Hp → Prop) μ r s, Rel X.K μ H s → LR X.K ex μ H σ r → acc.length + 1000 * n ≤ sizeLine →
    Go X.K μ H (evEs T.call T.G T.sub cs r s) (fun c H' => ∀ C, T.cls c = some C → W (.ref C) none σ H') (fun μ' H' _ ds => ∀ zs, strs? ds = some zs → Q (zs.foldl (· ++ ·) acc) H') → tJs ts acc σ H Q
theorem sj_nil : SJ T X ex W [] .nil 0 := ⟨⟨[], .nil, fun acc σ H Q μ r s R L hz h => h.ok R [] rfl⟩⟩
theorem sj_cons {n : Nat} (ha : SE T X ex W e ce) (hs : StrE T ce) (hr : SJ T X ex W es ces n) : SJ T X ex W (e :: es) (.cons ce ces) (n + 1) := by
  obtain ⟨ts, hp, hk⟩ := hr.ok
  refine ⟨_, .cons ha.pe hp, fun acc σ H Q μ r s R L hz h => ?_⟩
  refine ⟨μ, r, s, R, L, ?_⟩
  simp only [evEs] at h
  cases hm : evE T.call T.G T.sub ce r s with
  | exc c s1 => rw [hm] at h; exact h
  | stuck => rw [hm] at h; exact h
  | ok x s1 =>
    rw [hm] at h
    obtain ⟨z, rfl, hl⟩ := hs _ _ _ _ hm
    intro μ1 H1 le1 R1 v hv
    cases hv
    have hz2 : (acc ++ z).length + 1000 * n ≤ sizeLine := by
      rw [Str.length_append]
      omega
    refine ⟨z, rfl, by omega, hk (acc ++ z) σ H1 Q μ1 r s1 R1 (L.mono le1) hz2 ?_⟩
    simp only [Res.bind] at h
    have h := Go.later (K := X.K) h le1
    cases hm2 : evEs T.call T.G T.sub ces r s1 with
    | exc c s2 => rw [hm2] at h; exact h
    | stuck => rw [hm2] at h; exact h
    | ok ds s2 =>
      rw [hm2] at h
      exact fun μ2 H2 le2 R2 zs hzs => h μ2 H2 le2 R2 (z :: zs) (by simp only [strs?, hzs])
theorem se_joined {v1 v2 : Expr} {n : Nat} (h : SJ T X ex W (v1 :: v2 :: rest) ces n) (hn : n ≤ 16 := by decide) : SE T X ex W (.JoinedStr (v1 :: v2 :: rest) pos) (.bi .cat ces) := by
  obtain ⟨ts, hp, hk⟩ := h.ok
  refine ⟨(pe_joined hp).imp fun σ H Q h => ?_⟩
  obtain ⟨μ, r, s, R, L, h⟩ := h
  refine hk Str.empty σ H _ μ r s R L (by
    have : (1000 : Nat) * n ≤ 16000 := by omega
    have : (16000 : Nat) ≤ sizeLine := by decide
    show 0 + 1000 * n ≤ sizeLine
    omega) ?_
  simp only [evE] at h
  cases hm : evEs T.call T.G T.sub ces r s with
  | exc c s1 => rw [hm] at h; exact h
  | stuck => rw [hm] at h; exact h
  | ok ds s1 =>
    rw [hm] at h
    intro μ1 H1 le1 R1 zs hzs
    have h := Go.later (K := X.K) h le1
    simp only [Res.bind, biV, hzs, optR] at h
    split at h
    · exact h.ok R1 _ (.str _)
    · exact h.elim
end
end Ip
end PtIpText
section PtIpLib
set_option Elab.async false
set_option linter.all false
set_option maxRecDepth 100000
/-! comprehensions and stores, by words -/
namespace Ip
open PySem
section
variable {call : Nat → List DV → Store → Res DV} {G : Nat → Option DV} {sub : Nat → Nat → Bool}
theorem get_snoc {s : Store} {c : Cell} : (s ++ [c])[s.length]? = some c := by
  rw [List.getElem?_append_right (Nat.le_refl _), Nat.sub_self]
  rfl
theorem set_snoc {s : Store} {c c' : Cell} : (s ++ [c]).set s.length c' = s ++ [c'] := by
  rw [List.set_append_right _ _ (Nat.le_refl _), Nat.sub_self]
  rfl
theorem get_more {s t : Store} {n : Nat} {c : Cell} (h : s[n]? = some c) : (s ++ t)[n]? = some c := by
  rw [List.getElem?_append_left (lt_of_get h)]
  exact h
theorem cell_app {s t : Store} {n : Nat} {xs : List DV} (h : cellL s n = some xs) : cellL (s ++ t) n = some xs := by
  unfold cellL at h ⊢
  cases e : s[n]? with
  | none => rw [e] at h; cases h
  | some c => rw [get_more e]; rw [e] at h; exact h
theorem cell_snoc {s : Store} {xs : List DV} : cellL (s ++ [.lst xs]) s.length = some xs := cellL_of get_snoc
theorem free_ok {s : Store} : Src.free.ok s := trivial
/-- a comprehension whose turns leave the store as it is -/
theorem lc_pure {f : Src} {s0 : Store} {body : DV → Store → Res (Option DV)} {g : DV → Option DV} (hf : ∀ acc, f.ok (s0 ++ [.lst acc])) : ∀ (xs acc : List DV), (∀ x ∈ xs, ∀ acc, body x (s0 ++ [.lst acc]) = .ok (g x) (s0 ++ [.lst acc])) → acc.length + xs.length ≤ sizeLine →
    lcL s0.length f body xs (s0 ++ [.lst acc]) = .ok (.ref s0.length) (s0 ++ [.lst (acc ++ xs.filterMap g)])
  | [], acc, _, _ => by
    simp only [lcL]
    rw [if_pos (hf acc), List.filterMap_nil, List.append_nil]
  | x :: xs, acc, hb, hz => by
    have hx := hb x List.mem_cons_self acc
    have hr := fun acc' h => lc_pure hf xs acc' (fun y hy => hb y (List.mem_cons_of_mem _ hy)) h
    rw [List.length_cons] at hz
    simp only [lcL]
    rw [if_pos (hf acc), hx]
    simp only [Res.quiet, Res.bind]
    cases hg : g x with
    | none =>
      rw [hr acc (by omega), List.filterMap_cons, hg]
    | some v =>
      simp only
      rw [get_snoc]
      simp only
      rw [if_pos (by omega), set_snoc, hr (acc ++ [v]) (by rw [List.length_append, List.length_singleton]; omega), List.filterMap_cons, hg, List.append_assoc]
      rfl
/-- [e for t in it] with one value a turn -/
theorem lc_run {t : CT} {it : CI} {ifs : CEs} {e : CE} {own : List Nat} {r : Loc} {s : Store} {f : Src} {xs : List DV} (g : DV → Option DV) (hi : evI call G sub it r s = .ok (f, xs) s) (hf : ∀ acc, f.ok (s ++ [.lst acc]))
    (hb : ∀ x ∈ xs, ∀ acc, ((evT call G sub t x (wipe r own) (s ++ [.lst acc])).bind fun r s => (evAll call G sub ifs r s).bind fun b s => cond b ((evE call G sub e r s).bind fun v s => Res.ok (some v) s) (.ok none s)) = .ok (g x) (s ++ [.lst acc])) (hz : xs.length ≤ sizeLine) :
    evE call G sub (.lc t it ifs e own) r s = .ok (.ref s.length) (s ++ [.lst (xs.filterMap g)]) := by
  rw [qE_lc, hi]
  simp only [Res.bind]
  have := lc_pure (s0 := s) (body := fun x s => (evT call G sub t x (wipe r own) s).bind fun r s => (evAll call G sub ifs r s).bind fun b s => cond b ((evE call G sub e r s).bind fun v s => Res.ok (some v) s) (.ok none s)) (g := g) hf xs [] hb (by rw [List.length_nil]; omega)
  rw [List.nil_append] at this
  exact this
end
/-! ### what is kept of a store -/
/-- all but the reader at d stands as it stood -/
def Kp (d : Nat) (s s' : Store) : Prop := s.length ≤ s'.length ∧ ∀ n, n < s.length → n ≠ d → s'[n]? = s[n]?
theorem Kp.refl {d : Nat} {s : Store} : Kp d s s := ⟨Nat.le_refl _, fun _ _ _ => rfl⟩
theorem Kp.trans {d : Nat} {s s' s2 : Store} (h : Kp d s s') (h2 : Kp d s' s2) : Kp d s s2 := ⟨Nat.le_trans h.1 h2.1, fun n hn hd => (h2.2 n (Nat.lt_of_lt_of_le hn h.1) hd).trans (h.2 n hn hd)⟩
theorem Kp.app {d : Nat} {s t : Store} : Kp d s (s ++ t) := ⟨by rw [List.length_append]; omega, fun n hn _ => List.getElem?_append_left hn⟩
theorem Kp.get {d n : Nat} {s s' : Store} {c : Cell} (h : Kp d s s') (hn : s[n]? = some c) (hd : n ≠ d) : s'[n]? = some c := (h.2 n (lt_of_get hn) hd).trans hn
theorem Kp.cell {d n : Nat} {s s' : Store} {xs : List DV} (h : Kp d s s') (hn : cellL s n = some xs) (hd : n ≠ d) : cellL s' n = some xs := by
  unfold cellL at hn ⊢
  cases e : s[n]? with
  | none => rw [e] at hn; cases hn
  | some c => rw [h.get e hd]; rw [e] at hn; exact hn
theorem Kp.take {d : Nat} {s s' : Store} (h : ∀ n, n ≠ d → s'[n]? = s[n]?) (hl : s'.length = s.length) : Kp d s s' := ⟨by omega, fun n _ hd => h n hd⟩
/-! ### a list walked by equal turns -/
theorem bin_cat {a b : Str} {s : Store} (h : a.length + b.length ≤ sizeLine) : binV .add (.str a) (.str b) s = .ok (.str (a ++ b)) s := by
  simp only [binV]
  rw [if_pos h]
theorem one_len {c : Nat} : (⟨#[c]⟩ : Str).length = 1 := rfl
end Ip
namespace Ip
open PySem
section
variable {f : Src} {body : DV → Loc → Store → Out} {x : DV} {xs : List DV} {r r' : Loc} {s s' : Store}
theorem forL_nil (h : f.ok s) : forL f body [] r s = .nx r s := by
  simp only [forL]
  rw [if_pos h]
theorem forL_nx (h : f.ok s) (hb : body x r s = .nx r' s') : forL f body (x :: xs) r s = forL f body xs r' s' := by
  simp only [forL]
  rw [if_pos h, hb]
theorem forL_ct (h : f.ok s) (hb : body x r s = .ct r' s') : forL f body (x :: xs) r s = forL f body xs r' s' := by
  simp only [forL]
  rw [if_pos h, hb]
theorem forL_exc {c : Nat} (h : f.ok s) (hb : body x r s = .exc c r' s') : forL f body (x :: xs) r s = .exc c r' s' := by
  simp only [forL]
  rw [if_pos h, hb]
theorem forL_rt {v : DV} (h : f.ok s) (hb : body x r s = .rt v s') : forL f body (x :: xs) r s = .rt v s' := by
  simp only [forL]
  rw [if_pos h, hb]
end
theorem lenset_ok {z : Str} {s : Store} (h : z.cps.size ≤ 1000) : biV .lenset [.str z] s = .ok (.int (IpS.metC (IpS.sgn z) z.cps.size).length) s := by
  simp only [biV]
  rw [if_pos (by unfold scanBound; omega)]
theorem len_str {z : Str} {s : Store} (h : z.length ≤ sizeLine) : biV .len [.str z] s = .ok (.int z.length) s := by
  simp only [biV]
  rw [if_pos h]
/-- a sign that was met before -/
def dupB (L : List Nat) : Bool := (List.range L.length).any fun k => decide (L.getD k 0 ∈ L.take k)
theorem met_any (val : Nat → Str) (c : Str) : ∀ i, (IpS.metC val i).any (· == c) = true ↔ ∃ a, a < i ∧ val a = c
  | 0 => by simp [IpS.metC]
  | i + 1 => by
    show (IpS.addC _ _).any _ = true ↔ _
    rw [IpS.addC_any, Bool.or_eq_true, met_any val c i, decide_eq_true_eq]
    constructor
    · rintro (⟨a, ha, e⟩ | e)
      · exact ⟨a, by omega, e⟩
      · exact ⟨i, by omega, e.symm⟩
    · rintro ⟨a, ha, e⟩
      by_cases h : a = i
      · subst h; exact .inr e.symm
      · exact .inl ⟨a, by omega, e⟩
theorem met_len (val : Nat → Str) : ∀ i, (IpS.metC val i).length = i ↔ ∀ b, b < i → ∀ a, a < b → val a ≠ val b
  | 0 => by simp [IpS.metC]
  | i + 1 => by
    show (IpS.addC _ _).length = _ ↔ _
    rw [IpS.addC_length]
    have hle := IpS.metC_le val i
    by_cases h : (IpS.metC val i).any (· == val i) = true
    · rw [if_pos h]
      obtain ⟨a, ha, e⟩ := (met_any val (val i) i).mp h
      constructor
      · intro q; omega
      · intro q; exact absurd e (q i (by omega) a ha)
    · rw [if_neg h]
      have ih := met_len val i
      constructor
      · intro q b hb a ha
        by_cases hbi : b = i
        · subst hbi
          exact fun e => h ((met_any val _ _).mpr ⟨a, ha, e⟩)
        · exact ih.mp (by omega) b (by omega) a ha
      · intro q
        have := ih.mpr fun b hb a ha => q b (by omega) a ha
        omega
theorem sgn_inj {z : Str} {a b : Nat} : IpS.sgn z a = IpS.sgn z b ↔ z.cps.getD a 0 = z.cps.getD b 0 := by
  unfold IpS.sgn
  constructor
  · intro h
    have h1 := congrArg Str.cps h
    simp only at h1
    have h2 := congrArg Array.toList h1
    simp only [List.cons.injEq, and_true] at h2
    exact h2
  · intro h; rw [h]
theorem getD_list {z : Str} {a : Nat} : z.cps.getD a 0 = z.cps.toList.getD a 0 := by
  rw [List.getD_eq_getElem?_getD, Array.getElem?_toList, Array.getD_eq_getD_getElem?]
theorem mem_take_iff {L : List Nat} {b c : Nat} (hb : b ≤ L.length) : c ∈ L.take b ↔ ∃ a, a < b ∧ L.getD a 0 = c := by
  rw [List.mem_iff_getElem?]
  constructor
  · rintro ⟨a, ha⟩
    rw [List.getElem?_take] at ha
    split at ha
    · rename_i h
      exact ⟨a, h, by rw [List.getD_eq_getElem?_getD, ha]; rfl⟩
    · cases ha
  · rintro ⟨a, ha, e⟩
    refine ⟨a, ?_⟩
    rw [List.getElem?_take, if_pos ha, List.getElem?_eq_getElem (by omega)]
    rw [List.getD_eq_getElem?_getD, List.getElem?_eq_getElem (by omega)] at e
    exact congrArg some e
theorem met_dup {z : Str} : (((IpS.metC (IpS.sgn z) z.cps.size).length : Int) == (z.length : Int)) = !dupB z.cps.toList := by
  have key : (IpS.metC (IpS.sgn z) z.cps.size).length = z.cps.size ↔ dupB z.cps.toList = false := by
    rw [met_len]
    unfold dupB
    rw [List.any_eq_false]
    constructor
    · intro h b hb hm
      rw [List.mem_range] at hb
      obtain ⟨a, ha, e⟩ := (mem_take_iff (Nat.le_of_lt hb)).mp (of_decide_eq_true hm)
      rw [Array.length_toList] at hb
      exact h b hb a ha (sgn_inj.mpr (by rw [getD_list, getD_list]; exact e))
    · intro h b hb a ha e
      refine h b (List.mem_range.mpr (by rw [Array.length_toList]; exact hb)) (decide_eq_true ?_)
      exact (mem_take_iff (by rw [Array.length_toList]; omega)).mpr ⟨a, ha, by rw [← getD_list, ← getD_list]; exact sgn_inj.mp e⟩
  cases hd : dupB z.cps.toList with
  | false =>
    have := key.mpr hd
    show _ = true
    rw [beq_iff_eq, this]
    rfl
  | true =>
    show _ = false
    rw [beq_eq_false_iff_ne]
    intro e
    have : (IpS.metC (IpS.sgn z) z.cps.size).length = z.cps.size := by exact_mod_cast e
    rw [key.mp this] at hd
    cases hd
end Ip
namespace Ip
open PySem
theorem cut_take {L : List Nat} {k : Nat} (h : k ≤ L.length) : cut L none (some (k : Int)) = L.take k := by
  unfold cut
  rw [HT.sIx_none, HT.sIx_nat, List.drop_zero, Nat.sub_zero, Nat.min_eq_left h]
theorem slice_str {z : Str} {lo hi : Option Int} {s : Store} (h : z.length ≤ sizeLine) : sliceV (.str z) lo hi s = .ok (.str ⟨(cut z.cps.toList lo hi).toArray⟩) s := by
  simp only [sliceV]
  rw [if_pos h]
theorem item_str {z : Str} {i : Int} {c : Nat} {s : Store} (h : z.length ≤ sizeLine) (hc : L2.atI z.cps.toList i = some c) : itemV (.str z) (.int i) s = .ok (.str ⟨#[c]⟩) s := by
  simp only [itemV]
  rw [if_pos h, hc]
theorem in_sign {c : Nat} {z : Str} {s : Store} : cmpV .in (.str ⟨#[c]⟩) (.str z) s = .ok (decide (c ∈ z.cps.toList)) s := by
  simp only [cmpV]
  rw [if_pos (show Str.length ⟨#[c]⟩ = 1 from rfl)]
  rfl
theorem notIn_sign {c : Nat} {z : Str} {s : Store} : cmpV .notIn (.str ⟨#[c]⟩) (.str z) s = .ok (!decide (c ∈ z.cps.toList)) s := by
  simp only [cmpV]
  rw [if_pos (show Str.length ⟨#[c]⟩ = 1 from rfl)]
  rfl
theorem pos_filter {α β : Type} {g : α → Option β} {p : α → Bool} : ∀ {l : List α}, (∀ x ∈ l, (g x).isSome = p x) → decide ((0 : Int) < ((l.filterMap g).length : Int)) = l.any p
  | [], _ => rfl
  | x :: l, h => by
    have ih := pos_filter (l := l) fun y hy => h y (List.mem_cons_of_mem _ hy)
    have hx := h x List.mem_cons_self
    rw [List.filterMap_cons, List.any_cons, ← hx]
    cases hg : g x with
    | none => 
      simp only [Option.isSome]
      rw [ih]
      rfl
    | some v => 
      simp only [List.length_cons, Option.isSome, Bool.true_or]
      exact decide_eq_true (by omega)
end Ip
namespace Ip
open PySem
theorem atI_ex {α : Type} {l : List α} {i : Int} (h0 : 0 ≤ i) (h1 : i < l.length) : ∃ a, L2.atI l i = some a ∧ a ∈ l := by
  obtain ⟨n, rfl⟩ : ∃ n : Nat, i = (n : Int) := ⟨i.toNat, by omega⟩
  have hn : n < l.length := by omega
  exact ⟨l[n], L2.atI_nat (List.getElem?_eq_getElem hn), List.getElem_mem hn⟩
theorem append_ok {n : Nat} {xs : List DV} {v : DV} {s : Store} (h : s[n]? = some (.lst xs)) (hz : xs.length < sizeLine) : mtV .append (.ref n) [v] s = .ok .non (s.set n (.lst (xs ++ [v]))) := by
  simp only [mtV, h, if_pos hz]
theorem cmpable_str {a : Str} (h : PyData.strOk a = true) : cmpable (.str a) = true := by
  simp [cmpable, pure?, pd, SeqAt.shaped, PyData.canLay0, PyData.depth, h]
theorem deq_str {a b : Str} : deq (.str a) (.str b) = decide (a = b) := by
  show PyData.eqv (.str a) (.str b) = _
  by_cases h : a = b
  · subst h
    simp [PyData.eqv]
  · rw [decide_eq_false h]
    simp [PyData.eqv, h]
theorem eq_str {a b : Str} {s : Store} (ha : PyData.strOk a = true) (hb : PyData.strOk b = true) : cmpV .eq (.str a) (.str b) s = .ok (decide (a = b)) s := by
  show (if (cmpable (.str a) && cmpable (.str b)) = true then _ else _) = _
  rw [if_pos (by rw [cmpable_str ha, cmpable_str hb]; rfl), deq_str]
theorem ne_str {a b : Str} {s : Store} (ha : PyData.strOk a = true) (hb : PyData.strOk b = true) : cmpV .ne (.str a) (.str b) s = .ok (!decide (a = b)) s := by
  show (if (cmpable (.str a) && cmpable (.str b)) = true then _ else _) = _
  rw [if_pos (by rw [cmpable_str ha, cmpable_str hb]; rfl), deq_str]
theorem eq_self {a : Str} {s : Store} (ha : PyData.strOk a = true) : cmpV .eq (.str a) (.str a) s = .ok true s := by
  rw [eq_str ha ha, decide_eq_true rfl]
theorem ne_self {a : Str} {s : Store} (ha : PyData.strOk a = true) : cmpV .ne (.str a) (.str a) s = .ok false s := by
  rw [ne_str ha ha, decide_eq_true rfl]
  rfl
theorem z_le (n : Nat) (h : n ≤ 1000) : (n ≤ sizeLine) = True := eq_true (Nat.le_trans h (by decide))
end Ip
namespace Ip
open PySem
/-! ### sizes -/
def Sm (n : Nat) (x : Int) : Prop := x.natAbs < 2 ^ n
theorem Sm.mono {n m : Nat} {x : Int} (h : Sm n x) (hm : n ≤ m) : Sm m x := Nat.lt_of_lt_of_le h (Nat.pow_le_pow_right (by decide) hm)
theorem Sm.mul {n m : Nat} {x y : Int} (h : Sm n x) (h2 : Sm m y) : Sm (n + m) (x * y) := by
  unfold Sm at *
  rw [Int.natAbs_mul, Nat.pow_add]
  exact Nat.mul_lt_mul'' h h2
theorem Sm.add {n : Nat} {x y : Int} (h : Sm n x) (h2 : Sm n y) : Sm (n + 1) (x + y) := by
  unfold Sm at *
  rw [Nat.pow_succ]
  omega
theorem Sm.neg {n : Nat} {x : Int} (h : Sm n x) : Sm n (-x) := by
  unfold Sm at *
  omega
theorem Sm.sub {n : Nat} {x y : Int} (h : Sm n x) (h2 : Sm n y) : Sm (n + 1) (x - y) := by
  rw [Int.sub_eq_add_neg]
  exact h.add h2.neg
theorem Sm.le {n : Nat} {x y : Int} (h : Sm n x) (h2 : y.natAbs ≤ x.natAbs) : Sm n y := Nat.lt_of_le_of_lt h2 h
theorem log2_lt {n m : Nat} (h : n < 2 ^ m) (hm : 0 < m) : n.log2 < m := by
  by_cases h0 : n = 0
  · subst h0
    exact hm
  · exact (Nat.log2_lt h0).mpr h
theorem Sm.log2 {n : Nat} {x : Int} (h : Sm n x) (hn : 0 < n) : x.natAbs.log2 < n := log2_lt h hn
theorem Sm.mulOk {n m : Nat} {x y : Int} (h : Sm n x) (h2 : Sm m y) (h0 : 0 < n) (h1 : 0 < m) (hs : n + m ≤ 1000000) : mulOk x y = true := by
  have := h.log2 h0
  have := h2.log2 h1
  unfold Ip.mulOk
  rw [Bool.or_eq_true]
  exact .inr (decide_eq_true (by omega))
theorem eqs {a b : Str} {c : Bool} (h : decide (a = b) = c) (ha : PyData.strOk a = true) (hb : PyData.strOk b = true) (s : Store) : cmpV .eq (.str a) (.str b) s = .ok c s := by
  rw [eq_str ha hb, h]
end Ip
end PtIpLib
section PtIpNum
set_option Elab.async false
set_option linter.all false
set_option maxRecDepth 100000
/-! ints as texts -/
namespace Ip
open PySem TL
/-- the signs of a natural number as it is written -/
def isNat (l : List Nat) : Bool := !l.isEmpty && l.all (fun c => decide (48 ≤ c) && decide (c ≤ 57)) && (decide (l.headD 0 ≠ 48) || decide (l = [48]))
def isInt (l : List Nat) : Bool := match l with
  | 45 :: r => decide (r ≠ [48]) && isNat r
  | _ => isNat l
def valI (l : List Nat) : Int := match l with
  | 45 :: r => -((NumText.digitsVal r : Nat) : Int)
  | _ => ((NumText.digitsVal l : Nat) : Int)
/-- an int, written -/
def strI (i : Int) : List Nat := if i < 0 then 45 :: numL i.natAbs else numL i.natAbs
theorem tl_int (i : Int) : tl (Str.ofString (toString i)) = strI i := by
  unfold strI
  by_cases h : i < 0
  · rw [if_pos h, PyProof.Rows.toString_neg h]
    have e : (0 - i : Int) = ((i.natAbs : Nat) : Int) := by omega
    rw [e]
    have : Str.ofString ("-" ++ toString ((i.natAbs : Nat) : Int)) = Str.ofString "-" ++ Str.ofString (toString ((i.natAbs : Nat) : Int)) := by
      apply ext_tl
      rw [tl_append, tl_ofString, tl_ofString, tl_ofString, String.toList_append, List.map_append]
    rw [this, tl_append, tl_num]
    rfl
  · rw [if_neg h]
    have e : i = ((i.natAbs : Nat) : Int) := by omega
    conv => lhs; rw [e]
    exact tl_num _
theorem isNat_iff {l : List Nat} : isNat l = true ↔ l ≠ [] ∧ (∀ c ∈ l, 48 ≤ c ∧ c ≤ 57) ∧ (l.headD 0 ≠ 48 ∨ l = [48]) := by
  unfold isNat
  rw [Bool.and_eq_true, Bool.and_eq_true, Bool.or_eq_true, List.all_eq_true]
  simp only [Bool.and_eq_true, decide_eq_true_eq, Bool.not_eq_true', List.isEmpty_eq_false_iff, and_assoc]
theorem isNat_digits {l : List Nat} (h : isNat l = true) : NumText.AllDigits l := (isNat_iff.mp h).2.1
theorem isNat_ne {l : List Nat} (h : isNat l = true) : l ≠ [] := (isNat_iff.mp h).1
theorem val_snoc (l : List Nat) (c : Nat) : NumText.digitsVal (l ++ [c]) = NumText.digitsVal l * 10 + (c - 48) := by
  unfold NumText.digitsVal
  rw [List.foldl_append]
  rfl
/-- what is written as a number is the writing of its value -/
theorem isNat_num : ∀ (n : Nat) (l : List Nat), l.length = n → isNat l = true → l = numL (NumText.digitsVal l) := by
  intro n
  induction n with
  | zero =>
    intro l hl h
    exact absurd (List.eq_nil_of_length_eq_zero hl) (isNat_ne h)
  | succ n ih =>
    intro l hl h
    obtain ⟨l', c, rfl⟩ : ∃ l' c, l = l' ++ [c] := ⟨l.dropLast, l.getLast (isNat_ne h), (List.dropLast_concat_getLast (isNat_ne h)).symm⟩
    obtain ⟨h1, h2, h3⟩ := isNat_iff.mp h
    have hc := h2 c (by simp)
    rw [val_snoc]
    cases l' with
    | nil =>
      have : NumText.digitsVal [] = 0 := rfl
      rw [this, Nat.zero_mul, Nat.zero_add, numL_lt (by omega)]
      show [c] = [48 + (c - 48)]
      rw [show 48 + (c - 48) = c by omega]
    | cons a r =>
      have ha : a ≠ 48 := by
        rcases h3 with h3 | h3
        · exact h3
        · have := congrArg List.length h3
          simp at this
      have hn : isNat (a :: r) = true := isNat_iff.mpr ⟨by simp, fun d hd => h2 d (List.mem_append_left _ hd), .inl ha⟩
      have e := ih (a :: r) (by simpa using hl) hn
      have hv : NumText.digitsVal (a :: r) ≠ 0 := fun z => by
        rw [z] at e
        have : numL 0 = [48] := by rw [numL_lt (by omega)]
        rw [this] at e
        exact ha (by injection e)
      rw [numL_step (n := NumText.digitsVal (a :: r) * 10 + (c - 48)) (by omega)]
      have q1 : (NumText.digitsVal (a :: r) * 10 + (c - 48)) / 10 = NumText.digitsVal (a :: r) := by omega
      have q2 : (NumText.digitsVal (a :: r) * 10 + (c - 48)) % 10 = c - 48 := by omega
      rw [q1, q2, ← e, show 48 + (c - 48) = c by omega]
theorem isNat_eq {l : List Nat} (h : isNat l = true) : l = numL (NumText.digitsVal l) := isNat_num _ l rfl h
theorem isInt_neg (r : List Nat) : isInt (45 :: r) = (decide (r ≠ [48]) && isNat r) := rfl
theorem valI_neg (r : List Nat) : valI (45 :: r) = -((NumText.digitsVal r : Nat) : Int) := rfl
theorem isInt_pos {l : List Nat} (h : ∀ r, l ≠ 45 :: r) : isInt l = isNat l := by
  unfold isInt
  split
  · exact absurd rfl (h _)
  · rfl
theorem valI_pos {l : List Nat} (h : ∀ r, l ≠ 45 :: r) : valI l = ((NumText.digitsVal l : Nat) : Int) := by
  unfold valI
  split
  · exact absurd rfl (h _)
  · rfl
theorem neg_or (l : List Nat) : (∃ r, l = 45 :: r) ∨ ∀ r, l ≠ 45 :: r := by
  by_cases h : ∃ r, l = 45 :: r
  · exact .inl h
  · exact .inr fun r e => h ⟨r, e⟩
theorem isInt_eq {l : List Nat} (h : isInt l = true) : l = strI (valI l) := by
  rcases neg_or l with ⟨r, rfl⟩ | hne
  · rw [isInt_neg, Bool.and_eq_true, decide_eq_true_eq] at h
    have e := isNat_eq h.2
    have hv : NumText.digitsVal r ≠ 0 := fun z => by
      rw [z] at e
      have : numL 0 = [48] := by rw [numL_lt (by omega)]
      rw [this] at e
      exact h.1 e
    rw [valI_neg]
    unfold strI
    rw [if_pos (by omega)]
    have : (-((NumText.digitsVal r : Nat) : Int)).natAbs = NumText.digitsVal r := by omega
    rw [this, ← e]
  · rw [isInt_pos hne] at h
    have e := isNat_eq h
    rw [valI_pos hne]
    unfold strI
    rw [if_neg (by omega), Int.natAbs_natCast]
    exact e
theorem strI_inj {i j : Int} (h : strI i = strI j) : i = j := by
  unfold strI at h
  have hd : ∀ n : Nat, ∀ l, numL n ≠ 45 :: l := fun n l e => by
    have := numL_digits n 45 (by rw [e]; exact List.mem_cons_self)
    omega
  by_cases h1 : i < 0
  · rw [if_pos h1] at h
    by_cases h2 : j < 0
    · rw [if_pos h2] at h
      have := numL_inj (List.cons.inj h).2
      omega
    · rw [if_neg h2] at h
      exact absurd h.symm (hd _ _)
  · rw [if_neg h1] at h
    by_cases h2 : j < 0
    · rw [if_pos h2] at h
      exact absurd h (hd _ _)
    · rw [if_neg h2] at h
      have := numL_inj h
      omega
theorem strI_free {i : Int} {s : Nat} (h : s < 45 ∨ 57 < s ∨ s = 46 ∨ s = 47) : s ∉ strI i := by
  unfold strI
  have h2 : s ∉ numL i.natAbs := numL_free (by omega)
  split
  · intro q
    rcases List.mem_cons.mp q with e | q
    · omega
    · exact h2 q
  · exact h2
/-- what is written is a number -/
theorem isNat_numL (n : Nat) : isNat (numL n) = true := by
  refine isNat_iff.mpr ⟨numL_ne n, numL_digits n, ?_⟩
  by_cases h0 : n = 0
  · subst h0
    exact .inr (by rw [numL_lt (by omega)])
  · left
    have : ∀ m : Nat, m ≠ 0 → (numL m).headD 0 ≠ 48 := by
      intro m
      induction m using Nat.strongRecOn with
      | ind m ih =>
        intro hm
        by_cases hl : m < 10
        · rw [numL_lt hl]
          show 48 + m ≠ 48
          omega
        · rw [numL_step (by omega)]
          have q := ih (m / 10) (by omega) (by omega)
          have hne := numL_ne (m / 10)
          cases hx : numL (m / 10) with
          | nil => exact absurd hx hne
          | cons a r =>
            rw [hx] at q
            exact q
    exact this n h0
theorem isInt_strI (i : Int) : isInt (strI i) = true := by
  unfold strI
  split
  · rename_i h
    show (decide (numL i.natAbs ≠ [48]) && isNat (numL i.natAbs)) = true
    rw [isNat_numL, Bool.and_true, decide_eq_true_eq]
    intro e
    have : numL 0 = [48] := by rw [numL_lt (by omega)]
    rw [← this] at e
    have := numL_inj e
    omega
  · rw [isInt_pos fun r hr => by
      have := numL_digits i.natAbs 45 (by rw [hr]; exact List.mem_cons_self)
      omega]
    exact isNat_numL _
theorem valI_strI (i : Int) : valI (strI i) = i := (strI_inj (isInt_eq (isInt_strI i))).symm
/-- int(text) -/
theorem int_read {z : Str} (h : isInt (tl z) = true) (hz : z.length ≤ 640) {s : Store} : biV .int [.str z] s = .ok (.int (valI (tl z))) s := by
  have e : PySem.intText? z = some (valI (tl z)) := by
    rcases neg_or (tl z) with ⟨r, hr⟩ | hne
    · rw [hr, isInt_neg, Bool.and_eq_true, decide_eq_true_eq] at h
      have hr' : z.cps.toList = 45 :: r := hr
      rw [intText_neg hr' (isNat_digits h.2) (isNat_ne h.2) (by omega), hr, valI_neg]
    · rw [isInt_pos hne] at h
      rw [intText_digits (isNat_digits h) (isNat_ne h) (by omega), valI_pos hne]
  simp only [biV, e, optR]
  rw [if_pos hz]
end Ip
end PtIpNum
section PtLk62A
set_option Elab.async false
set_option linter.all false
set_option maxRecDepth 100000
set_option maxHeartbeats 4000000
/-! the text of the law in the core language -/
namespace Lw
open PySem Ip
/-! def limit -/
def b0 : CSs := .cons (.ife (.cmp .lt (.slot 0) (.slot 1)) (.cons (.ret (.slot 1)) (.nil)) (.nil)) (.cons (.ret (.ife (.cmp .gt (.slot 0) (.slot 2)) (.slot 2) (.slot 0))) (.nil))
/-! def fraction -/
def b1 : CSs := .cons (.ife (.cmp .eq (.slot 1) (.k (.int 0))) (.cons (.raise 1) (.nil)) (.nil)) (.cons (.asg (.name 2) (.bi .gcd (.cons (.slot 0) (.cons (.slot 1) (.nil))))) (.cons (.ife (.cmp .lt (.slot 1) (.k (.int 0))) (.cons (.asg (.name 2) (.neg (.slot 2))) (.nil)) (.nil)) (.cons (.ret (.tup (.cons (.bin .fdiv (.slot 0) (.slot 2)) (.cons (.bin .fdiv (.slot 1) (.slot 2)) (.nil))))) (.nil))))
/-! def times -/
def b2 : CSs := .cons (.ret (.call 1 (.cons (.bin .mul (.ix (.slot 0) (.k (.int 0))) (.ix (.slot 1) (.k (.int 0)))) (.cons (.bin .mul (.ix (.slot 0) (.k (.int 1))) (.ix (.slot 1) (.k (.int 1)))) (.nil))))) (.nil)
/-! def over -/
def b3 : CSs := .cons (.ret (.call 1 (.cons (.bin .mul (.ix (.slot 0) (.k (.int 0))) (.ix (.slot 1) (.k (.int 1)))) (.cons (.bin .mul (.ix (.slot 0) (.k (.int 1))) (.ix (.slot 1) (.k (.int 0)))) (.nil))))) (.nil)
/-! def nearest -/
def b4 : CSs := .cons (.ret (.bin .fdiv (.bin .add (.bin .mul (.k (.int 2)) (.ix (.slot 0) (.k (.int 0)))) (.ix (.slot 0) (.k (.int 1)))) (.bin .mul (.k (.int 2)) (.ix (.slot 0) (.k (.int 1)))))) (.nil)
/-! def multiplier -/
def b5l0 : CSs := .cons (.asg (.name 2) (.call 4 (.cons (.call 2 (.cons (.slot 0) (.cons (.tup (.cons (.bin .shl (.k (.int 1)) (.slot 1)) (.cons (.k (.int 1)) (.nil)))) (.nil)))) (.nil)))) (.cons (.ife (.cmp .eq (.slot 2) (.k (.int 0))) (.cons (.raise 3) (.nil)) (.nil)) (.cons (.ife (.cmp .le (.slot 2) (.glob 3)) (.cons (.ret (.tup (.cons (.slot 2) (.cons (.slot 1) (.nil))))) (.nil)) (.nil)) (.nil)))
def b5 : CSs := .cons (.for_ (.name 1) (.range3 (.glob 2) (.k (.int 0)) (.neg (.k (.int 1)))) b5l0) (.cons (.raise 3) (.nil))
/-! def check_bits -/
def b6 : CSs := .cons (.ife (.not (.chain .le .le (.glob 0) (.slot 0) (.glob 1))) (.cons (.raise 2) (.nil)) (.nil)) (.nil)
/-! def code_range -/
def b7 : CSs := .cons (.asg (.name 1) (.bin .shl (.k (.int 1)) (.bin .sub (.slot 0) (.k (.int 1))))) (.cons (.ret (.tup (.cons (.neg (.slot 1)) (.cons (.bin .sub (.slot 1) (.k (.int 1))) (.nil))))) (.nil))
/-! def code_of -/
def b8 : CSs := .cons (.drop (.call 6 (.cons (.slot 1) (.nil)))) (.cons (.asg (.tup (.cons (.name 3) (.cons (.name 4) (.nil)))) (.slot 0)) (.cons (.asg (.tup (.cons (.name 5) (.cons (.name 6) (.nil)))) (.call 7 (.cons (.slot 1) (.nil)))) (.cons (.ret (.call 0 (.cons (.bin .add (.call 4 (.cons (.call 3 (.cons (.slot 2) (.cons (.slot 3) (.nil)))) (.nil))) (.slot 4)) (.cons (.slot 5) (.cons (.slot 6) (.nil)))))) (.nil))))
/-! def meaning_of -/
def b9 : CSs := .cons (.asg (.tup (.cons (.name 2) (.cons (.name 3) (.nil)))) (.slot 0)) (.cons (.ret (.call 2 (.cons (.slot 2) (.cons (.tup (.cons (.bin .sub (.slot 1) (.slot 3)) (.cons (.k (.int 1)) (.nil)))) (.nil))))) (.nil))
/-! def _law_begin -/
def b10l0 : CSs := .cons (.asg (.name 1) (.bin .mod (.bin .add (.bin .add (.bin .mul (.slot 1) (.k (.int 69621))) (.bin .mod (.bi .int (.cons (.slot 2) (.nil))) (.k (.int 2147483629)))) (.k (.int 7))) (.k (.int 2147483647)))) (.nil)
def b10 : CSs := .cons (.asg (.name 1) (.k (.int 1))) (.cons (.for_ (.name 2) (.seq (.slot 0)) b10l0) (.cons (.ret (.lst (.cons (.bi .list (.cons (.slot 0) (.nil))) (.cons (.k (.int 0)) (.cons (.k (.int 0)) (.cons (.slot 1) (.nil))))))) (.nil)))
/-! def _law_take -/
def b11 : CSs := .cons (.ife (.and (.cmp .eq (.ix (.slot 0) (.k (.int 2))) (.k (.int 0))) (.cmp .lt (.ix (.slot 0) (.k (.int 1))) (.bi .len (.cons (.ix (.slot 0) (.k (.int 0))) (.nil))))) (.cons (.asg (.sub (.slot 0) (.k (.int 2))) (.bi .abs (.cons (.bi .int (.cons (.ix (.ix (.slot 0) (.k (.int 0))) (.ix (.slot 0) (.k (.int 1)))) (.nil))) (.nil)))) (.cons (.asg (.sub (.slot 0) (.k (.int 1))) (.bin .add (.ix (.slot 0) (.k (.int 1))) (.k (.int 1)))) (.cons (.ife (.cmp .lt (.ix (.slot 0) (.k (.int 2))) (.bin .pow (.k (.int 10)) (.k (.int 18)))) (.cons (.asg (.name 2) (.bi .int (.cons (.ix (.slot 0) (.k (.int 2))) (.nil)))) (.cons (.asg (.sub (.slot 0) (.k (.int 2))) (.k (.int 0))) (.cons (.ret (.bin .mod (.slot 2) (.slot 1))) (.nil)))) (.nil)) (.nil)))) (.nil)) (.cons (.ife (.cmp .gt (.ix (.slot 0) (.k (.int 2))) (.k (.int 0))) (.cons (.asg (.name 3) (.bin .mod (.bi .int (.cons (.ix (.slot 0) (.k (.int 2))) (.nil))) (.slot 1))) (.cons (.asg (.sub (.slot 0) (.k (.int 2))) (.bin .fdiv (.bi .int (.cons (.ix (.slot 0) (.k (.int 2))) (.nil))) (.slot 1))) (.cons (.ret (.slot 3)) (.nil)))) (.nil)) (.cons (.asg (.sub (.slot 0) (.k (.int 3))) (.bin .mod (.bi .int (.cons (.bin .add (.bin .mul (.ix (.slot 0) (.k (.int 3))) (.k (.int 48271))) (.k (.int 11))) (.nil))) (.k (.int 2147483647)))) (.cons (.ret (.bin .mod (.bi .int (.cons (.bin .fdiv (.ix (.slot 0) (.k (.int 3))) (.k (.int 3))) (.nil))) (.slot 1))) (.nil))))
/-! def _law_signed -/
def b12 : CSs := .cons (.ret (.bin .sub (.call 11 (.cons (.slot 0) (.cons (.bin .add (.bin .mul (.k (.int 2)) (.slot 1)) (.k (.int 1))) (.nil)))) (.slot 1))) (.nil)
/-! def _law_int -/
def b13 : CSs := .cons (.ret (.and (.isi (.slot 0) [.ty "int"]) (.not (.isi (.slot 0) [.ty "bool"])))) (.nil)
/-! def _law_gcd -/
def b14l0 : CSs := .cons (.par 0 1 (.slot 1) (.bin .mod (.bi .int (.cons (.slot 0) (.nil))) (.slot 1))) (.nil)
def b14 : CSs := .cons (.while_ (.cmp .ne (.slot 1) (.k (.int 0))) b14l0) (.cons (.ret (.bi .abs (.cons (.slot 0) (.nil)))) (.nil))
/-! def _law_frac -/
def b15 : CSs := .cons (.ife (.cmp .lt (.slot 1) (.k (.int 0))) (.cons (.asg (.name 0) (.bin .sub (.k (.int 0)) (.slot 0))) (.cons (.asg (.name 1) (.bin .sub (.k (.int 0)) (.slot 1))) (.nil))) (.nil)) (.cons (.asg (.name 2) (.call 14 (.cons (.bi .abs (.cons (.slot 0) (.nil))) (.cons (.slot 1) (.nil))))) (.cons (.ret (.tup (.cons (.bin .fdiv (.slot 0) (.slot 2)) (.cons (.bin .fdiv (.slot 1) (.slot 2)) (.nil))))) (.nil)))
/-! def _law_sum -/
def b16 : CSs := .cons (.ret (.call 15 (.cons (.bin .add (.bin .mul (.ix (.slot 0) (.k (.int 0))) (.ix (.slot 1) (.k (.int 1)))) (.bin .mul (.ix (.slot 1) (.k (.int 0))) (.ix (.slot 0) (.k (.int 1))))) (.cons (.bin .mul (.ix (.slot 0) (.k (.int 1))) (.ix (.slot 1) (.k (.int 1)))) (.nil))))) (.nil)
/-! def _law_gap -/
def b17 : CSs := .cons (.asg (.name 2) (.call 16 (.cons (.slot 0) (.cons (.tup (.cons (.bin .sub (.k (.int 0)) (.ix (.slot 1) (.k (.int 0)))) (.cons (.ix (.slot 1) (.k (.int 1))) (.nil)))) (.nil))))) (.cons (.ret (.tup (.cons (.bi .abs (.cons (.ix (.slot 2) (.k (.int 0))) (.nil))) (.cons (.ix (.slot 2) (.k (.int 1))) (.nil))))) (.nil))
/-! def _law_over -/
def b18 : CSs := .cons (.ret (.call 15 (.cons (.bin .mul (.ix (.slot 0) (.k (.int 0))) (.ix (.slot 1) (.k (.int 1)))) (.cons (.bin .mul (.ix (.slot 0) (.k (.int 1))) (.ix (.slot 1) (.k (.int 0)))) (.nil))))) (.nil)
/-! def _law_near -/
def b19 : CSs := .cons (.ret (.bin .fdiv (.bin .add (.bin .mul (.k (.int 2)) (.ix (.slot 0) (.k (.int 0)))) (.ix (.slot 0) (.k (.int 1)))) (.bin .mul (.k (.int 2)) (.ix (.slot 0) (.k (.int 1)))))) (.nil)
/-! def _law_multiplier -/
def b20l0 : CSs := .cons (.asg (.name 1) (.bin .sub (.slot 1) (.k (.int 1)))) (.nil)
def b20 : CSs := .cons (.asg (.name 1) (.k (.int 30))) (.cons (.while_ (.and (.cmp .gt (.slot 1) (.k (.int 1))) (.cmp .gt (.call 19 (.cons (.tup (.cons (.bin .shl (.ix (.slot 0) (.k (.int 0))) (.slot 1)) (.cons (.ix (.slot 0) (.k (.int 1))) (.nil)))) (.nil))) (.k (.int 65535)))) b20l0) (.cons (.asg (.name 2) (.call 19 (.cons (.tup (.cons (.bin .shl (.ix (.slot 0) (.k (.int 0))) (.slot 1)) (.cons (.ix (.slot 0) (.k (.int 1))) (.nil)))) (.nil)))) (.cons (.ret (.ife (.or (.cmp .eq (.slot 2) (.k (.int 0))) (.cmp .gt (.slot 2) (.k (.int 65535)))) (.k .non) (.tup (.cons (.slot 2) (.cons (.slot 1) (.nil)))))) (.nil))))
/-! def _law_ends -/
def b21l0 : CSs := .cons (.asg (.name 1) (.bin .mul (.slot 1) (.k (.int 2)))) (.nil)
def b21 : CSs := .cons (.asg (.name 1) (.k (.int 1))) (.cons (.for_ (.name 2) (.range1 (.bin .sub (.slot 0) (.k (.int 1)))) b21l0) (.cons (.ret (.tup (.cons (.bin .sub (.k (.int 0)) (.slot 1)) (.cons (.bin .sub (.slot 1) (.k (.int 1))) (.nil))))) (.nil)))
/-! def _law_means -/
def b22 : CSs := .cons (.ret (.call 15 (.cons (.bin .mul (.ix (.ix (.slot 0) (.k (.int 0))) (.k (.int 0))) (.bin .sub (.slot 1) (.ix (.slot 0) (.k (.int 1))))) (.cons (.ix (.ix (.slot 0) (.k (.int 0))) (.k (.int 1))) (.nil))))) (.nil)
/-! def _law_told -/
def b23l0 : CSs := .cons (.asg (.name 1) (.call 5 (.cons (.slot 0) (.nil)))) (.nil)
def b23l1 : CSs := .cons (.ret (.ife (.isx 2 (.own 3)) (.k .non) (.k (.str "other")))) (.nil)
def b23 : CSs := .cons (.try_ b23l0 0 (some 2) b23l1) (.cons (.ret (.ife (.cmp .is (.slot 1) (.k .non)) (.k (.str "None was told")) (.slot 1))) (.nil))
/-! def _law_coded -/
def b24l0 : CSs := .cons (.asg (.name 3) (.call 8 (.cons (.slot 0) (.cons (.slot 1) (.cons (.slot 2) (.nil)))))) (.nil)
def b24l1 : CSs := .cons (.ret (.ife (.isx 4 (.own 2)) (.k .non) (.k (.str "other")))) (.nil)
def b24 : CSs := .cons (.try_ b24l0 0 (some 4) b24l1) (.cons (.ret (.ife (.cmp .is (.slot 3) (.k .non)) (.k (.str "None was told")) (.slot 3))) (.nil))
/-! def _law_drawn -/
def b25 : CSs := .cons (.asg (.name 1) (.call 11 (.cons (.slot 0) (.cons (.k (.int 7)) (.nil))))) (.cons (.ife (.cmp .eq (.slot 1) (.k (.int 0))) (.cons (.ret (.tup (.cons (.bin .shl (.k (.int 1)) (.call 11 (.cons (.slot 0) (.cons (.k (.int 18)) (.nil))))) (.cons (.k (.int 1)) (.nil))))) (.nil)) (.nil)) (.cons (.ife (.cmp .eq (.slot 1) (.k (.int 1))) (.cons (.ret (.tup (.cons (.k (.int 1)) (.cons (.bin .shl (.k (.int 1)) (.call 11 (.cons (.slot 0) (.cons (.k (.int 36)) (.nil))))) (.nil))))) (.nil)) (.nil)) (.cons (.ife (.cmp .eq (.slot 1) (.k (.int 2))) (.cons (.ret (.call 15 (.cons (.bin .add (.k (.int 65534)) (.call 11 (.cons (.slot 0) (.cons (.k (.int 4)) (.nil))))) (.cons (.bin .add (.k (.int 1)) (.call 11 (.cons (.slot 0) (.cons (.k (.int 3)) (.nil))))) (.nil))))) (.nil)) (.nil)) (.cons (.asg (.name 2) (.ix (.tup (.cons (.k (.int 20)) (.cons (.bin .pow (.k (.int 10)) (.k (.int 6))) (.cons (.bin .pow (.k (.int 10)) (.k (.int 12))) (.cons (.bin .pow (.k (.int 10)) (.k (.int 60))) (.nil)))))) (.bin .sub (.slot 1) (.k (.int 3))))) (.cons (.ret (.call 15 (.cons (.bin .add (.k (.int 1)) (.call 11 (.cons (.slot 0) (.cons (.slot 2) (.nil))))) (.cons (.bin .add (.k (.int 1)) (.call 11 (.cons (.slot 0) (.cons (.slot 2) (.nil))))) (.nil))))) (.nil))))))
/-! def law -/
def b26l0 : CSs := .cons (.asg (.name 9) (.call 15 (.cons (.call 12 (.cons (.slot 1) (.cons (.ix (.tup (.cons (.k (.int 9)) (.cons (.bin .pow (.k (.int 10)) (.k (.int 4))) (.cons (.bin .pow (.k (.int 10)) (.k (.int 9))) (.nil))))) (.call 11 (.cons (.slot 1) (.cons (.k (.int 3)) (.nil))))) (.nil)))) (.cons (.bin .add (.k (.int 1)) (.call 11 (.cons (.slot 1) (.cons (.k (.int 5)) (.nil))))) (.nil))))) (.cons (.asg (.name 10) (.bin .add (.call 19 (.cons (.call 18 (.cons (.slot 9) (.cons (.ix (.slot 8) (.k (.int 0))) (.nil)))) (.nil))) (.ix (.slot 8) (.k (.int 1))))) (.cons (.asg (.name 11) (.call 24 (.cons (.slot 8) (.cons (.slot 5) (.cons (.slot 9) (.nil)))))) (.cons (.ife (.or (.not (.call 13 (.cons (.slot 11) (.nil)))) (.cmp .ne (.slot 11) (.bi .max2 (.cons (.slot 6) (.cons (.bi .min2 (.cons (.slot 7) (.cons (.slot 10) (.nil)))) (.nil)))))) (.cons (.ret (.k (.bl false))) (.nil)) (.nil)) (.cons (.ife (.cmp .ne (.call 9 (.cons (.slot 8) (.cons (.slot 11) (.nil)))) (.call 22 (.cons (.slot 8) (.cons (.slot 11) (.nil))))) (.cons (.ret (.k (.bl false))) (.nil)) (.nil)) (.cons (.ife (.cmp .eq (.slot 11) (.slot 10)) (.cons (.asg (.name 12) (.call 17 (.cons (.slot 9) (.cons (.call 22 (.cons (.slot 8) (.cons (.slot 11) (.nil)))) (.nil))))) (.cons (.ife (.cmp .gt (.bin .mul (.bin .mul (.k (.int 2)) (.ix (.slot 12) (.k (.int 0)))) (.ix (.ix (.slot 8) (.k (.int 0))) (.k (.int 1)))) (.bin .mul (.ix (.ix (.slot 8) (.k (.int 0))) (.k (.int 0))) (.ix (.slot 12) (.k (.int 1))))) (.cons (.ret (.k (.bl false))) (.nil)) (.nil)) (.nil))) (.nil)) (.nil))))))
def b26l1 : CSs := .cons (.asg (.name 3) (.call 25 (.cons (.slot 1) (.nil)))) (.cons (.asg (.name 4) (.call 23 (.cons (.slot 3) (.nil)))) (.cons (.ife (.cmp .ne (.slot 4) (.call 20 (.cons (.slot 3) (.nil)))) (.cons (.ret (.k (.bl false))) (.nil)) (.nil)) (.cons (.ife (.and (.cmp .isNot (.slot 4) (.k .non)) (.or (.not (.isi (.slot 4) [.ty "tuple"])) (.or (.not (.call 13 (.cons (.ix (.slot 4) (.k (.int 0))) (.nil)))) (.not (.call 13 (.cons (.ix (.slot 4) (.k (.int 1))) (.nil))))))) (.cons (.ret (.k (.bl false))) (.nil)) (.nil)) (.nil))))
def b26 : CSs := .cons (.asg (.name 1) (.call 10 (.cons (.slot 0) (.nil)))) (.cons (.for_ (.name 2) (.range1 (.k (.int 4))) b26l1) (.cons (.asg (.name 5) (.bin .add (.k (.int 3)) (.call 11 (.cons (.slot 1) (.cons (.k (.int 10)) (.nil)))))) (.cons (.asg (.tup (.cons (.name 6) (.cons (.name 7) (.nil)))) (.call 21 (.cons (.slot 5) (.nil)))) (.cons (.asg (.name 8) (.tup (.cons (.call 25 (.cons (.slot 1) (.nil))) (.cons (.bin .add (.slot 6) (.call 11 (.cons (.slot 1) (.cons (.bin .add (.bin .sub (.slot 7) (.slot 6)) (.k (.int 1))) (.nil))))) (.nil))))) (.cons (.for_ (.name 2) (.range1 (.k (.int 4))) b26l0) (.cons (.ret (.and (.cmp .is (.call 24 (.cons (.slot 8) (.cons (.k (.int 2)) (.cons (.tup (.cons (.k (.int 1)) (.cons (.k (.int 1)) (.nil)))) (.nil))))) (.k .non)) (.cmp .is (.call 24 (.cons (.slot 8) (.cons (.k (.int 13)) (.cons (.tup (.cons (.k (.int 1)) (.cons (.k (.int 1)) (.nil)))) (.nil))))) (.k .non)))) (.nil)))))))
def Dt : Nat → Option Def
  | 0 => some ⟨3, 3, b0⟩
  | 1 => some ⟨3, 2, b1⟩
  | 2 => some ⟨2, 2, b2⟩
  | 3 => some ⟨2, 2, b3⟩
  | 4 => some ⟨1, 1, b4⟩
  | 5 => some ⟨3, 1, b5⟩
  | 6 => some ⟨1, 1, b6⟩
  | 7 => some ⟨2, 1, b7⟩
  | 8 => some ⟨7, 3, b8⟩
  | 9 => some ⟨4, 2, b9⟩
  | 10 => some ⟨3, 1, b10⟩
  | 11 => some ⟨4, 2, b11⟩
  | 12 => some ⟨2, 2, b12⟩
  | 13 => some ⟨1, 1, b13⟩
  | 14 => some ⟨2, 2, b14⟩
  | 15 => some ⟨3, 2, b15⟩
  | 16 => some ⟨2, 2, b16⟩
  | 17 => some ⟨3, 2, b17⟩
  | 18 => some ⟨2, 2, b18⟩
  | 19 => some ⟨1, 1, b19⟩
  | 20 => some ⟨3, 1, b20⟩
  | 21 => some ⟨3, 1, b21⟩
  | 22 => some ⟨2, 2, b22⟩
  | 23 => some ⟨3, 1, b23⟩
  | 24 => some ⟨5, 3, b24⟩
  | 25 => some ⟨3, 1, b25⟩
  | 26 => some ⟨13, 1, b26⟩
  | _ => none
def Gt : Nat → Option DV
  | 3 => some (.int 65535)
  | 0 => some (.int 3)
  | 1 => some (.int 12)
  | 2 => some (.int 30)
  | _ => none
def subt : Nat → Nat → Bool
  | 0, 0 => true
  | 0, 1 => false
  | 0, 2 => false
  | 0, 3 => false
  | 1, 0 => true
  | 1, 1 => true
  | 1, 2 => false
  | 1, 3 => false
  | 2, 0 => true
  | 2, 1 => false
  | 2, 2 => true
  | 2, 3 => false
  | 3, 0 => true
  | 3, 1 => false
  | 3, 2 => false
  | 3, 3 => true
  | _, _ => false
theorem sub_0_0 : subt 0 0 = true := Ip.nr rfl
theorem sub_0_1 : subt 0 1 = false := Ip.nr rfl
theorem sub_0_2 : subt 0 2 = false := Ip.nr rfl
theorem sub_0_3 : subt 0 3 = false := Ip.nr rfl
theorem sub_1_0 : subt 1 0 = true := Ip.nr rfl
theorem sub_1_1 : subt 1 1 = true := Ip.nr rfl
theorem sub_1_2 : subt 1 2 = false := Ip.nr rfl
theorem sub_1_3 : subt 1 3 = false := Ip.nr rfl
theorem sub_2_0 : subt 2 0 = true := Ip.nr rfl
theorem sub_2_1 : subt 2 1 = false := Ip.nr rfl
theorem sub_2_2 : subt 2 2 = true := Ip.nr rfl
theorem sub_2_3 : subt 2 3 = false := Ip.nr rfl
theorem sub_3_0 : subt 3 0 = true := Ip.nr rfl
theorem sub_3_1 : subt 3 1 = false := Ip.nr rfl
theorem sub_3_2 : subt 3 2 = false := Ip.nr rfl
theorem sub_3_3 : subt 3 3 = true := Ip.nr rfl
end Lw
end PtLk62A
section PtLk62D
set_option Elab.async false
set_option linter.all false
set_option maxRecDepth 100000
set_option maxHeartbeats 4000000
namespace Lw
open PySem PySem.Spec PyProof.Rows L2 Ip
def topS (i : Nat) : Stmt := PySem.Challenge.pw_tensorworks_k62_multipliers_and_codes.main.body.getD i (.Pass ⟨0, 0, 0, 0⟩)
abbrev s0 : Stmt := topS 7
abbrev N0 : List Str := ["n", "low", "high"]
theorem sc0 : FnScope N0 ["n", "low", "high"] (defScope s0) := ⟨rfl, rfl, rfl, by decide +kernel, rfl, by decide +kernel, by decide +kernel⟩
abbrev s1 : Stmt := topS 9
abbrev N1 : List Str := ["numerator", "denominator", "divisor"]
theorem sc1 : FnScope N1 ["numerator", "denominator"] (defScope s1) := ⟨rfl, rfl, rfl, by decide +kernel, rfl, by decide +kernel, by decide +kernel⟩
abbrev s2 : Stmt := topS 10
abbrev N2 : List Str := ["a", "b"]
theorem sc2 : FnScope N2 ["a", "b"] (defScope s2) := ⟨rfl, rfl, rfl, by decide +kernel, rfl, by decide +kernel, by decide +kernel⟩
abbrev s3 : Stmt := topS 11
abbrev N3 : List Str := ["a", "b"]
theorem sc3 : FnScope N3 ["a", "b"] (defScope s3) := ⟨rfl, rfl, rfl, by decide +kernel, rfl, by decide +kernel, by decide +kernel⟩
abbrev s4 : Stmt := topS 12
abbrev N4 : List Str := ["a"]
theorem sc4 : FnScope N4 ["a"] (defScope s4) := ⟨rfl, rfl, rfl, by decide +kernel, rfl, by decide +kernel, by decide +kernel⟩
abbrev s5 : Stmt := topS 18
abbrev N5 : List Str := ["a", "shift", "factor"]
theorem sc5 : FnScope N5 ["a"] (defScope s5) := ⟨rfl, rfl, rfl, by decide +kernel, rfl, by decide +kernel, by decide +kernel⟩
abbrev s6 : Stmt := topS 19
abbrev N6 : List Str := ["bits"]
theorem sc6 : FnScope N6 ["bits"] (defScope s6) := ⟨rfl, rfl, rfl, by decide +kernel, rfl, by decide +kernel, by decide +kernel⟩
abbrev s7 : Stmt := topS 20
abbrev N7 : List Str := ["bits", "half"]
theorem sc7 : FnScope N7 ["bits"] (defScope s7) := ⟨rfl, rfl, rfl, by decide +kernel, rfl, by decide +kernel, by decide +kernel⟩
abbrev s8 : Stmt := topS 21
abbrev N8 : List Str := ["pair", "bits", "x", "scale", "zero", "low", "high"]
theorem sc8 : FnScope N8 ["pair", "bits", "x"] (defScope s8) := ⟨rfl, rfl, rfl, by decide +kernel, rfl, by decide +kernel, by decide +kernel⟩
abbrev s9 : Stmt := topS 22
abbrev N9 : List Str := ["pair", "code", "scale", "zero"]
theorem sc9 : FnScope N9 ["pair", "code"] (defScope s9) := ⟨rfl, rfl, rfl, by decide +kernel, rfl, by decide +kernel, by decide +kernel⟩
abbrev s10 : Stmt := topS 24
abbrev N10 : List Str := ["script", "seed", "cell"]
theorem sc10 : FnScope N10 ["script"] (defScope s10) := ⟨rfl, rfl, rfl, by decide +kernel, rfl, by decide +kernel, by decide +kernel⟩
abbrev s11 : Stmt := topS 25
abbrev N11 : List Str := ["d", "many", "small", "digit"]
theorem sc11 : FnScope N11 ["d", "many"] (defScope s11) := ⟨rfl, rfl, rfl, by decide +kernel, rfl, by decide +kernel, by decide +kernel⟩
abbrev s12 : Stmt := topS 26
abbrev N12 : List Str := ["d", "most"]
theorem sc12 : FnScope N12 ["d", "most"] (defScope s12) := ⟨rfl, rfl, rfl, by decide +kernel, rfl, by decide +kernel, by decide +kernel⟩
abbrev s13 : Stmt := topS 27
abbrev N13 : List Str := ["actual"]
theorem sc13 : FnScope N13 ["actual"] (defScope s13) := ⟨rfl, rfl, rfl, by decide +kernel, rfl, by decide +kernel, by decide +kernel⟩
abbrev s14 : Stmt := topS 28
abbrev N14 : List Str := ["a", "b"]
theorem sc14 : FnScope N14 ["a", "b"] (defScope s14) := ⟨rfl, rfl, rfl, by decide +kernel, rfl, by decide +kernel, by decide +kernel⟩
abbrev s15 : Stmt := topS 29
abbrev N15 : List Str := ["a", "b", "c"]
theorem sc15 : FnScope N15 ["a", "b"] (defScope s15) := ⟨rfl, rfl, rfl, by decide +kernel, rfl, by decide +kernel, by decide +kernel⟩
abbrev s16 : Stmt := topS 30
abbrev N16 : List Str := ["a", "b"]
theorem sc16 : FnScope N16 ["a", "b"] (defScope s16) := ⟨rfl, rfl, rfl, by decide +kernel, rfl, by decide +kernel, by decide +kernel⟩
abbrev s17 : Stmt := topS 31
abbrev N17 : List Str := ["a", "b", "c"]
theorem sc17 : FnScope N17 ["a", "b"] (defScope s17) := ⟨rfl, rfl, rfl, by decide +kernel, rfl, by decide +kernel, by decide +kernel⟩
abbrev s18 : Stmt := topS 32
abbrev N18 : List Str := ["a", "b"]
theorem sc18 : FnScope N18 ["a", "b"] (defScope s18) := ⟨rfl, rfl, rfl, by decide +kernel, rfl, by decide +kernel, by decide +kernel⟩
abbrev s19 : Stmt := topS 33
abbrev N19 : List Str := ["a"]
theorem sc19 : FnScope N19 ["a"] (defScope s19) := ⟨rfl, rfl, rfl, by decide +kernel, rfl, by decide +kernel, by decide +kernel⟩
abbrev s20 : Stmt := topS 34
abbrev N20 : List Str := ["a", "s", "m"]
theorem sc20 : FnScope N20 ["a"] (defScope s20) := ⟨rfl, rfl, rfl, by decide +kernel, rfl, by decide +kernel, by decide +kernel⟩
abbrev s21 : Stmt := topS 35
abbrev N21 : List Str := ["bits", "half", "k"]
theorem sc21 : FnScope N21 ["bits"] (defScope s21) := ⟨rfl, rfl, rfl, by decide +kernel, rfl, by decide +kernel, by decide +kernel⟩
abbrev s22 : Stmt := topS 36
abbrev N22 : List Str := ["pair", "code"]
theorem sc22 : FnScope N22 ["pair", "code"] (defScope s22) := ⟨rfl, rfl, rfl, by decide +kernel, rfl, by decide +kernel, by decide +kernel⟩
abbrev s23 : Stmt := topS 37
abbrev N23 : List Str := ["a", "actual", "e"]
theorem sc23 : FnScope N23 ["a"] (defScope s23) := ⟨rfl, rfl, rfl, by decide +kernel, rfl, by decide +kernel, by decide +kernel⟩
abbrev s24 : Stmt := topS 38
abbrev N24 : List Str := ["pair", "bits", "x", "actual", "e"]
theorem sc24 : FnScope N24 ["pair", "bits", "x"] (defScope s24) := ⟨rfl, rfl, rfl, by decide +kernel, rfl, by decide +kernel, by decide +kernel⟩
abbrev s25 : Stmt := topS 39
abbrev N25 : List Str := ["d", "menu", "most"]
theorem sc25 : FnScope N25 ["d"] (defScope s25) := ⟨rfl, rfl, rfl, by decide +kernel, rfl, by decide +kernel, by decide +kernel⟩
abbrev s26 : Stmt := topS 40
abbrev N26 : List Str := ["script", "d", "turn", "a", "told", "bits", "low", "high", "pair", "x", "wanted", "code", "gap"]
theorem sc26 : FnScope N26 ["script"] (defScope s26) := ⟨rfl, rfl, rfl, by decide +kernel, rfl, by decide +kernel, by decide +kernel⟩
noncomputable abbrev Tk (cls : Nat → Option Addr) (k : Nat) : Tb := ⟨callAt Dt Gt subt k, Gt, subt, cls⟩
structure FdB (P : Program) (w : World) (K : PySem.W.Frag) (mg : Str → Option Value) (base : Heap) (T : Tb) (k : Nat) (x : Str) (f np : Nat) (ps : List Str) (ad : Addr) (fd : FuncData) : Prop where
  fn : FnOk P w K mg base (L2.CX P w) k ad fd ps (spC T K f np)
  pl : ps.length = np
  at_ : mg x = some (.ref ad)
  kp : PySem.W.keepIn K (.ref ad) = true
  bd : Binds K fd ps []
structure Mn (mg : Str → Option Value) : Prop where
  m_abs : mg "abs" = none
  m_bool : mg "bool" = none
  m_int : mg "int" = none
  m_isinstance : mg "isinstance" = none
  m_len : mg "len" = none
  m_list : mg "list" = none
  m_max : mg "max" = none
  m_min : mg "min" = none
  m_range : mg "range" = none
  m_tuple : mg "tuple" = none
  g_gcd : mg "gcd" = some (.builtin "math.gcd")
  c_FACTOR_LIMIT : ∃ t, mg "FACTOR_LIMIT" = some (.int 65535 t)
  c_FEWEST_BITS : ∃ t, mg "FEWEST_BITS" = some (.int 3 t)
  c_MOST_BITS : ∃ t, mg "MOST_BITS" = some (.int 12 t)
  c_SHIFT_LIMIT : ∃ t, mg "SHIFT_LIMIT" = some (.int 30 t)
structure Cn (K : PySem.W.Frag) (mg : Str → Option Value) (C0 C1 C2 C3 : Addr) : Prop where
  o0 : OwnC K mg "TensorError" C0
  o1 : OwnC K mg "ZeroDenominator" C1
  o2 : OwnC K mg "RangeError" C2
  o3 : OwnC K mg "TableError" C3
  M : ClsT K mg subt (clsOf [C0, C1, C2, C3])
structure Fs (P : Program) (w : World) (K : PySem.W.Frag) (mg : Str → Option Value) (base : Heap) (T : Tb) (k : Nat) (a0 : Addr) (d0 : FuncData) (a1 : Addr) (d1 : FuncData) (a2 : Addr) (d2 : FuncData) (a3 : Addr) (d3 : FuncData) (a4 : Addr) (d4 : FuncData) (a5 : Addr) (d5 : FuncData) (a6 : Addr) (d6 : FuncData) (a7 : Addr) (d7 : FuncData) (a8 : Addr) (d8 : FuncData) (a9 : Addr) (d9 : FuncData) (a10 : Addr) (d10 : FuncData) (a11 : Addr) (d11 : FuncData) (a12 : Addr) (d12 : FuncData) (a13 : Addr) (d13 : FuncData) (a14 : Addr) (d14 : FuncData) (a15 : Addr) (d15 : FuncData) (a16 : Addr) (d16 : FuncData) (a17 : Addr) (d17 : FuncData) (a18 : Addr) (d18 : FuncData) (a19 : Addr) (d19 : FuncData) (a20 : Addr) (d20 : FuncData) (a21 : Addr) (d21 : FuncData) (a22 : Addr) (d22 : FuncData) (a23 : Addr) (d23 : FuncData) (a24 : Addr) (d24 : FuncData) (a25 : Addr) (d25 : FuncData) (a26 : Addr) (d26 : FuncData) : Prop where
  f0 : FdB P w K mg base T k "limit" 0 3 ["n", "low", "high"] a0 d0
  f1 : FdB P w K mg base T k "fraction" 1 2 ["numerator", "denominator"] a1 d1
  f2 : FdB P w K mg base T k "times" 2 2 ["a", "b"] a2 d2
  f3 : FdB P w K mg base T k "over" 3 2 ["a", "b"] a3 d3
  f4 : FdB P w K mg base T k "nearest" 4 1 ["a"] a4 d4
  f5 : FdB P w K mg base T k "multiplier" 5 1 ["a"] a5 d5
  f6 : FdB P w K mg base T k "check_bits" 6 1 ["bits"] a6 d6
  f7 : FdB P w K mg base T k "code_range" 7 1 ["bits"] a7 d7
  f8 : FdB P w K mg base T k "code_of" 8 3 ["pair", "bits", "x"] a8 d8
  f9 : FdB P w K mg base T k "meaning_of" 9 2 ["pair", "code"] a9 d9
  f10 : FdB P w K mg base T k "_law_begin" 10 1 ["script"] a10 d10
  f11 : FdB P w K mg base T k "_law_take" 11 2 ["d", "many"] a11 d11
  f12 : FdB P w K mg base T k "_law_signed" 12 2 ["d", "most"] a12 d12
  f13 : FdB P w K mg base T k "_law_int" 13 1 ["actual"] a13 d13
  f14 : FdB P w K mg base T k "_law_gcd" 14 2 ["a", "b"] a14 d14
  f15 : FdB P w K mg base T k "_law_frac" 15 2 ["a", "b"] a15 d15
  f16 : FdB P w K mg base T k "_law_sum" 16 2 ["a", "b"] a16 d16
  f17 : FdB P w K mg base T k "_law_gap" 17 2 ["a", "b"] a17 d17
  f18 : FdB P w K mg base T k "_law_over" 18 2 ["a", "b"] a18 d18
  f19 : FdB P w K mg base T k "_law_near" 19 1 ["a"] a19 d19
  f20 : FdB P w K mg base T k "_law_multiplier" 20 1 ["a"] a20 d20
  f21 : FdB P w K mg base T k "_law_ends" 21 1 ["bits"] a21 d21
  f22 : FdB P w K mg base T k "_law_means" 22 2 ["pair", "code"] a22 d22
  f23 : FdB P w K mg base T k "_law_told" 23 1 ["a"] a23 d23
  f24 : FdB P w K mg base T k "_law_coded" 24 3 ["pair", "bits", "x"] a24 d24
  f25 : FdB P w K mg base T k "_law_drawn" 25 1 ["d"] a25 d25
  f26 : FdB P w K mg base T k "law" 26 1 ["script"] a26 d26
section
variable {P : Program} {w : World} {K : PySem.W.Frag} {mg : Str → Option Value} {base : Heap} {C0 C1 C2 C3 : Addr} {k : Nat} {a0 : Addr} {d0 : FuncData} {a1 : Addr} {d1 : FuncData} {a2 : Addr} {d2 : FuncData} {a3 : Addr} {d3 : FuncData} {a4 : Addr} {d4 : FuncData} {a5 : Addr} {d5 : FuncData} {a6 : Addr} {d6 : FuncData} {a7 : Addr} {d7 : FuncData} {a8 : Addr} {d8 : FuncData} {a9 : Addr} {d9 : FuncData} {a10 : Addr} {d10 : FuncData} {a11 : Addr} {d11 : FuncData} {a12 : Addr} {d12 : FuncData} {a13 : Addr} {d13 : FuncData} {a14 : Addr} {d14 : FuncData} {a15 : Addr} {d15 : FuncData} {a16 : Addr} {d16 : FuncData} {a17 : Addr} {d17 : FuncData} {a18 : Addr} {d18 : FuncData} {a19 : Addr} {d19 : FuncData} {a20 : Addr} {d20 : FuncData} {a21 : Addr} {d21 : FuncData} {a22 : Addr} {d22 : FuncData} {a23 : Addr} {d23 : FuncData} {a24 : Addr} {d24 : FuncData} {a25 : Addr} {d25 : FuncData} {a26 : Addr} {d26 : FuncData}
theorem der0 {ad : Addr} {cdv : Value} {A : Around} {outer : List Env} {s : Shared} {H : Hp} {E : XK} (M : Mn mg) (Cc : Cn K mg C0 C1 C2 C3) (F : Fs P w K mg base (Tk (clsOf [C0, C1, C2, C3]) k) k a0 d0 a1 d1 a2 d2 a3 d3 a4 d4 a5 d5 a6 d6 a7 d7 a8 d8 a9 d9 a10 d10 a11 d11 a12 d12 a13 d13 a14 d14 a15 d15 a16 d16 a17 d17 a18 d18 a19 d19 a20 d20 a21 d21 a22 d22 a23 d23 a24 d24 a25 d25 a26 d26) (hr : Room k (A.deeper (envOfC "limit" (defScope s0) s.heap.objs.size ad cdv))) :
    SSs (Tk (clsOf [C0, C1, C2, C3]) k) (cxOf (L2.CX P w) P w K mg base N0 "limit" (defScope s0) ad cdv A outer s H E) none (fun c d _ H => E c d H) (defBody s0) b0 :=
  sss_cons (ss_if (st_cmp hr.units .lt (se_slot 0) (se_slot 1)) (sss_cons (ss_ret (se_slot 1)) (
  sss_nil)) (sss_nil)) (
  sss_cons (ss_ret (se_ife (st_cmp hr.units .gt (se_slot 0) (se_slot 2)) (se_slot 2) (se_slot 0))) (
  sss_nil))
theorem der1 {ad : Addr} {cdv : Value} {A : Around} {outer : List Env} {s : Shared} {H : Hp} {E : XK} (M : Mn mg) (Cc : Cn K mg C0 C1 C2 C3) (F : Fs P w K mg base (Tk (clsOf [C0, C1, C2, C3]) k) k a0 d0 a1 d1 a2 d2 a3 d3 a4 d4 a5 d5 a6 d6 a7 d7 a8 d8 a9 d9 a10 d10 a11 d11 a12 d12 a13 d13 a14 d14 a15 d15 a16 d16 a17 d17 a18 d18 a19 d19 a20 d20 a21 d21 a22 d22 a23 d23 a24 d24 a25 d25 a26 d26) (hr : Room k (A.deeper (envOfC "fraction" (defScope s1) s.heap.objs.size ad cdv))) :
    SSs (Tk (clsOf [C0, C1, C2, C3]) k) (cxOf (L2.CX P w) P w K mg base N1 "fraction" (defScope s1) ad cdv A outer s H E) none (fun c d _ H => E c d H) (defBody s1) b1 :=
  sss_cons (ss_if (st_cmp hr.units .eq (se_slot 1) (se_int)) (sss_cons (ss_raise 1 rfl Cc.o1 (takes_of rfl rfl rfl rfl)) (
  sss_nil)) (sss_nil)) (
  sss_cons (ss_asg (se_gcd M.g_gcd (ses_cons (se_slot 0) (ses_cons (se_slot 1) (ses_nil)))) (sg_name 2 sc1.nd)) (
  sss_cons (ss_if (st_cmp hr.units .lt (se_slot 1) (se_int)) (sss_cons (ss_asg (se_neg (se_slot 2)) (sg_name 2 sc1.nd)) (
  sss_nil)) (sss_nil)) (
  sss_cons (ss_ret (se_tup (ses_cons (se_bin .fdiv (se_slot 0) (se_slot 2)) (ses_cons (se_bin .fdiv (se_slot 1) (se_slot 2)) (ses_nil))))) (
  sss_nil))))
theorem der2 {ad : Addr} {cdv : Value} {A : Around} {outer : List Env} {s : Shared} {H : Hp} {E : XK} (M : Mn mg) (Cc : Cn K mg C0 C1 C2 C3) (F : Fs P w K mg base (Tk (clsOf [C0, C1, C2, C3]) k) k a0 d0 a1 d1 a2 d2 a3 d3 a4 d4 a5 d5 a6 d6 a7 d7 a8 d8 a9 d9 a10 d10 a11 d11 a12 d12 a13 d13 a14 d14 a15 d15 a16 d16 a17 d17 a18 d18 a19 d19 a20 d20 a21 d21 a22 d22 a23 d23 a24 d24 a25 d25 a26 d26) (hr : Room k (A.deeper (envOfC "times" (defScope s2) s.heap.objs.size ad cdv))) :
    SSs (Tk (clsOf [C0, C1, C2, C3]) k) (cxOf (L2.CX P w) P w K mg base N2 "times" (defScope s2) ad cdv A outer s H E) none (fun c d _ H => E c d H) (defBody s2) b2 :=
  sss_cons (ss_ret (se_call ⟨⟨_, _, _, F.f1.fn, F.f1.pl, F.f1.at_, F.f1.kp, F.f1.bd⟩⟩ hr (takes_of rfl rfl rfl rfl) (ses_cons (se_bin .mul (se_ix (se_slot 0) (se_int)) (se_ix (se_slot 1) (se_int))) (ses_cons (se_bin .mul (se_ix (se_slot 0) (se_int)) (se_ix (se_slot 1) (se_int))) (ses_nil))) (hlen := (len_cons (len_cons (fun _ _ _ _ h => len_nil h)))))) (
  sss_nil)
theorem der3 {ad : Addr} {cdv : Value} {A : Around} {outer : List Env} {s : Shared} {H : Hp} {E : XK} (M : Mn mg) (Cc : Cn K mg C0 C1 C2 C3) (F : Fs P w K mg base (Tk (clsOf [C0, C1, C2, C3]) k) k a0 d0 a1 d1 a2 d2 a3 d3 a4 d4 a5 d5 a6 d6 a7 d7 a8 d8 a9 d9 a10 d10 a11 d11 a12 d12 a13 d13 a14 d14 a15 d15 a16 d16 a17 d17 a18 d18 a19 d19 a20 d20 a21 d21 a22 d22 a23 d23 a24 d24 a25 d25 a26 d26) (hr : Room k (A.deeper (envOfC "over" (defScope s3) s.heap.objs.size ad cdv))) :
    SSs (Tk (clsOf [C0, C1, C2, C3]) k) (cxOf (L2.CX P w) P w K mg base N3 "over" (defScope s3) ad cdv A outer s H E) none (fun c d _ H => E c d H) (defBody s3) b3 :=
  sss_cons (ss_ret (se_call ⟨⟨_, _, _, F.f1.fn, F.f1.pl, F.f1.at_, F.f1.kp, F.f1.bd⟩⟩ hr (takes_of rfl rfl rfl rfl) (ses_cons (se_bin .mul (se_ix (se_slot 0) (se_int)) (se_ix (se_slot 1) (se_int))) (ses_cons (se_bin .mul (se_ix (se_slot 0) (se_int)) (se_ix (se_slot 1) (se_int))) (ses_nil))) (hlen := (len_cons (len_cons (fun _ _ _ _ h => len_nil h)))))) (
  sss_nil)
theorem der4 {ad : Addr} {cdv : Value} {A : Around} {outer : List Env} {s : Shared} {H : Hp} {E : XK} (M : Mn mg) (Cc : Cn K mg C0 C1 C2 C3) (F : Fs P w K mg base (Tk (clsOf [C0, C1, C2, C3]) k) k a0 d0 a1 d1 a2 d2 a3 d3 a4 d4 a5 d5 a6 d6 a7 d7 a8 d8 a9 d9 a10 d10 a11 d11 a12 d12 a13 d13 a14 d14 a15 d15 a16 d16 a17 d17 a18 d18 a19 d19 a20 d20 a21 d21 a22 d22 a23 d23 a24 d24 a25 d25 a26 d26) (hr : Room k (A.deeper (envOfC "nearest" (defScope s4) s.heap.objs.size ad cdv))) :
    SSs (Tk (clsOf [C0, C1, C2, C3]) k) (cxOf (L2.CX P w) P w K mg base N4 "nearest" (defScope s4) ad cdv A outer s H E) none (fun c d _ H => E c d H) (defBody s4) b4 :=
  sss_cons (ss_ret (se_bin .fdiv (se_bin .add (se_bin .mul (se_int) (se_ix (se_slot 0) (se_int))) (se_ix (se_slot 0) (se_int))) (se_bin .mul (se_int) (se_ix (se_slot 0) (se_int))))) (
  sss_nil)
theorem der5 {ad : Addr} {cdv : Value} {A : Around} {outer : List Env} {s : Shared} {H : Hp} {E : XK} (M : Mn mg) (Cc : Cn K mg C0 C1 C2 C3) (F : Fs P w K mg base (Tk (clsOf [C0, C1, C2, C3]) k) k a0 d0 a1 d1 a2 d2 a3 d3 a4 d4 a5 d5 a6 d6 a7 d7 a8 d8 a9 d9 a10 d10 a11 d11 a12 d12 a13 d13 a14 d14 a15 d15 a16 d16 a17 d17 a18 d18 a19 d19 a20 d20 a21 d21 a22 d22 a23 d23 a24 d24 a25 d25 a26 d26) (hr : Room k (A.deeper (envOfC "multiplier" (defScope s5) s.heap.objs.size ad cdv))) :
    SSs (Tk (clsOf [C0, C1, C2, C3]) k) (cxOf (L2.CX P w) P w K mg base N5 "multiplier" (defScope s5) ad cdv A outer s H E) none (fun c d _ H => E c d H) (defBody s5) b5 :=
  sss_cons (ss_for (passes_of rfl) rfl (si_range3 M.m_range (se_globI 2 (by rfl) M.c_SHIFT_LIMIT) (se_int) (se_neg (se_int))) (sg_name 1 sc5.nd) (sss_cons (ss_asg (se_call ⟨⟨_, _, _, F.f4.fn, F.f4.pl, F.f4.at_, F.f4.kp, F.f4.bd⟩⟩ hr (takes_of rfl rfl rfl rfl) (ses_cons (se_call ⟨⟨_, _, _, F.f2.fn, F.f2.pl, F.f2.at_, F.f2.kp, F.f2.bd⟩⟩ hr (takes_of rfl rfl rfl rfl) (ses_cons (se_slot 0) (ses_cons (se_tup (ses_cons (se_bin .shl (se_int) (se_slot 1)) (ses_cons (se_int) (ses_nil)))) (ses_nil))) (hlen := (len_cons (len_cons (fun _ _ _ _ h => len_nil h))))) (ses_nil)) (hlen := (len_cons (fun _ _ _ _ h => len_nil h)))) (sg_name 2 sc5.nd)) (
  sss_cons (ss_if (st_cmp hr.units .eq (se_slot 2) (se_int)) (sss_cons (ss_raise 3 rfl Cc.o3 (takes_of rfl rfl rfl rfl)) (
  sss_nil)) (sss_nil)) (
  sss_cons (ss_if (st_cmp hr.units .le (se_slot 2) (se_globI 3 (by rfl) M.c_FACTOR_LIMIT)) (sss_cons (ss_ret (se_tup (ses_cons (se_slot 2) (ses_cons (se_slot 1) (ses_nil))))) (
  sss_nil)) (sss_nil)) (
  sss_nil))))) (
  sss_cons (ss_raise 3 rfl Cc.o3 (takes_of rfl rfl rfl rfl)) (
  sss_nil))
theorem der6 {ad : Addr} {cdv : Value} {A : Around} {outer : List Env} {s : Shared} {H : Hp} {E : XK} (M : Mn mg) (Cc : Cn K mg C0 C1 C2 C3) (F : Fs P w K mg base (Tk (clsOf [C0, C1, C2, C3]) k) k a0 d0 a1 d1 a2 d2 a3 d3 a4 d4 a5 d5 a6 d6 a7 d7 a8 d8 a9 d9 a10 d10 a11 d11 a12 d12 a13 d13 a14 d14 a15 d15 a16 d16 a17 d17 a18 d18 a19 d19 a20 d20 a21 d21 a22 d22 a23 d23 a24 d24 a25 d25 a26 d26) (hr : Room k (A.deeper (envOfC "check_bits" (defScope s6) s.heap.objs.size ad cdv))) :
    SSs (Tk (clsOf [C0, C1, C2, C3]) k) (cxOf (L2.CX P w) P w K mg base N6 "check_bits" (defScope s6) ad cdv A outer s H E) none (fun c d _ H => E c d H) (defBody s6) b6 :=
  sss_cons (ss_if (st_not (st_chain hr.units .le .le (se_globI 0 (by rfl) M.c_FEWEST_BITS) (se_slot 0) (se_globI 1 (by rfl) M.c_MOST_BITS))) (sss_cons (ss_raise 2 rfl Cc.o2 (takes_of rfl rfl rfl rfl)) (
  sss_nil)) (sss_nil)) (
  sss_nil)
theorem der7 {ad : Addr} {cdv : Value} {A : Around} {outer : List Env} {s : Shared} {H : Hp} {E : XK} (M : Mn mg) (Cc : Cn K mg C0 C1 C2 C3) (F : Fs P w K mg base (Tk (clsOf [C0, C1, C2, C3]) k) k a0 d0 a1 d1 a2 d2 a3 d3 a4 d4 a5 d5 a6 d6 a7 d7 a8 d8 a9 d9 a10 d10 a11 d11 a12 d12 a13 d13 a14 d14 a15 d15 a16 d16 a17 d17 a18 d18 a19 d19 a20 d20 a21 d21 a22 d22 a23 d23 a24 d24 a25 d25 a26 d26) (hr : Room k (A.deeper (envOfC "code_range" (defScope s7) s.heap.objs.size ad cdv))) :
    SSs (Tk (clsOf [C0, C1, C2, C3]) k) (cxOf (L2.CX P w) P w K mg base N7 "code_range" (defScope s7) ad cdv A outer s H E) none (fun c d _ H => E c d H) (defBody s7) b7 :=
  sss_cons (ss_asg (se_bin .shl (se_int) (se_bin .sub (se_slot 0) (se_int))) (sg_name 1 sc7.nd)) (
  sss_cons (ss_ret (se_tup (ses_cons (se_neg (se_slot 1)) (ses_cons (se_bin .sub (se_slot 1) (se_int)) (ses_nil))))) (
  sss_nil))
theorem der8 {ad : Addr} {cdv : Value} {A : Around} {outer : List Env} {s : Shared} {H : Hp} {E : XK} (M : Mn mg) (Cc : Cn K mg C0 C1 C2 C3) (F : Fs P w K mg base (Tk (clsOf [C0, C1, C2, C3]) k) k a0 d0 a1 d1 a2 d2 a3 d3 a4 d4 a5 d5 a6 d6 a7 d7 a8 d8 a9 d9 a10 d10 a11 d11 a12 d12 a13 d13 a14 d14 a15 d15 a16 d16 a17 d17 a18 d18 a19 d19 a20 d20 a21 d21 a22 d22 a23 d23 a24 d24 a25 d25 a26 d26) (hr : Room k (A.deeper (envOfC "code_of" (defScope s8) s.heap.objs.size ad cdv))) :
    SSs (Tk (clsOf [C0, C1, C2, C3]) k) (cxOf (L2.CX P w) P w K mg base N8 "code_of" (defScope s8) ad cdv A outer s H E) none (fun c d _ H => E c d H) (defBody s8) b8 :=
  sss_cons (ss_drop (se_call ⟨⟨_, _, _, F.f6.fn, F.f6.pl, F.f6.at_, F.f6.kp, F.f6.bd⟩⟩ hr (takes_of rfl rfl rfl rfl) (ses_cons (se_slot 1) (ses_nil)) (hlen := (len_cons (fun _ _ _ _ h => len_nil h))))) (
  sss_cons (ss_asg (se_slot 0) (sg_tup rfl (sgs_cons (sg_name 3 sc8.nd) (sgs_cons (sg_name 4 sc8.nd) (sgs_nil))) (lenT_cons (lenT_cons lenT_nil)))) (
  sss_cons (ss_asg (se_call ⟨⟨_, _, _, F.f7.fn, F.f7.pl, F.f7.at_, F.f7.kp, F.f7.bd⟩⟩ hr (takes_of rfl rfl rfl rfl) (ses_cons (se_slot 1) (ses_nil)) (hlen := (len_cons (fun _ _ _ _ h => len_nil h)))) (sg_tup rfl (sgs_cons (sg_name 5 sc8.nd) (sgs_cons (sg_name 6 sc8.nd) (sgs_nil))) (lenT_cons (lenT_cons lenT_nil)))) (
  sss_cons (ss_ret (se_call ⟨⟨_, _, _, F.f0.fn, F.f0.pl, F.f0.at_, F.f0.kp, F.f0.bd⟩⟩ hr (takes_of rfl rfl rfl rfl) (ses_cons (se_bin .add (se_call ⟨⟨_, _, _, F.f4.fn, F.f4.pl, F.f4.at_, F.f4.kp, F.f4.bd⟩⟩ hr (takes_of rfl rfl rfl rfl) (ses_cons (se_call ⟨⟨_, _, _, F.f3.fn, F.f3.pl, F.f3.at_, F.f3.kp, F.f3.bd⟩⟩ hr (takes_of rfl rfl rfl rfl) (ses_cons (se_slot 2) (ses_cons (se_slot 3) (ses_nil))) (hlen := (len_cons (len_cons (fun _ _ _ _ h => len_nil h))))) (ses_nil)) (hlen := (len_cons (fun _ _ _ _ h => len_nil h)))) (se_slot 4)) (ses_cons (se_slot 5) (ses_cons (se_slot 6) (ses_nil)))) (hlen := (len_cons (len_cons (len_cons (fun _ _ _ _ h => len_nil h))))))) (
  sss_nil))))
theorem der9 {ad : Addr} {cdv : Value} {A : Around} {outer : List Env} {s : Shared} {H : Hp} {E : XK} (M : Mn mg) (Cc : Cn K mg C0 C1 C2 C3) (F : Fs P w K mg base (Tk (clsOf [C0, C1, C2, C3]) k) k a0 d0 a1 d1 a2 d2 a3 d3 a4 d4 a5 d5 a6 d6 a7 d7 a8 d8 a9 d9 a10 d10 a11 d11 a12 d12 a13 d13 a14 d14 a15 d15 a16 d16 a17 d17 a18 d18 a19 d19 a20 d20 a21 d21 a22 d22 a23 d23 a24 d24 a25 d25 a26 d26) (hr : Room k (A.deeper (envOfC "meaning_of" (defScope s9) s.heap.objs.size ad cdv))) :
    SSs (Tk (clsOf [C0, C1, C2, C3]) k) (cxOf (L2.CX P w) P w K mg base N9 "meaning_of" (defScope s9) ad cdv A outer s H E) none (fun c d _ H => E c d H) (defBody s9) b9 :=
  sss_cons (ss_asg (se_slot 0) (sg_tup rfl (sgs_cons (sg_name 2 sc9.nd) (sgs_cons (sg_name 3 sc9.nd) (sgs_nil))) (lenT_cons (lenT_cons lenT_nil)))) (
  sss_cons (ss_ret (se_call ⟨⟨_, _, _, F.f2.fn, F.f2.pl, F.f2.at_, F.f2.kp, F.f2.bd⟩⟩ hr (takes_of rfl rfl rfl rfl) (ses_cons (se_slot 2) (ses_cons (se_tup (ses_cons (se_bin .sub (se_slot 1) (se_slot 3)) (ses_cons (se_int) (ses_nil)))) (ses_nil))) (hlen := (len_cons (len_cons (fun _ _ _ _ h => len_nil h)))))) (
  sss_nil))
theorem der10 {ad : Addr} {cdv : Value} {A : Around} {outer : List Env} {s : Shared} {H : Hp} {E : XK} (M : Mn mg) (Cc : Cn K mg C0 C1 C2 C3) (F : Fs P w K mg base (Tk (clsOf [C0, C1, C2, C3]) k) k a0 d0 a1 d1 a2 d2 a3 d3 a4 d4 a5 d5 a6 d6 a7 d7 a8 d8 a9 d9 a10 d10 a11 d11 a12 d12 a13 d13 a14 d14 a15 d15 a16 d16 a17 d17 a18 d18 a19 d19 a20 d20 a21 d21 a22 d22 a23 d23 a24 d24 a25 d25 a26 d26) (hr : Room k (A.deeper (envOfC "_law_begin" (defScope s10) s.heap.objs.size ad cdv))) :
    SSs (Tk (clsOf [C0, C1, C2, C3]) k) (cxOf (L2.CX P w) P w K mg base N10 "_law_begin" (defScope s10) ad cdv A outer s H E) none (fun c d _ H => E c d H) (defBody s10) b10 :=
  sss_cons (ss_asg (se_int) (sg_name 1 sc10.nd)) (
  sss_cons (ss_for (passes_of rfl) rfl (si_seq (se_slot 0)) (sg_name 2 sc10.nd) (sss_cons (ss_asg (se_bin .mod (se_bin .add (se_bin .add (se_bin .mul (se_slot 1) (se_int)) (se_bin .mod (se_biT .int bi_int M.m_int (by decide +kernel) (ses_cons (se_slot 2) (ses_nil))) (se_int))) (se_int)) (se_int)) (sg_name 1 sc10.nd)) (
  sss_nil))) (
  sss_cons (ss_ret (se_lst (ses_cons (se_biT .list bi_list M.m_list (by decide +kernel) (ses_cons (se_slot 0) (ses_nil))) (ses_cons (se_int) (ses_cons (se_int) (ses_cons (se_slot 1) (ses_nil))))))) (
  sss_nil)))
theorem der11 {ad : Addr} {cdv : Value} {A : Around} {outer : List Env} {s : Shared} {H : Hp} {E : XK} (M : Mn mg) (Cc : Cn K mg C0 C1 C2 C3) (F : Fs P w K mg base (Tk (clsOf [C0, C1, C2, C3]) k) k a0 d0 a1 d1 a2 d2 a3 d3 a4 d4 a5 d5 a6 d6 a7 d7 a8 d8 a9 d9 a10 d10 a11 d11 a12 d12 a13 d13 a14 d14 a15 d15 a16 d16 a17 d17 a18 d18 a19 d19 a20 d20 a21 d21 a22 d22 a23 d23 a24 d24 a25 d25 a26 d26) (hr : Room k (A.deeper (envOfC "_law_take" (defScope s11) s.heap.objs.size ad cdv))) :
    SSs (Tk (clsOf [C0, C1, C2, C3]) k) (cxOf (L2.CX P w) P w K mg base N11 "_law_take" (defScope s11) ad cdv A outer s H E) none (fun c d _ H => E c d H) (defBody s11) b11 :=
  sss_cons (ss_if (st_w (sw_and (st_cmp hr.units .eq (se_ix (se_slot 0) (se_int)) (se_int)) (sw_one_and (st_cmp hr.units .lt (se_ix (se_slot 0) (se_int)) (se_biB .len bi_len M.m_len (by decide +kernel) (ses_cons (se_ix (se_slot 0) (se_int)) (ses_nil))))))) (sss_cons (ss_asg (se_biB .abs bi_abs M.m_abs (by decide +kernel) (ses_cons (se_biT .int bi_int M.m_int (by decide +kernel) (ses_cons (se_ix (se_ix (se_slot 0) (se_int)) (se_ix (se_slot 0) (se_int))) (ses_nil))) (ses_nil))) (sg_sub (se_slot 0) (se_int))) (
  sss_cons (ss_asg (se_bin .add (se_ix (se_slot 0) (se_int)) (se_int)) (sg_sub (se_slot 0) (se_int))) (
  sss_cons (ss_if (st_cmp hr.units .lt (se_ix (se_slot 0) (se_int)) (se_bin .pow (se_int) (se_int))) (sss_cons (ss_asg (se_biT .int bi_int M.m_int (by decide +kernel) (ses_cons (se_ix (se_slot 0) (se_int)) (ses_nil))) (sg_name 2 sc11.nd)) (
  sss_cons (ss_asg (se_int) (sg_sub (se_slot 0) (se_int))) (
  sss_cons (ss_ret (se_bin .mod (se_slot 2) (se_slot 1))) (
  sss_nil)))) (sss_nil)) (
  sss_nil)))) (sss_nil)) (
  sss_cons (ss_if (st_cmp hr.units .gt (se_ix (se_slot 0) (se_int)) (se_int)) (sss_cons (ss_asg (se_bin .mod (se_biT .int bi_int M.m_int (by decide +kernel) (ses_cons (se_ix (se_slot 0) (se_int)) (ses_nil))) (se_slot 1)) (sg_name 3 sc11.nd)) (
  sss_cons (ss_asg (se_bin .fdiv (se_biT .int bi_int M.m_int (by decide +kernel) (ses_cons (se_ix (se_slot 0) (se_int)) (ses_nil))) (se_slot 1)) (sg_sub (se_slot 0) (se_int))) (
  sss_cons (ss_ret (se_slot 3)) (
  sss_nil)))) (sss_nil)) (
  sss_cons (ss_asg (se_bin .mod (se_biT .int bi_int M.m_int (by decide +kernel) (ses_cons (se_bin .add (se_bin .mul (se_ix (se_slot 0) (se_int)) (se_int)) (se_int)) (ses_nil))) (se_int)) (sg_sub (se_slot 0) (se_int))) (
  sss_cons (ss_ret (se_bin .mod (se_biT .int bi_int M.m_int (by decide +kernel) (ses_cons (se_bin .fdiv (se_ix (se_slot 0) (se_int)) (se_int)) (ses_nil))) (se_slot 1))) (
  sss_nil))))
theorem der12 {ad : Addr} {cdv : Value} {A : Around} {outer : List Env} {s : Shared} {H : Hp} {E : XK} (M : Mn mg) (Cc : Cn K mg C0 C1 C2 C3) (F : Fs P w K mg base (Tk (clsOf [C0, C1, C2, C3]) k) k a0 d0 a1 d1 a2 d2 a3 d3 a4 d4 a5 d5 a6 d6 a7 d7 a8 d8 a9 d9 a10 d10 a11 d11 a12 d12 a13 d13 a14 d14 a15 d15 a16 d16 a17 d17 a18 d18 a19 d19 a20 d20 a21 d21 a22 d22 a23 d23 a24 d24 a25 d25 a26 d26) (hr : Room k (A.deeper (envOfC "_law_signed" (defScope s12) s.heap.objs.size ad cdv))) :
    SSs (Tk (clsOf [C0, C1, C2, C3]) k) (cxOf (L2.CX P w) P w K mg base N12 "_law_signed" (defScope s12) ad cdv A outer s H E) none (fun c d _ H => E c d H) (defBody s12) b12 :=
  sss_cons (ss_ret (se_bin .sub (se_call ⟨⟨_, _, _, F.f11.fn, F.f11.pl, F.f11.at_, F.f11.kp, F.f11.bd⟩⟩ hr (takes_of rfl rfl rfl rfl) (ses_cons (se_slot 0) (ses_cons (se_bin .add (se_bin .mul (se_int) (se_slot 1)) (se_int)) (ses_nil))) (hlen := (len_cons (len_cons (fun _ _ _ _ h => len_nil h))))) (se_slot 1))) (
  sss_nil)
theorem der13 {ad : Addr} {cdv : Value} {A : Around} {outer : List Env} {s : Shared} {H : Hp} {E : XK} (M : Mn mg) (Cc : Cn K mg C0 C1 C2 C3) (F : Fs P w K mg base (Tk (clsOf [C0, C1, C2, C3]) k) k a0 d0 a1 d1 a2 d2 a3 d3 a4 d4 a5 d5 a6 d6 a7 d7 a8 d8 a9 d9 a10 d10 a11 d11 a12 d12 a13 d13 a14 d14 a15 d15 a16 d16 a17 d17 a18 d18 a19 d19 a20 d20 a21 d21 a22 d22 a23 d23 a24 d24 a25 d25 a26 d26) (hr : Room k (A.deeper (envOfC "_law_int" (defScope s13) s.heap.objs.size ad cdv))) :
    SSs (Tk (clsOf [C0, C1, C2, C3]) k) (cxOf (L2.CX P w) P w K mg base N13 "_law_int" (defScope s13) ad cdv A outer s H E) none (fun c d _ H => E c d H) (defBody s13) b13 :=
  sss_cons (ss_ret (se_and (se_isi "int" M.m_isinstance M.m_int (by decide +kernel) (se_slot 0)) (se_one (se_notV (se_isi "bool" M.m_isinstance M.m_bool (by decide +kernel) (se_slot 0)))))) (
  sss_nil)
theorem der14 {ad : Addr} {cdv : Value} {A : Around} {outer : List Env} {s : Shared} {H : Hp} {E : XK} (M : Mn mg) (Cc : Cn K mg C0 C1 C2 C3) (F : Fs P w K mg base (Tk (clsOf [C0, C1, C2, C3]) k) k a0 d0 a1 d1 a2 d2 a3 d3 a4 d4 a5 d5 a6 d6 a7 d7 a8 d8 a9 d9 a10 d10 a11 d11 a12 d12 a13 d13 a14 d14 a15 d15 a16 d16 a17 d17 a18 d18 a19 d19 a20 d20 a21 d21 a22 d22 a23 d23 a24 d24 a25 d25 a26 d26) (hr : Room k (A.deeper (envOfC "_law_gcd" (defScope s14) s.heap.objs.size ad cdv))) :
    SSs (Tk (clsOf [C0, C1, C2, C3]) k) (cxOf (L2.CX P w) P w K mg base N14 "_law_gcd" (defScope s14) ad cdv A outer s H E) none (fun c d _ H => E c d H) (defBody s14) b14 :=
  sss_cons (ss_while (passes_of rfl) (st_cmp hr.units .ne (se_slot 1) (se_int)) (sss_cons (ss_par rfl sc14.nd (se_slot 1) (se_bin .mod (se_biT .int bi_int M.m_int (by decide +kernel) (ses_cons (se_slot 0) (ses_nil))) (se_slot 1))) (
  sss_nil))) (
  sss_cons (ss_ret (se_biB .abs bi_abs M.m_abs (by decide +kernel) (ses_cons (se_slot 0) (ses_nil)))) (
  sss_nil))
theorem der15 {ad : Addr} {cdv : Value} {A : Around} {outer : List Env} {s : Shared} {H : Hp} {E : XK} (M : Mn mg) (Cc : Cn K mg C0 C1 C2 C3) (F : Fs P w K mg base (Tk (clsOf [C0, C1, C2, C3]) k) k a0 d0 a1 d1 a2 d2 a3 d3 a4 d4 a5 d5 a6 d6 a7 d7 a8 d8 a9 d9 a10 d10 a11 d11 a12 d12 a13 d13 a14 d14 a15 d15 a16 d16 a17 d17 a18 d18 a19 d19 a20 d20 a21 d21 a22 d22 a23 d23 a24 d24 a25 d25 a26 d26) (hr : Room k (A.deeper (envOfC "_law_frac" (defScope s15) s.heap.objs.size ad cdv))) :
    SSs (Tk (clsOf [C0, C1, C2, C3]) k) (cxOf (L2.CX P w) P w K mg base N15 "_law_frac" (defScope s15) ad cdv A outer s H E) none (fun c d _ H => E c d H) (defBody s15) b15 :=
  sss_cons (ss_if (st_cmp hr.units .lt (se_slot 1) (se_int)) (sss_cons (ss_asg (se_bin .sub (se_int) (se_slot 0)) (sg_name 0 sc15.nd)) (
  sss_cons (ss_asg (se_bin .sub (se_int) (se_slot 1)) (sg_name 1 sc15.nd)) (
  sss_nil))) (sss_nil)) (
  sss_cons (ss_asg (se_call ⟨⟨_, _, _, F.f14.fn, F.f14.pl, F.f14.at_, F.f14.kp, F.f14.bd⟩⟩ hr (takes_of rfl rfl rfl rfl) (ses_cons (se_biB .abs bi_abs M.m_abs (by decide +kernel) (ses_cons (se_slot 0) (ses_nil))) (ses_cons (se_slot 1) (ses_nil))) (hlen := (len_cons (len_cons (fun _ _ _ _ h => len_nil h))))) (sg_name 2 sc15.nd)) (
  sss_cons (ss_ret (se_tup (ses_cons (se_bin .fdiv (se_slot 0) (se_slot 2)) (ses_cons (se_bin .fdiv (se_slot 1) (se_slot 2)) (ses_nil))))) (
  sss_nil)))
theorem der16 {ad : Addr} {cdv : Value} {A : Around} {outer : List Env} {s : Shared} {H : Hp} {E : XK} (M : Mn mg) (Cc : Cn K mg C0 C1 C2 C3) (F : Fs P w K mg base (Tk (clsOf [C0, C1, C2, C3]) k) k a0 d0 a1 d1 a2 d2 a3 d3 a4 d4 a5 d5 a6 d6 a7 d7 a8 d8 a9 d9 a10 d10 a11 d11 a12 d12 a13 d13 a14 d14 a15 d15 a16 d16 a17 d17 a18 d18 a19 d19 a20 d20 a21 d21 a22 d22 a23 d23 a24 d24 a25 d25 a26 d26) (hr : Room k (A.deeper (envOfC "_law_sum" (defScope s16) s.heap.objs.size ad cdv))) :
    SSs (Tk (clsOf [C0, C1, C2, C3]) k) (cxOf (L2.CX P w) P w K mg base N16 "_law_sum" (defScope s16) ad cdv A outer s H E) none (fun c d _ H => E c d H) (defBody s16) b16 :=
  sss_cons (ss_ret (se_call ⟨⟨_, _, _, F.f15.fn, F.f15.pl, F.f15.at_, F.f15.kp, F.f15.bd⟩⟩ hr (takes_of rfl rfl rfl rfl) (ses_cons (se_bin .add (se_bin .mul (se_ix (se_slot 0) (se_int)) (se_ix (se_slot 1) (se_int))) (se_bin .mul (se_ix (se_slot 1) (se_int)) (se_ix (se_slot 0) (se_int)))) (ses_cons (se_bin .mul (se_ix (se_slot 0) (se_int)) (se_ix (se_slot 1) (se_int))) (ses_nil))) (hlen := (len_cons (len_cons (fun _ _ _ _ h => len_nil h)))))) (
  sss_nil)
theorem der17 {ad : Addr} {cdv : Value} {A : Around} {outer : List Env} {s : Shared} {H : Hp} {E : XK} (M : Mn mg) (Cc : Cn K mg C0 C1 C2 C3) (F : Fs P w K mg base (Tk (clsOf [C0, C1, C2, C3]) k) k a0 d0 a1 d1 a2 d2 a3 d3 a4 d4 a5 d5 a6 d6 a7 d7 a8 d8 a9 d9 a10 d10 a11 d11 a12 d12 a13 d13 a14 d14 a15 d15 a16 d16 a17 d17 a18 d18 a19 d19 a20 d20 a21 d21 a22 d22 a23 d23 a24 d24 a25 d25 a26 d26) (hr : Room k (A.deeper (envOfC "_law_gap" (defScope s17) s.heap.objs.size ad cdv))) :
    SSs (Tk (clsOf [C0, C1, C2, C3]) k) (cxOf (L2.CX P w) P w K mg base N17 "_law_gap" (defScope s17) ad cdv A outer s H E) none (fun c d _ H => E c d H) (defBody s17) b17 :=
  sss_cons (ss_asg (se_call ⟨⟨_, _, _, F.f16.fn, F.f16.pl, F.f16.at_, F.f16.kp, F.f16.bd⟩⟩ hr (takes_of rfl rfl rfl rfl) (ses_cons (se_slot 0) (ses_cons (se_tup (ses_cons (se_bin .sub (se_int) (se_ix (se_slot 1) (se_int))) (ses_cons (se_ix (se_slot 1) (se_int)) (ses_nil)))) (ses_nil))) (hlen := (len_cons (len_cons (fun _ _ _ _ h => len_nil h))))) (sg_name 2 sc17.nd)) (
  sss_cons (ss_ret (se_tup (ses_cons (se_biB .abs bi_abs M.m_abs (by decide +kernel) (ses_cons (se_ix (se_slot 2) (se_int)) (ses_nil))) (ses_cons (se_ix (se_slot 2) (se_int)) (ses_nil))))) (
  sss_nil))
theorem der18 {ad : Addr} {cdv : Value} {A : Around} {outer : List Env} {s : Shared} {H : Hp} {E : XK} (M : Mn mg) (Cc : Cn K mg C0 C1 C2 C3) (F : Fs P w K mg base (Tk (clsOf [C0, C1, C2, C3]) k) k a0 d0 a1 d1 a2 d2 a3 d3 a4 d4 a5 d5 a6 d6 a7 d7 a8 d8 a9 d9 a10 d10 a11 d11 a12 d12 a13 d13 a14 d14 a15 d15 a16 d16 a17 d17 a18 d18 a19 d19 a20 d20 a21 d21 a22 d22 a23 d23 a24 d24 a25 d25 a26 d26) (hr : Room k (A.deeper (envOfC "_law_over" (defScope s18) s.heap.objs.size ad cdv))) :
    SSs (Tk (clsOf [C0, C1, C2, C3]) k) (cxOf (L2.CX P w) P w K mg base N18 "_law_over" (defScope s18) ad cdv A outer s H E) none (fun c d _ H => E c d H) (defBody s18) b18 :=
  sss_cons (ss_ret (se_call ⟨⟨_, _, _, F.f15.fn, F.f15.pl, F.f15.at_, F.f15.kp, F.f15.bd⟩⟩ hr (takes_of rfl rfl rfl rfl) (ses_cons (se_bin .mul (se_ix (se_slot 0) (se_int)) (se_ix (se_slot 1) (se_int))) (ses_cons (se_bin .mul (se_ix (se_slot 0) (se_int)) (se_ix (se_slot 1) (se_int))) (ses_nil))) (hlen := (len_cons (len_cons (fun _ _ _ _ h => len_nil h)))))) (
  sss_nil)
theorem der19 {ad : Addr} {cdv : Value} {A : Around} {outer : List Env} {s : Shared} {H : Hp} {E : XK} (M : Mn mg) (Cc : Cn K mg C0 C1 C2 C3) (F : Fs P w K mg base (Tk (clsOf [C0, C1, C2, C3]) k) k a0 d0 a1 d1 a2 d2 a3 d3 a4 d4 a5 d5 a6 d6 a7 d7 a8 d8 a9 d9 a10 d10 a11 d11 a12 d12 a13 d13 a14 d14 a15 d15 a16 d16 a17 d17 a18 d18 a19 d19 a20 d20 a21 d21 a22 d22 a23 d23 a24 d24 a25 d25 a26 d26) (hr : Room k (A.deeper (envOfC "_law_near" (defScope s19) s.heap.objs.size ad cdv))) :
    SSs (Tk (clsOf [C0, C1, C2, C3]) k) (cxOf (L2.CX P w) P w K mg base N19 "_law_near" (defScope s19) ad cdv A outer s H E) none (fun c d _ H => E c d H) (defBody s19) b19 :=
  sss_cons (ss_ret (se_bin .fdiv (se_bin .add (se_bin .mul (se_int) (se_ix (se_slot 0) (se_int))) (se_ix (se_slot 0) (se_int))) (se_bin .mul (se_int) (se_ix (se_slot 0) (se_int))))) (
  sss_nil)
theorem der20 {ad : Addr} {cdv : Value} {A : Around} {outer : List Env} {s : Shared} {H : Hp} {E : XK} (M : Mn mg) (Cc : Cn K mg C0 C1 C2 C3) (F : Fs P w K mg base (Tk (clsOf [C0, C1, C2, C3]) k) k a0 d0 a1 d1 a2 d2 a3 d3 a4 d4 a5 d5 a6 d6 a7 d7 a8 d8 a9 d9 a10 d10 a11 d11 a12 d12 a13 d13 a14 d14 a15 d15 a16 d16 a17 d17 a18 d18 a19 d19 a20 d20 a21 d21 a22 d22 a23 d23 a24 d24 a25 d25 a26 d26) (hr : Room k (A.deeper (envOfC "_law_multiplier" (defScope s20) s.heap.objs.size ad cdv))) :
    SSs (Tk (clsOf [C0, C1, C2, C3]) k) (cxOf (L2.CX P w) P w K mg base N20 "_law_multiplier" (defScope s20) ad cdv A outer s H E) none (fun c d _ H => E c d H) (defBody s20) b20 :=
  sss_cons (ss_asg (se_int) (sg_name 1 sc20.nd)) (
  sss_cons (ss_while (passes_of rfl) (st_w (sw_and (st_cmp hr.units .gt (se_slot 1) (se_int)) (sw_one_and (st_cmp hr.units .gt (se_call ⟨⟨_, _, _, F.f19.fn, F.f19.pl, F.f19.at_, F.f19.kp, F.f19.bd⟩⟩ hr (takes_of rfl rfl rfl rfl) (ses_cons (se_tup (ses_cons (se_bin .shl (se_ix (se_slot 0) (se_int)) (se_slot 1)) (ses_cons (se_ix (se_slot 0) (se_int)) (ses_nil)))) (ses_nil)) (hlen := (len_cons (fun _ _ _ _ h => len_nil h)))) (se_int))))) (sss_cons (ss_asg (se_bin .sub (se_slot 1) (se_int)) (sg_name 1 sc20.nd)) (
  sss_nil))) (
  sss_cons (ss_asg (se_call ⟨⟨_, _, _, F.f19.fn, F.f19.pl, F.f19.at_, F.f19.kp, F.f19.bd⟩⟩ hr (takes_of rfl rfl rfl rfl) (ses_cons (se_tup (ses_cons (se_bin .shl (se_ix (se_slot 0) (se_int)) (se_slot 1)) (ses_cons (se_ix (se_slot 0) (se_int)) (ses_nil)))) (ses_nil)) (hlen := (len_cons (fun _ _ _ _ h => len_nil h)))) (sg_name 2 sc20.nd)) (
  sss_cons (ss_ret (se_ife (st_w (sw_or (st_cmp hr.units .eq (se_slot 2) (se_int)) (sw_one_or (st_cmp hr.units .gt (se_slot 2) (se_int))))) (se_non) (se_tup (ses_cons (se_slot 2) (ses_cons (se_slot 1) (ses_nil)))))) (
  sss_nil))))
theorem der21 {ad : Addr} {cdv : Value} {A : Around} {outer : List Env} {s : Shared} {H : Hp} {E : XK} (M : Mn mg) (Cc : Cn K mg C0 C1 C2 C3) (F : Fs P w K mg base (Tk (clsOf [C0, C1, C2, C3]) k) k a0 d0 a1 d1 a2 d2 a3 d3 a4 d4 a5 d5 a6 d6 a7 d7 a8 d8 a9 d9 a10 d10 a11 d11 a12 d12 a13 d13 a14 d14 a15 d15 a16 d16 a17 d17 a18 d18 a19 d19 a20 d20 a21 d21 a22 d22 a23 d23 a24 d24 a25 d25 a26 d26) (hr : Room k (A.deeper (envOfC "_law_ends" (defScope s21) s.heap.objs.size ad cdv))) :
    SSs (Tk (clsOf [C0, C1, C2, C3]) k) (cxOf (L2.CX P w) P w K mg base N21 "_law_ends" (defScope s21) ad cdv A outer s H E) none (fun c d _ H => E c d H) (defBody s21) b21 :=
  sss_cons (ss_asg (se_int) (sg_name 1 sc21.nd)) (
  sss_cons (ss_for (passes_of rfl) rfl (si_range1 M.m_range (se_bin .sub (se_slot 0) (se_int))) (sg_name 2 sc21.nd) (sss_cons (ss_asg (se_bin .mul (se_slot 1) (se_int)) (sg_name 1 sc21.nd)) (
  sss_nil))) (
  sss_cons (ss_ret (se_tup (ses_cons (se_bin .sub (se_int) (se_slot 1)) (ses_cons (se_bin .sub (se_slot 1) (se_int)) (ses_nil))))) (
  sss_nil)))
theorem der22 {ad : Addr} {cdv : Value} {A : Around} {outer : List Env} {s : Shared} {H : Hp} {E : XK} (M : Mn mg) (Cc : Cn K mg C0 C1 C2 C3) (F : Fs P w K mg base (Tk (clsOf [C0, C1, C2, C3]) k) k a0 d0 a1 d1 a2 d2 a3 d3 a4 d4 a5 d5 a6 d6 a7 d7 a8 d8 a9 d9 a10 d10 a11 d11 a12 d12 a13 d13 a14 d14 a15 d15 a16 d16 a17 d17 a18 d18 a19 d19 a20 d20 a21 d21 a22 d22 a23 d23 a24 d24 a25 d25 a26 d26) (hr : Room k (A.deeper (envOfC "_law_means" (defScope s22) s.heap.objs.size ad cdv))) :
    SSs (Tk (clsOf [C0, C1, C2, C3]) k) (cxOf (L2.CX P w) P w K mg base N22 "_law_means" (defScope s22) ad cdv A outer s H E) none (fun c d _ H => E c d H) (defBody s22) b22 :=
  sss_cons (ss_ret (se_call ⟨⟨_, _, _, F.f15.fn, F.f15.pl, F.f15.at_, F.f15.kp, F.f15.bd⟩⟩ hr (takes_of rfl rfl rfl rfl) (ses_cons (se_bin .mul (se_ix (se_ix (se_slot 0) (se_int)) (se_int)) (se_bin .sub (se_slot 1) (se_ix (se_slot 0) (se_int)))) (ses_cons (se_ix (se_ix (se_slot 0) (se_int)) (se_int)) (ses_nil))) (hlen := (len_cons (len_cons (fun _ _ _ _ h => len_nil h)))))) (
  sss_nil)
theorem der23 {ad : Addr} {cdv : Value} {A : Around} {outer : List Env} {s : Shared} {H : Hp} {E : XK} (M : Mn mg) (Cc : Cn K mg C0 C1 C2 C3) (F : Fs P w K mg base (Tk (clsOf [C0, C1, C2, C3]) k) k a0 d0 a1 d1 a2 d2 a3 d3 a4 d4 a5 d5 a6 d6 a7 d7 a8 d8 a9 d9 a10 d10 a11 d11 a12 d12 a13 d13 a14 d14 a15 d15 a16 d16 a17 d17 a18 d18 a19 d19 a20 d20 a21 d21 a22 d22 a23 d23 a24 d24 a25 d25 a26 d26) (hr : Room k (A.deeper (envOfC "_law_told" (defScope s23) s.heap.objs.size ad cdv))) :
    SSs (Tk (clsOf [C0, C1, C2, C3]) k) (cxOf (L2.CX P w) P w K mg base N23 "_law_told" (defScope s23) ad cdv A outer s H E) none (fun c d _ H => E c d H) (defBody s23) b23 :=
  sss_cons (ss_try_as 2 0 Cc.M rfl Cc.o0 (takes_of rfl rfl rfl rfl) sc23.nd (fun W pn xe tk hp => sss_cons (ss_asg (se_call ⟨⟨_, _, _, F.f5.fn, F.f5.pl, F.f5.at_, F.f5.kp, F.f5.bd⟩⟩ hr tk (ses_cons (se_slot 0) (ses_nil)) (hlen := (len_cons (fun _ _ _ _ h => len_nil h)))) (sg_name 1 sc23.nd)) (
  sss_nil)) (fun ea eo eD ee epn he hz hf => sss_cons (ss_ret (se_ife (st_val (se_isx 2 3 Cc.M rfl Cc.o3 he hz hf M.m_isinstance)) (se_non) (se_str))) (
  sss_nil))) (
  sss_cons (ss_ret (se_ife (st_cmp hr.units .is (se_slot 1) (se_non)) (se_str) (se_slot 1))) (
  sss_nil))
theorem der24 {ad : Addr} {cdv : Value} {A : Around} {outer : List Env} {s : Shared} {H : Hp} {E : XK} (M : Mn mg) (Cc : Cn K mg C0 C1 C2 C3) (F : Fs P w K mg base (Tk (clsOf [C0, C1, C2, C3]) k) k a0 d0 a1 d1 a2 d2 a3 d3 a4 d4 a5 d5 a6 d6 a7 d7 a8 d8 a9 d9 a10 d10 a11 d11 a12 d12 a13 d13 a14 d14 a15 d15 a16 d16 a17 d17 a18 d18 a19 d19 a20 d20 a21 d21 a22 d22 a23 d23 a24 d24 a25 d25 a26 d26) (hr : Room k (A.deeper (envOfC "_law_coded" (defScope s24) s.heap.objs.size ad cdv))) :
    SSs (Tk (clsOf [C0, C1, C2, C3]) k) (cxOf (L2.CX P w) P w K mg base N24 "_law_coded" (defScope s24) ad cdv A outer s H E) none (fun c d _ H => E c d H) (defBody s24) b24 :=
  sss_cons (ss_try_as 4 0 Cc.M rfl Cc.o0 (takes_of rfl rfl rfl rfl) sc24.nd (fun W pn xe tk hp => sss_cons (ss_asg (se_call ⟨⟨_, _, _, F.f8.fn, F.f8.pl, F.f8.at_, F.f8.kp, F.f8.bd⟩⟩ hr tk (ses_cons (se_slot 0) (ses_cons (se_slot 1) (ses_cons (se_slot 2) (ses_nil)))) (hlen := (len_cons (len_cons (len_cons (fun _ _ _ _ h => len_nil h)))))) (sg_name 3 sc24.nd)) (
  sss_nil)) (fun ea eo eD ee epn he hz hf => sss_cons (ss_ret (se_ife (st_val (se_isx 4 2 Cc.M rfl Cc.o2 he hz hf M.m_isinstance)) (se_non) (se_str))) (
  sss_nil))) (
  sss_cons (ss_ret (se_ife (st_cmp hr.units .is (se_slot 3) (se_non)) (se_str) (se_slot 3))) (
  sss_nil))
theorem der25 {ad : Addr} {cdv : Value} {A : Around} {outer : List Env} {s : Shared} {H : Hp} {E : XK} (M : Mn mg) (Cc : Cn K mg C0 C1 C2 C3) (F : Fs P w K mg base (Tk (clsOf [C0, C1, C2, C3]) k) k a0 d0 a1 d1 a2 d2 a3 d3 a4 d4 a5 d5 a6 d6 a7 d7 a8 d8 a9 d9 a10 d10 a11 d11 a12 d12 a13 d13 a14 d14 a15 d15 a16 d16 a17 d17 a18 d18 a19 d19 a20 d20 a21 d21 a22 d22 a23 d23 a24 d24 a25 d25 a26 d26) (hr : Room k (A.deeper (envOfC "_law_drawn" (defScope s25) s.heap.objs.size ad cdv))) :
    SSs (Tk (clsOf [C0, C1, C2, C3]) k) (cxOf (L2.CX P w) P w K mg base N25 "_law_drawn" (defScope s25) ad cdv A outer s H E) none (fun c d _ H => E c d H) (defBody s25) b25 :=
  sss_cons (ss_asg (se_call ⟨⟨_, _, _, F.f11.fn, F.f11.pl, F.f11.at_, F.f11.kp, F.f11.bd⟩⟩ hr (takes_of rfl rfl rfl rfl) (ses_cons (se_slot 0) (ses_cons (se_int) (ses_nil))) (hlen := (len_cons (len_cons (fun _ _ _ _ h => len_nil h))))) (sg_name 1 sc25.nd)) (
  sss_cons (ss_if (st_cmp hr.units .eq (se_slot 1) (se_int)) (sss_cons (ss_ret (se_tup (ses_cons (se_bin .shl (se_int) (se_call ⟨⟨_, _, _, F.f11.fn, F.f11.pl, F.f11.at_, F.f11.kp, F.f11.bd⟩⟩ hr (takes_of rfl rfl rfl rfl) (ses_cons (se_slot 0) (ses_cons (se_int) (ses_nil))) (hlen := (len_cons (len_cons (fun _ _ _ _ h => len_nil h)))))) (ses_cons (se_int) (ses_nil))))) (
  sss_nil)) (sss_nil)) (
  sss_cons (ss_if (st_cmp hr.units .eq (se_slot 1) (se_int)) (sss_cons (ss_ret (se_tup (ses_cons (se_int) (ses_cons (se_bin .shl (se_int) (se_call ⟨⟨_, _, _, F.f11.fn, F.f11.pl, F.f11.at_, F.f11.kp, F.f11.bd⟩⟩ hr (takes_of rfl rfl rfl rfl) (ses_cons (se_slot 0) (ses_cons (se_int) (ses_nil))) (hlen := (len_cons (len_cons (fun _ _ _ _ h => len_nil h)))))) (ses_nil))))) (
  sss_nil)) (sss_nil)) (
  sss_cons (ss_if (st_cmp hr.units .eq (se_slot 1) (se_int)) (sss_cons (ss_ret (se_call ⟨⟨_, _, _, F.f15.fn, F.f15.pl, F.f15.at_, F.f15.kp, F.f15.bd⟩⟩ hr (takes_of rfl rfl rfl rfl) (ses_cons (se_bin .add (se_int) (se_call ⟨⟨_, _, _, F.f11.fn, F.f11.pl, F.f11.at_, F.f11.kp, F.f11.bd⟩⟩ hr (takes_of rfl rfl rfl rfl) (ses_cons (se_slot 0) (ses_cons (se_int) (ses_nil))) (hlen := (len_cons (len_cons (fun _ _ _ _ h => len_nil h)))))) (ses_cons (se_bin .add (se_int) (se_call ⟨⟨_, _, _, F.f11.fn, F.f11.pl, F.f11.at_, F.f11.kp, F.f11.bd⟩⟩ hr (takes_of rfl rfl rfl rfl) (ses_cons (se_slot 0) (ses_cons (se_int) (ses_nil))) (hlen := (len_cons (len_cons (fun _ _ _ _ h => len_nil h)))))) (ses_nil))) (hlen := (len_cons (len_cons (fun _ _ _ _ h => len_nil h)))))) (
  sss_nil)) (sss_nil)) (
  sss_cons (ss_asg (se_ix (se_tup (ses_cons (se_int) (ses_cons (se_bin .pow (se_int) (se_int)) (ses_cons (se_bin .pow (se_int) (se_int)) (ses_cons (se_bin .pow (se_int) (se_int)) (ses_nil)))))) (se_bin .sub (se_slot 1) (se_int))) (sg_name 2 sc25.nd)) (
  sss_cons (ss_ret (se_call ⟨⟨_, _, _, F.f15.fn, F.f15.pl, F.f15.at_, F.f15.kp, F.f15.bd⟩⟩ hr (takes_of rfl rfl rfl rfl) (ses_cons (se_bin .add (se_int) (se_call ⟨⟨_, _, _, F.f11.fn, F.f11.pl, F.f11.at_, F.f11.kp, F.f11.bd⟩⟩ hr (takes_of rfl rfl rfl rfl) (ses_cons (se_slot 0) (ses_cons (se_slot 2) (ses_nil))) (hlen := (len_cons (len_cons (fun _ _ _ _ h => len_nil h)))))) (ses_cons (se_bin .add (se_int) (se_call ⟨⟨_, _, _, F.f11.fn, F.f11.pl, F.f11.at_, F.f11.kp, F.f11.bd⟩⟩ hr (takes_of rfl rfl rfl rfl) (ses_cons (se_slot 0) (ses_cons (se_slot 2) (ses_nil))) (hlen := (len_cons (len_cons (fun _ _ _ _ h => len_nil h)))))) (ses_nil))) (hlen := (len_cons (len_cons (fun _ _ _ _ h => len_nil h)))))) (
  sss_nil))))))
theorem der26 {ad : Addr} {cdv : Value} {A : Around} {outer : List Env} {s : Shared} {H : Hp} {E : XK} (M : Mn mg) (Cc : Cn K mg C0 C1 C2 C3) (F : Fs P w K mg base (Tk (clsOf [C0, C1, C2, C3]) k) k a0 d0 a1 d1 a2 d2 a3 d3 a4 d4 a5 d5 a6 d6 a7 d7 a8 d8 a9 d9 a10 d10 a11 d11 a12 d12 a13 d13 a14 d14 a15 d15 a16 d16 a17 d17 a18 d18 a19 d19 a20 d20 a21 d21 a22 d22 a23 d23 a24 d24 a25 d25 a26 d26) (hr : Room k (A.deeper (envOfC "law" (defScope s26) s.heap.objs.size ad cdv))) :
    SSs (Tk (clsOf [C0, C1, C2, C3]) k) (cxOf (L2.CX P w) P w K mg base N26 "law" (defScope s26) ad cdv A outer s H E) none (fun c d _ H => E c d H) (defBody s26) b26 :=
  sss_cons (ss_asg (se_call ⟨⟨_, _, _, F.f10.fn, F.f10.pl, F.f10.at_, F.f10.kp, F.f10.bd⟩⟩ hr (takes_of rfl rfl rfl rfl) (ses_cons (se_slot 0) (ses_nil)) (hlen := (len_cons (fun _ _ _ _ h => len_nil h)))) (sg_name 1 sc26.nd)) (
  sss_cons (ss_for (passes_of rfl) rfl (si_range1 M.m_range (se_int)) (sg_name 2 sc26.nd) (sss_cons (ss_asg (se_call ⟨⟨_, _, _, F.f25.fn, F.f25.pl, F.f25.at_, F.f25.kp, F.f25.bd⟩⟩ hr (takes_of rfl rfl rfl rfl) (ses_cons (se_slot 1) (ses_nil)) (hlen := (len_cons (fun _ _ _ _ h => len_nil h)))) (sg_name 3 sc26.nd)) (
  sss_cons (ss_asg (se_call ⟨⟨_, _, _, F.f23.fn, F.f23.pl, F.f23.at_, F.f23.kp, F.f23.bd⟩⟩ hr (takes_of rfl rfl rfl rfl) (ses_cons (se_slot 3) (ses_nil)) (hlen := (len_cons (fun _ _ _ _ h => len_nil h)))) (sg_name 4 sc26.nd)) (
  sss_cons (ss_if (st_cmp hr.units .ne (se_slot 4) (se_call ⟨⟨_, _, _, F.f20.fn, F.f20.pl, F.f20.at_, F.f20.kp, F.f20.bd⟩⟩ hr (takes_of rfl rfl rfl rfl) (ses_cons (se_slot 3) (ses_nil)) (hlen := (len_cons (fun _ _ _ _ h => len_nil h))))) (sss_cons (ss_ret (se_bl)) (
  sss_nil)) (sss_nil)) (
  sss_cons (ss_if (st_w (sw_and (st_cmp hr.units .isNot (se_slot 4) (se_non)) (sw_one_and (st_w (sw_or (st_not (st_val (se_isi "tuple" M.m_isinstance M.m_tuple (by decide +kernel) (se_slot 4)))) (sw_or (st_not (st_val (se_call ⟨⟨_, _, _, F.f13.fn, F.f13.pl, F.f13.at_, F.f13.kp, F.f13.bd⟩⟩ hr (takes_of rfl rfl rfl rfl) (ses_cons (se_ix (se_slot 4) (se_int)) (ses_nil)) (hlen := (len_cons (fun _ _ _ _ h => len_nil h)))))) (sw_one_or (st_not (st_val (se_call ⟨⟨_, _, _, F.f13.fn, F.f13.pl, F.f13.at_, F.f13.kp, F.f13.bd⟩⟩ hr (takes_of rfl rfl rfl rfl) (ses_cons (se_ix (se_slot 4) (se_int)) (ses_nil)) (hlen := (len_cons (fun _ _ _ _ h => len_nil h))))))))))))) (sss_cons (ss_ret (se_bl)) (
  sss_nil)) (sss_nil)) (
  sss_nil)))))) (
  sss_cons (ss_asg (se_bin .add (se_int) (se_call ⟨⟨_, _, _, F.f11.fn, F.f11.pl, F.f11.at_, F.f11.kp, F.f11.bd⟩⟩ hr (takes_of rfl rfl rfl rfl) (ses_cons (se_slot 1) (ses_cons (se_int) (ses_nil))) (hlen := (len_cons (len_cons (fun _ _ _ _ h => len_nil h)))))) (sg_name 5 sc26.nd)) (
  sss_cons (ss_asg (se_call ⟨⟨_, _, _, F.f21.fn, F.f21.pl, F.f21.at_, F.f21.kp, F.f21.bd⟩⟩ hr (takes_of rfl rfl rfl rfl) (ses_cons (se_slot 5) (ses_nil)) (hlen := (len_cons (fun _ _ _ _ h => len_nil h)))) (sg_tup rfl (sgs_cons (sg_name 6 sc26.nd) (sgs_cons (sg_name 7 sc26.nd) (sgs_nil))) (lenT_cons (lenT_cons lenT_nil)))) (
  sss_cons (ss_asg (se_tup (ses_cons (se_call ⟨⟨_, _, _, F.f25.fn, F.f25.pl, F.f25.at_, F.f25.kp, F.f25.bd⟩⟩ hr (takes_of rfl rfl rfl rfl) (ses_cons (se_slot 1) (ses_nil)) (hlen := (len_cons (fun _ _ _ _ h => len_nil h)))) (ses_cons (se_bin .add (se_slot 6) (se_call ⟨⟨_, _, _, F.f11.fn, F.f11.pl, F.f11.at_, F.f11.kp, F.f11.bd⟩⟩ hr (takes_of rfl rfl rfl rfl) (ses_cons (se_slot 1) (ses_cons (se_bin .add (se_bin .sub (se_slot 7) (se_slot 6)) (se_int)) (ses_nil))) (hlen := (len_cons (len_cons (fun _ _ _ _ h => len_nil h)))))) (ses_nil)))) (sg_name 8 sc26.nd)) (
  sss_cons (ss_for (passes_of rfl) rfl (si_range1 M.m_range (se_int)) (sg_name 2 sc26.nd) (sss_cons (ss_asg (se_call ⟨⟨_, _, _, F.f15.fn, F.f15.pl, F.f15.at_, F.f15.kp, F.f15.bd⟩⟩ hr (takes_of rfl rfl rfl rfl) (ses_cons (se_call ⟨⟨_, _, _, F.f12.fn, F.f12.pl, F.f12.at_, F.f12.kp, F.f12.bd⟩⟩ hr (takes_of rfl rfl rfl rfl) (ses_cons (se_slot 1) (ses_cons (se_ix (se_tup (ses_cons (se_int) (ses_cons (se_bin .pow (se_int) (se_int)) (ses_cons (se_bin .pow (se_int) (se_int)) (ses_nil))))) (se_call ⟨⟨_, _, _, F.f11.fn, F.f11.pl, F.f11.at_, F.f11.kp, F.f11.bd⟩⟩ hr (takes_of rfl rfl rfl rfl) (ses_cons (se_slot 1) (ses_cons (se_int) (ses_nil))) (hlen := (len_cons (len_cons (fun _ _ _ _ h => len_nil h)))))) (ses_nil))) (hlen := (len_cons (len_cons (fun _ _ _ _ h => len_nil h))))) (ses_cons (se_bin .add (se_int) (se_call ⟨⟨_, _, _, F.f11.fn, F.f11.pl, F.f11.at_, F.f11.kp, F.f11.bd⟩⟩ hr (takes_of rfl rfl rfl rfl) (ses_cons (se_slot 1) (ses_cons (se_int) (ses_nil))) (hlen := (len_cons (len_cons (fun _ _ _ _ h => len_nil h)))))) (ses_nil))) (hlen := (len_cons (len_cons (fun _ _ _ _ h => len_nil h))))) (sg_name 9 sc26.nd)) (
  sss_cons (ss_asg (se_bin .add (se_call ⟨⟨_, _, _, F.f19.fn, F.f19.pl, F.f19.at_, F.f19.kp, F.f19.bd⟩⟩ hr (takes_of rfl rfl rfl rfl) (ses_cons (se_call ⟨⟨_, _, _, F.f18.fn, F.f18.pl, F.f18.at_, F.f18.kp, F.f18.bd⟩⟩ hr (takes_of rfl rfl rfl rfl) (ses_cons (se_slot 9) (ses_cons (se_ix (se_slot 8) (se_int)) (ses_nil))) (hlen := (len_cons (len_cons (fun _ _ _ _ h => len_nil h))))) (ses_nil)) (hlen := (len_cons (fun _ _ _ _ h => len_nil h)))) (se_ix (se_slot 8) (se_int))) (sg_name 10 sc26.nd)) (
  sss_cons (ss_asg (se_call ⟨⟨_, _, _, F.f24.fn, F.f24.pl, F.f24.at_, F.f24.kp, F.f24.bd⟩⟩ hr (takes_of rfl rfl rfl rfl) (ses_cons (se_slot 8) (ses_cons (se_slot 5) (ses_cons (se_slot 9) (ses_nil)))) (hlen := (len_cons (len_cons (len_cons (fun _ _ _ _ h => len_nil h)))))) (sg_name 11 sc26.nd)) (
  sss_cons (ss_if (st_w (sw_or (st_not (st_val (se_call ⟨⟨_, _, _, F.f13.fn, F.f13.pl, F.f13.at_, F.f13.kp, F.f13.bd⟩⟩ hr (takes_of rfl rfl rfl rfl) (ses_cons (se_slot 11) (ses_nil)) (hlen := (len_cons (fun _ _ _ _ h => len_nil h)))))) (sw_one_or (st_cmp hr.units .ne (se_slot 11) (se_biB .max2 (bi_max2 rfl) M.m_max (by decide +kernel) (ses_cons (se_slot 6) (ses_cons (se_biB .min2 (bi_min2 rfl) M.m_min (by decide +kernel) (ses_cons (se_slot 7) (ses_cons (se_slot 10) (ses_nil)))) (ses_nil)))))))) (sss_cons (ss_ret (se_bl)) (
  sss_nil)) (sss_nil)) (
  sss_cons (ss_if (st_cmp hr.units .ne (se_call ⟨⟨_, _, _, F.f9.fn, F.f9.pl, F.f9.at_, F.f9.kp, F.f9.bd⟩⟩ hr (takes_of rfl rfl rfl rfl) (ses_cons (se_slot 8) (ses_cons (se_slot 11) (ses_nil))) (hlen := (len_cons (len_cons (fun _ _ _ _ h => len_nil h))))) (se_call ⟨⟨_, _, _, F.f22.fn, F.f22.pl, F.f22.at_, F.f22.kp, F.f22.bd⟩⟩ hr (takes_of rfl rfl rfl rfl) (ses_cons (se_slot 8) (ses_cons (se_slot 11) (ses_nil))) (hlen := (len_cons (len_cons (fun _ _ _ _ h => len_nil h)))))) (sss_cons (ss_ret (se_bl)) (
  sss_nil)) (sss_nil)) (
  sss_cons (ss_if (st_cmp hr.units .eq (se_slot 11) (se_slot 10)) (sss_cons (ss_asg (se_call ⟨⟨_, _, _, F.f17.fn, F.f17.pl, F.f17.at_, F.f17.kp, F.f17.bd⟩⟩ hr (takes_of rfl rfl rfl rfl) (ses_cons (se_slot 9) (ses_cons (se_call ⟨⟨_, _, _, F.f22.fn, F.f22.pl, F.f22.at_, F.f22.kp, F.f22.bd⟩⟩ hr (takes_of rfl rfl rfl rfl) (ses_cons (se_slot 8) (ses_cons (se_slot 11) (ses_nil))) (hlen := (len_cons (len_cons (fun _ _ _ _ h => len_nil h))))) (ses_nil))) (hlen := (len_cons (len_cons (fun _ _ _ _ h => len_nil h))))) (sg_name 12 sc26.nd)) (
  sss_cons (ss_if (st_cmp hr.units .gt (se_bin .mul (se_bin .mul (se_int) (se_ix (se_slot 12) (se_int))) (se_ix (se_ix (se_slot 8) (se_int)) (se_int))) (se_bin .mul (se_ix (se_ix (se_slot 8) (se_int)) (se_int)) (se_ix (se_slot 12) (se_int)))) (sss_cons (ss_ret (se_bl)) (
  sss_nil)) (sss_nil)) (
  sss_nil))) (sss_nil)) (
  sss_nil)))))))) (
  sss_cons (ss_ret (se_and (se_cmp hr.units .is (se_call ⟨⟨_, _, _, F.f24.fn, F.f24.pl, F.f24.at_, F.f24.kp, F.f24.bd⟩⟩ hr (takes_of rfl rfl rfl rfl) (ses_cons (se_slot 8) (ses_cons (se_int) (ses_cons (se_tup (ses_cons (se_int) (ses_cons (se_int) (ses_nil)))) (ses_nil)))) (hlen := (len_cons (len_cons (len_cons (fun _ _ _ _ h => len_nil h)))))) (se_non)) (se_one (se_cmp hr.units .is (se_call ⟨⟨_, _, _, F.f24.fn, F.f24.pl, F.f24.at_, F.f24.kp, F.f24.bd⟩⟩ hr (takes_of rfl rfl rfl rfl) (ses_cons (se_slot 8) (ses_cons (se_int) (ses_cons (se_tup (ses_cons (se_int) (ses_cons (se_int) (ses_nil)))) (ses_nil)))) (hlen := (len_cons (len_cons (len_cons (fun _ _ _ _ h => len_nil h)))))) (se_non))))) (
  sss_nil)))))))
theorem all_fs (M : Mn mg) (Cc : Cn K mg C0 C1 C2 C3) (F0 : Fun K "limit" "limit" s0 a0 d0) (g0 : mg "limit" = some (.ref a0)) (F1 : Fun K "fraction" "fraction" s1 a1 d1) (g1 : mg "fraction" = some (.ref a1)) (F2 : Fun K "times" "times" s2 a2 d2) (g2 : mg "times" = some (.ref a2)) (F3 : Fun K "over" "over" s3 a3 d3) (g3 : mg "over" = some (.ref a3)) (F4 : Fun K "nearest" "nearest" s4 a4 d4) (g4 : mg "nearest" = some (.ref a4)) (F5 : Fun K "multiplier" "multiplier" s5 a5 d5) (g5 : mg "multiplier" = some (.ref a5)) (F6 : Fun K "check_bits" "check_bits" s6 a6 d6) (g6 : mg "check_bits" = some (.ref a6)) (F7 : Fun K "code_range" "code_range" s7 a7 d7) (g7 : mg "code_range" = some (.ref a7)) (F8 : Fun K "code_of" "code_of" s8 a8 d8) (g8 : mg "code_of" = some (.ref a8)) (F9 : Fun K "meaning_of" "meaning_of" s9 a9 d9) (g9 : mg "meaning_of" = some (.ref a9)) (F10 : Fun K "_law_begin" "_law_begin" s10 a10 d10) (g10 : mg "_law_begin" = some (.ref a10)) (F11 : Fun K "_law_take" "_law_take" s11 a11 d11) (g11 : mg "_law_take" = some (.ref a11)) (F12 : Fun K "_law_signed" "_law_signed" s12 a12 d12) (g12 : mg "_law_signed" = some (.ref a12)) (F13 : Fun K "_law_int" "_law_int" s13 a13 d13) (g13 : mg "_law_int" = some (.ref a13)) (F14 : Fun K "_law_gcd" "_law_gcd" s14 a14 d14) (g14 : mg "_law_gcd" = some (.ref a14)) (F15 : Fun K "_law_frac" "_law_frac" s15 a15 d15) (g15 : mg "_law_frac" = some (.ref a15)) (F16 : Fun K "_law_sum" "_law_sum" s16 a16 d16) (g16 : mg "_law_sum" = some (.ref a16)) (F17 : Fun K "_law_gap" "_law_gap" s17 a17 d17) (g17 : mg "_law_gap" = some (.ref a17)) (F18 : Fun K "_law_over" "_law_over" s18 a18 d18) (g18 : mg "_law_over" = some (.ref a18)) (F19 : Fun K "_law_near" "_law_near" s19 a19 d19) (g19 : mg "_law_near" = some (.ref a19)) (F20 : Fun K "_law_multiplier" "_law_multiplier" s20 a20 d20) (g20 : mg "_law_multiplier" = some (.ref a20)) (F21 : Fun K "_law_ends" "_law_ends" s21 a21 d21) (g21 : mg "_law_ends" = some (.ref a21)) (F22 : Fun K "_law_means" "_law_means" s22 a22 d22) (g22 : mg "_law_means" = some (.ref a22)) (F23 : Fun K "_law_told" "_law_told" s23 a23 d23) (g23 : mg "_law_told" = some (.ref a23)) (F24 : Fun K "_law_coded" "_law_coded" s24 a24 d24) (g24 : mg "_law_coded" = some (.ref a24)) (F25 : Fun K "_law_drawn" "_law_drawn" s25 a25 d25) (g25 : mg "_law_drawn" = some (.ref a25)) (F26 : Fun K "law" "law" s26 a26 d26) (g26 : mg "law" = some (.ref a26)) : ∀ k, Fs P w K mg base (Tk (clsOf [C0, C1, C2, C3]) k) k a0 d0 a1 d1 a2 d2 a3 d3 a4 d4 a5 d5 a6 d6 a7 d7 a8 d8 a9 d9 a10 d10 a11 d11 a12 d12 a13 d13 a14 d14 a15 d15 a16 d16 a17 d17 a18 d18 a19 d19 a20 d20 a21 d21 a22 d22 a23 d23 a24 d24 a25 d25 a26 d26
  | 0 => ⟨⟨fn_zero, rfl, g0, F0.kp, F0.binds (ps := ["n", "low", "high"]) fun _ _ _ _ _ _ us hl => match us, hl with | [_, _, _], _ => rfl⟩, ⟨fn_zero, rfl, g1, F1.kp, F1.binds (ps := ["numerator", "denominator"]) fun _ _ _ _ _ _ us hl => match us, hl with | [_, _], _ => rfl⟩, ⟨fn_zero, rfl, g2, F2.kp, F2.binds (ps := ["a", "b"]) fun _ _ _ _ _ _ us hl => match us, hl with | [_, _], _ => rfl⟩, ⟨fn_zero, rfl, g3, F3.kp, F3.binds (ps := ["a", "b"]) fun _ _ _ _ _ _ us hl => match us, hl with | [_, _], _ => rfl⟩, ⟨fn_zero, rfl, g4, F4.kp, F4.binds (ps := ["a"]) fun _ _ _ _ _ _ us hl => match us, hl with | [_], _ => rfl⟩, ⟨fn_zero, rfl, g5, F5.kp, F5.binds (ps := ["a"]) fun _ _ _ _ _ _ us hl => match us, hl with | [_], _ => rfl⟩, ⟨fn_zero, rfl, g6, F6.kp, F6.binds (ps := ["bits"]) fun _ _ _ _ _ _ us hl => match us, hl with | [_], _ => rfl⟩, ⟨fn_zero, rfl, g7, F7.kp, F7.binds (ps := ["bits"]) fun _ _ _ _ _ _ us hl => match us, hl with | [_], _ => rfl⟩, ⟨fn_zero, rfl, g8, F8.kp, F8.binds (ps := ["pair", "bits", "x"]) fun _ _ _ _ _ _ us hl => match us, hl with | [_, _, _], _ => rfl⟩, ⟨fn_zero, rfl, g9, F9.kp, F9.binds (ps := ["pair", "code"]) fun _ _ _ _ _ _ us hl => match us, hl with | [_, _], _ => rfl⟩, ⟨fn_zero, rfl, g10, F10.kp, F10.binds (ps := ["script"]) fun _ _ _ _ _ _ us hl => match us, hl with | [_], _ => rfl⟩, ⟨fn_zero, rfl, g11, F11.kp, F11.binds (ps := ["d", "many"]) fun _ _ _ _ _ _ us hl => match us, hl with | [_, _], _ => rfl⟩, ⟨fn_zero, rfl, g12, F12.kp, F12.binds (ps := ["d", "most"]) fun _ _ _ _ _ _ us hl => match us, hl with | [_, _], _ => rfl⟩, ⟨fn_zero, rfl, g13, F13.kp, F13.binds (ps := ["actual"]) fun _ _ _ _ _ _ us hl => match us, hl with | [_], _ => rfl⟩, ⟨fn_zero, rfl, g14, F14.kp, F14.binds (ps := ["a", "b"]) fun _ _ _ _ _ _ us hl => match us, hl with | [_, _], _ => rfl⟩, ⟨fn_zero, rfl, g15, F15.kp, F15.binds (ps := ["a", "b"]) fun _ _ _ _ _ _ us hl => match us, hl with | [_, _], _ => rfl⟩, ⟨fn_zero, rfl, g16, F16.kp, F16.binds (ps := ["a", "b"]) fun _ _ _ _ _ _ us hl => match us, hl with | [_, _], _ => rfl⟩, ⟨fn_zero, rfl, g17, F17.kp, F17.binds (ps := ["a", "b"]) fun _ _ _ _ _ _ us hl => match us, hl with | [_, _], _ => rfl⟩, ⟨fn_zero, rfl, g18, F18.kp, F18.binds (ps := ["a", "b"]) fun _ _ _ _ _ _ us hl => match us, hl with | [_, _], _ => rfl⟩, ⟨fn_zero, rfl, g19, F19.kp, F19.binds (ps := ["a"]) fun _ _ _ _ _ _ us hl => match us, hl with | [_], _ => rfl⟩, ⟨fn_zero, rfl, g20, F20.kp, F20.binds (ps := ["a"]) fun _ _ _ _ _ _ us hl => match us, hl with | [_], _ => rfl⟩, ⟨fn_zero, rfl, g21, F21.kp, F21.binds (ps := ["bits"]) fun _ _ _ _ _ _ us hl => match us, hl with | [_], _ => rfl⟩, ⟨fn_zero, rfl, g22, F22.kp, F22.binds (ps := ["pair", "code"]) fun _ _ _ _ _ _ us hl => match us, hl with | [_, _], _ => rfl⟩, ⟨fn_zero, rfl, g23, F23.kp, F23.binds (ps := ["a"]) fun _ _ _ _ _ _ us hl => match us, hl with | [_], _ => rfl⟩, ⟨fn_zero, rfl, g24, F24.kp, F24.binds (ps := ["pair", "bits", "x"]) fun _ _ _ _ _ _ us hl => match us, hl with | [_, _, _], _ => rfl⟩, ⟨fn_zero, rfl, g25, F25.kp, F25.binds (ps := ["d"]) fun _ _ _ _ _ _ us hl => match us, hl with | [_], _ => rfl⟩, ⟨fn_zero, rfl, g26, F26.kp, F26.binds (ps := ["script"]) fun _ _ _ _ _ _ us hl => match us, hl with | [_], _ => rfl⟩⟩
  | k + 1 => by
    have F := all_fs M Cc F0 g0 F1 g1 F2 g2 F3 g3 F4 g4 F5 g5 F6 g6 F7 g7 F8 g8 F9 g9 F10 g10 F11 g11 F12 g12 F13 g13 F14 g14 F15 g15 F16 g16 F17 g17 F18 g18 F19 g19 F20 g20 F21 g21 F22 g22 F23 g23 F24 g24 F25 g25 F26 g26 k
    exact ⟨⟨fn_ok F0 sc0 rfl (by decide) (fun cdv A outer s H E hr => der0 M Cc F hr), rfl, g0, F0.kp, F0.binds (ps := ["n", "low", "high"]) fun _ _ _ _ _ _ us hl => match us, hl with | [_, _, _], _ => rfl⟩, ⟨fn_ok F1 sc1 rfl (by decide) (fun cdv A outer s H E hr => der1 M Cc F hr), rfl, g1, F1.kp, F1.binds (ps := ["numerator", "denominator"]) fun _ _ _ _ _ _ us hl => match us, hl with | [_, _], _ => rfl⟩, ⟨fn_ok F2 sc2 rfl (by decide) (fun cdv A outer s H E hr => der2 M Cc F hr), rfl, g2, F2.kp, F2.binds (ps := ["a", "b"]) fun _ _ _ _ _ _ us hl => match us, hl with | [_, _], _ => rfl⟩, ⟨fn_ok F3 sc3 rfl (by decide) (fun cdv A outer s H E hr => der3 M Cc F hr), rfl, g3, F3.kp, F3.binds (ps := ["a", "b"]) fun _ _ _ _ _ _ us hl => match us, hl with | [_, _], _ => rfl⟩, ⟨fn_ok F4 sc4 rfl (by decide) (fun cdv A outer s H E hr => der4 M Cc F hr), rfl, g4, F4.kp, F4.binds (ps := ["a"]) fun _ _ _ _ _ _ us hl => match us, hl with | [_], _ => rfl⟩, ⟨fn_ok F5 sc5 rfl (by decide) (fun cdv A outer s H E hr => der5 M Cc F hr), rfl, g5, F5.kp, F5.binds (ps := ["a"]) fun _ _ _ _ _ _ us hl => match us, hl with | [_], _ => rfl⟩, ⟨fn_ok F6 sc6 rfl (by decide) (fun cdv A outer s H E hr => der6 M Cc F hr), rfl, g6, F6.kp, F6.binds (ps := ["bits"]) fun _ _ _ _ _ _ us hl => match us, hl with | [_], _ => rfl⟩, ⟨fn_ok F7 sc7 rfl (by decide) (fun cdv A outer s H E hr => der7 M Cc F hr), rfl, g7, F7.kp, F7.binds (ps := ["bits"]) fun _ _ _ _ _ _ us hl => match us, hl with | [_], _ => rfl⟩, ⟨fn_ok F8 sc8 rfl (by decide) (fun cdv A outer s H E hr => der8 M Cc F hr), rfl, g8, F8.kp, F8.binds (ps := ["pair", "bits", "x"]) fun _ _ _ _ _ _ us hl => match us, hl with | [_, _, _], _ => rfl⟩, ⟨fn_ok F9 sc9 rfl (by decide) (fun cdv A outer s H E hr => der9 M Cc F hr), rfl, g9, F9.kp, F9.binds (ps := ["pair", "code"]) fun _ _ _ _ _ _ us hl => match us, hl with | [_, _], _ => rfl⟩, ⟨fn_ok F10 sc10 rfl (by decide) (fun cdv A outer s H E hr => der10 M Cc F hr), rfl, g10, F10.kp, F10.binds (ps := ["script"]) fun _ _ _ _ _ _ us hl => match us, hl with | [_], _ => rfl⟩, ⟨fn_ok F11 sc11 rfl (by decide) (fun cdv A outer s H E hr => der11 M Cc F hr), rfl, g11, F11.kp, F11.binds (ps := ["d", "many"]) fun _ _ _ _ _ _ us hl => match us, hl with | [_, _], _ => rfl⟩, ⟨fn_ok F12 sc12 rfl (by decide) (fun cdv A outer s H E hr => der12 M Cc F hr), rfl, g12, F12.kp, F12.binds (ps := ["d", "most"]) fun _ _ _ _ _ _ us hl => match us, hl with | [_, _], _ => rfl⟩, ⟨fn_ok F13 sc13 rfl (by decide) (fun cdv A outer s H E hr => der13 M Cc F hr), rfl, g13, F13.kp, F13.binds (ps := ["actual"]) fun _ _ _ _ _ _ us hl => match us, hl with | [_], _ => rfl⟩, ⟨fn_ok F14 sc14 rfl (by decide) (fun cdv A outer s H E hr => der14 M Cc F hr), rfl, g14, F14.kp, F14.binds (ps := ["a", "b"]) fun _ _ _ _ _ _ us hl => match us, hl with | [_, _], _ => rfl⟩, ⟨fn_ok F15 sc15 rfl (by decide) (fun cdv A outer s H E hr => der15 M Cc F hr), rfl, g15, F15.kp, F15.binds (ps := ["a", "b"]) fun _ _ _ _ _ _ us hl => match us, hl with | [_, _], _ => rfl⟩, ⟨fn_ok F16 sc16 rfl (by decide) (fun cdv A outer s H E hr => der16 M Cc F hr), rfl, g16, F16.kp, F16.binds (ps := ["a", "b"]) fun _ _ _ _ _ _ us hl => match us, hl with | [_, _], _ => rfl⟩, ⟨fn_ok F17 sc17 rfl (by decide) (fun cdv A outer s H E hr => der17 M Cc F hr), rfl, g17, F17.kp, F17.binds (ps := ["a", "b"]) fun _ _ _ _ _ _ us hl => match us, hl with | [_, _], _ => rfl⟩, ⟨fn_ok F18 sc18 rfl (by decide) (fun cdv A outer s H E hr => der18 M Cc F hr), rfl, g18, F18.kp, F18.binds (ps := ["a", "b"]) fun _ _ _ _ _ _ us hl => match us, hl with | [_, _], _ => rfl⟩, ⟨fn_ok F19 sc19 rfl (by decide) (fun cdv A outer s H E hr => der19 M Cc F hr), rfl, g19, F19.kp, F19.binds (ps := ["a"]) fun _ _ _ _ _ _ us hl => match us, hl with | [_], _ => rfl⟩, ⟨fn_ok F20 sc20 rfl (by decide) (fun cdv A outer s H E hr => der20 M Cc F hr), rfl, g20, F20.kp, F20.binds (ps := ["a"]) fun _ _ _ _ _ _ us hl => match us, hl with | [_], _ => rfl⟩, ⟨fn_ok F21 sc21 rfl (by decide) (fun cdv A outer s H E hr => der21 M Cc F hr), rfl, g21, F21.kp, F21.binds (ps := ["bits"]) fun _ _ _ _ _ _ us hl => match us, hl with | [_], _ => rfl⟩, ⟨fn_ok F22 sc22 rfl (by decide) (fun cdv A outer s H E hr => der22 M Cc F hr), rfl, g22, F22.kp, F22.binds (ps := ["pair", "code"]) fun _ _ _ _ _ _ us hl => match us, hl with | [_, _], _ => rfl⟩, ⟨fn_ok F23 sc23 rfl (by decide) (fun cdv A outer s H E hr => der23 M Cc F hr), rfl, g23, F23.kp, F23.binds (ps := ["a"]) fun _ _ _ _ _ _ us hl => match us, hl with | [_], _ => rfl⟩, ⟨fn_ok F24 sc24 rfl (by decide) (fun cdv A outer s H E hr => der24 M Cc F hr), rfl, g24, F24.kp, F24.binds (ps := ["pair", "bits", "x"]) fun _ _ _ _ _ _ us hl => match us, hl with | [_, _, _], _ => rfl⟩, ⟨fn_ok F25 sc25 rfl (by decide) (fun cdv A outer s H E hr => der25 M Cc F hr), rfl, g25, F25.kp, F25.binds (ps := ["d"]) fun _ _ _ _ _ _ us hl => match us, hl with | [_], _ => rfl⟩, ⟨fn_ok F26 sc26 rfl (by decide) (fun cdv A outer s H E hr => der26 M Cc F hr), rfl, g26, F26.kp, F26.binds (ps := ["script"]) fun _ _ _ _ _ _ us hl => match us, hl with | [_], _ => rfl⟩⟩
end
/-- the law from the run of the small machine -/
theorem end_of {l : PySem.W.OpenLaw} {w : World} {K : PySem.W.Frag} {h : Heap} {mg : Str → Option Value} {fa : Addr} (X : K.In h) (G : h.Ns mainGlobals mg) (hfa : mg "law" = some (.ref fa))
    {f0 : Addr} {oc0 kV0 dc0 pm0 cd0 ct0 : Value} {od0 an0 : Option Addr} {sl0 : Array (Option Value)}
    {f1 : Addr} {oc1 kV1 dc1 pm1 cd1 ct1 : Value} {od1 an1 : Option Addr} {sl1 : Array (Option Value)}
    {f2 : Addr} {oc2 kV2 dc2 pm2 cd2 ct2 : Value} {od2 an2 : Option Addr} {sl2 : Array (Option Value)}
    {f3 : Addr} {oc3 kV3 dc3 pm3 cd3 ct3 : Value} {od3 an3 : Option Addr} {sl3 : Array (Option Value)}
    {f4 : Addr} {oc4 kV4 dc4 pm4 cd4 ct4 : Value} {od4 an4 : Option Addr} {sl4 : Array (Option Value)}
    {f5 : Addr} {oc5 kV5 dc5 pm5 cd5 ct5 : Value} {od5 an5 : Option Addr} {sl5 : Array (Option Value)}
    {f6 : Addr} {oc6 kV6 dc6 pm6 cd6 ct6 : Value} {od6 an6 : Option Addr} {sl6 : Array (Option Value)}
    {f7 : Addr} {oc7 kV7 dc7 pm7 cd7 ct7 : Value} {od7 an7 : Option Addr} {sl7 : Array (Option Value)}
    {f8 : Addr} {oc8 kV8 dc8 pm8 cd8 ct8 : Value} {od8 an8 : Option Addr} {sl8 : Array (Option Value)}
    {f9 : Addr} {oc9 kV9 dc9 pm9 cd9 ct9 : Value} {od9 an9 : Option Addr} {sl9 : Array (Option Value)}
    {f10 : Addr} {oc10 kV10 dc10 pm10 cd10 ct10 : Value} {od10 an10 : Option Addr} {sl10 : Array (Option Value)}
    {f11 : Addr} {oc11 kV11 dc11 pm11 cd11 ct11 : Value} {od11 an11 : Option Addr} {sl11 : Array (Option Value)}
    {f12 : Addr} {oc12 kV12 dc12 pm12 cd12 ct12 : Value} {od12 an12 : Option Addr} {sl12 : Array (Option Value)}
    {f13 : Addr} {oc13 kV13 dc13 pm13 cd13 ct13 : Value} {od13 an13 : Option Addr} {sl13 : Array (Option Value)}
    {f14 : Addr} {oc14 kV14 dc14 pm14 cd14 ct14 : Value} {od14 an14 : Option Addr} {sl14 : Array (Option Value)}
    {f15 : Addr} {oc15 kV15 dc15 pm15 cd15 ct15 : Value} {od15 an15 : Option Addr} {sl15 : Array (Option Value)}
    {f16 : Addr} {oc16 kV16 dc16 pm16 cd16 ct16 : Value} {od16 an16 : Option Addr} {sl16 : Array (Option Value)}
    {f17 : Addr} {oc17 kV17 dc17 pm17 cd17 ct17 : Value} {od17 an17 : Option Addr} {sl17 : Array (Option Value)}
    {f18 : Addr} {oc18 kV18 dc18 pm18 cd18 ct18 : Value} {od18 an18 : Option Addr} {sl18 : Array (Option Value)}
    {f19 : Addr} {oc19 kV19 dc19 pm19 cd19 ct19 : Value} {od19 an19 : Option Addr} {sl19 : Array (Option Value)}
    {f20 : Addr} {oc20 kV20 dc20 pm20 cd20 ct20 : Value} {od20 an20 : Option Addr} {sl20 : Array (Option Value)}
    {f21 : Addr} {oc21 kV21 dc21 pm21 cd21 ct21 : Value} {od21 an21 : Option Addr} {sl21 : Array (Option Value)}
    {f22 : Addr} {oc22 kV22 dc22 pm22 cd22 ct22 : Value} {od22 an22 : Option Addr} {sl22 : Array (Option Value)}
    {f23 : Addr} {oc23 kV23 dc23 pm23 cd23 ct23 : Value} {od23 an23 : Option Addr} {sl23 : Array (Option Value)}
    {f24 : Addr} {oc24 kV24 dc24 pm24 cd24 ct24 : Value} {od24 an24 : Option Addr} {sl24 : Array (Option Value)}
    {f25 : Addr} {oc25 kV25 dc25 pm25 cd25 ct25 : Value} {od25 an25 : Option Addr} {sl25 : Array (Option Value)}
    {f26 : Addr} {oc26 kV26 dc26 pm26 cd26 ct26 : Value} {od26 an26 : Option Addr} {sl26 : Array (Option Value)}
    (a0 : PySem.W.nsIn K mainGlobals "limit" = some (some (.ref f0))) (l0 : K.lookup f0 = some ⟨oc0, od0, .func (PySem.W.fnOf "limit" "limit" (defArgs s0) (defBody s0) (defScope s0) .none kV0 dc0 pm0 an0 cd0 ct0), sl0⟩) (c0 : PySem.W.codeIn K cd0 "limit" = true) (k0 : PySem.W.keepIn K (.ref f0) = true)
    (a1 : PySem.W.nsIn K mainGlobals "fraction" = some (some (.ref f1))) (l1 : K.lookup f1 = some ⟨oc1, od1, .func (PySem.W.fnOf "fraction" "fraction" (defArgs s1) (defBody s1) (defScope s1) .none kV1 dc1 pm1 an1 cd1 ct1), sl1⟩) (c1 : PySem.W.codeIn K cd1 "fraction" = true) (k1 : PySem.W.keepIn K (.ref f1) = true)
    (a2 : PySem.W.nsIn K mainGlobals "times" = some (some (.ref f2))) (l2 : K.lookup f2 = some ⟨oc2, od2, .func (PySem.W.fnOf "times" "times" (defArgs s2) (defBody s2) (defScope s2) .none kV2 dc2 pm2 an2 cd2 ct2), sl2⟩) (c2 : PySem.W.codeIn K cd2 "times" = true) (k2 : PySem.W.keepIn K (.ref f2) = true)
    (a3 : PySem.W.nsIn K mainGlobals "over" = some (some (.ref f3))) (l3 : K.lookup f3 = some ⟨oc3, od3, .func (PySem.W.fnOf "over" "over" (defArgs s3) (defBody s3) (defScope s3) .none kV3 dc3 pm3 an3 cd3 ct3), sl3⟩) (c3 : PySem.W.codeIn K cd3 "over" = true) (k3 : PySem.W.keepIn K (.ref f3) = true)
    (a4 : PySem.W.nsIn K mainGlobals "nearest" = some (some (.ref f4))) (l4 : K.lookup f4 = some ⟨oc4, od4, .func (PySem.W.fnOf "nearest" "nearest" (defArgs s4) (defBody s4) (defScope s4) .none kV4 dc4 pm4 an4 cd4 ct4), sl4⟩) (c4 : PySem.W.codeIn K cd4 "nearest" = true) (k4 : PySem.W.keepIn K (.ref f4) = true)
    (a5 : PySem.W.nsIn K mainGlobals "multiplier" = some (some (.ref f5))) (l5 : K.lookup f5 = some ⟨oc5, od5, .func (PySem.W.fnOf "multiplier" "multiplier" (defArgs s5) (defBody s5) (defScope s5) .none kV5 dc5 pm5 an5 cd5 ct5), sl5⟩) (c5 : PySem.W.codeIn K cd5 "multiplier" = true) (k5 : PySem.W.keepIn K (.ref f5) = true)
    (a6 : PySem.W.nsIn K mainGlobals "check_bits" = some (some (.ref f6))) (l6 : K.lookup f6 = some ⟨oc6, od6, .func (PySem.W.fnOf "check_bits" "check_bits" (defArgs s6) (defBody s6) (defScope s6) .none kV6 dc6 pm6 an6 cd6 ct6), sl6⟩) (c6 : PySem.W.codeIn K cd6 "check_bits" = true) (k6 : PySem.W.keepIn K (.ref f6) = true)
    (a7 : PySem.W.nsIn K mainGlobals "code_range" = some (some (.ref f7))) (l7 : K.lookup f7 = some ⟨oc7, od7, .func (PySem.W.fnOf "code_range" "code_range" (defArgs s7) (defBody s7) (defScope s7) .none kV7 dc7 pm7 an7 cd7 ct7), sl7⟩) (c7 : PySem.W.codeIn K cd7 "code_range" = true) (k7 : PySem.W.keepIn K (.ref f7) = true)
    (a8 : PySem.W.nsIn K mainGlobals "code_of" = some (some (.ref f8))) (l8 : K.lookup f8 = some ⟨oc8, od8, .func (PySem.W.fnOf "code_of" "code_of" (defArgs s8) (defBody s8) (defScope s8) .none kV8 dc8 pm8 an8 cd8 ct8), sl8⟩) (c8 : PySem.W.codeIn K cd8 "code_of" = true) (k8 : PySem.W.keepIn K (.ref f8) = true)
    (a9 : PySem.W.nsIn K mainGlobals "meaning_of" = some (some (.ref f9))) (l9 : K.lookup f9 = some ⟨oc9, od9, .func (PySem.W.fnOf "meaning_of" "meaning_of" (defArgs s9) (defBody s9) (defScope s9) .none kV9 dc9 pm9 an9 cd9 ct9), sl9⟩) (c9 : PySem.W.codeIn K cd9 "meaning_of" = true) (k9 : PySem.W.keepIn K (.ref f9) = true)
    (a10 : PySem.W.nsIn K mainGlobals "_law_begin" = some (some (.ref f10))) (l10 : K.lookup f10 = some ⟨oc10, od10, .func (PySem.W.fnOf "_law_begin" "_law_begin" (defArgs s10) (defBody s10) (defScope s10) .none kV10 dc10 pm10 an10 cd10 ct10), sl10⟩) (c10 : PySem.W.codeIn K cd10 "_law_begin" = true) (k10 : PySem.W.keepIn K (.ref f10) = true)
    (a11 : PySem.W.nsIn K mainGlobals "_law_take" = some (some (.ref f11))) (l11 : K.lookup f11 = some ⟨oc11, od11, .func (PySem.W.fnOf "_law_take" "_law_take" (defArgs s11) (defBody s11) (defScope s11) .none kV11 dc11 pm11 an11 cd11 ct11), sl11⟩) (c11 : PySem.W.codeIn K cd11 "_law_take" = true) (k11 : PySem.W.keepIn K (.ref f11) = true)
    (a12 : PySem.W.nsIn K mainGlobals "_law_signed" = some (some (.ref f12))) (l12 : K.lookup f12 = some ⟨oc12, od12, .func (PySem.W.fnOf "_law_signed" "_law_signed" (defArgs s12) (defBody s12) (defScope s12) .none kV12 dc12 pm12 an12 cd12 ct12), sl12⟩) (c12 : PySem.W.codeIn K cd12 "_law_signed" = true) (k12 : PySem.W.keepIn K (.ref f12) = true)
    (a13 : PySem.W.nsIn K mainGlobals "_law_int" = some (some (.ref f13))) (l13 : K.lookup f13 = some ⟨oc13, od13, .func (PySem.W.fnOf "_law_int" "_law_int" (defArgs s13) (defBody s13) (defScope s13) .none kV13 dc13 pm13 an13 cd13 ct13), sl13⟩) (c13 : PySem.W.codeIn K cd13 "_law_int" = true) (k13 : PySem.W.keepIn K (.ref f13) = true)
    (a14 : PySem.W.nsIn K mainGlobals "_law_gcd" = some (some (.ref f14))) (l14 : K.lookup f14 = some ⟨oc14, od14, .func (PySem.W.fnOf "_law_gcd" "_law_gcd" (defArgs s14) (defBody s14) (defScope s14) .none kV14 dc14 pm14 an14 cd14 ct14), sl14⟩) (c14 : PySem.W.codeIn K cd14 "_law_gcd" = true) (k14 : PySem.W.keepIn K (.ref f14) = true)
    (a15 : PySem.W.nsIn K mainGlobals "_law_frac" = some (some (.ref f15))) (l15 : K.lookup f15 = some ⟨oc15, od15, .func (PySem.W.fnOf "_law_frac" "_law_frac" (defArgs s15) (defBody s15) (defScope s15) .none kV15 dc15 pm15 an15 cd15 ct15), sl15⟩) (c15 : PySem.W.codeIn K cd15 "_law_frac" = true) (k15 : PySem.W.keepIn K (.ref f15) = true)
    (a16 : PySem.W.nsIn K mainGlobals "_law_sum" = some (some (.ref f16))) (l16 : K.lookup f16 = some ⟨oc16, od16, .func (PySem.W.fnOf "_law_sum" "_law_sum" (defArgs s16) (defBody s16) (defScope s16) .none kV16 dc16 pm16 an16 cd16 ct16), sl16⟩) (c16 : PySem.W.codeIn K cd16 "_law_sum" = true) (k16 : PySem.W.keepIn K (.ref f16) = true)
    (a17 : PySem.W.nsIn K mainGlobals "_law_gap" = some (some (.ref f17))) (l17 : K.lookup f17 = some ⟨oc17, od17, .func (PySem.W.fnOf "_law_gap" "_law_gap" (defArgs s17) (defBody s17) (defScope s17) .none kV17 dc17 pm17 an17 cd17 ct17), sl17⟩) (c17 : PySem.W.codeIn K cd17 "_law_gap" = true) (k17 : PySem.W.keepIn K (.ref f17) = true)
    (a18 : PySem.W.nsIn K mainGlobals "_law_over" = some (some (.ref f18))) (l18 : K.lookup f18 = some ⟨oc18, od18, .func (PySem.W.fnOf "_law_over" "_law_over" (defArgs s18) (defBody s18) (defScope s18) .none kV18 dc18 pm18 an18 cd18 ct18), sl18⟩) (c18 : PySem.W.codeIn K cd18 "_law_over" = true) (k18 : PySem.W.keepIn K (.ref f18) = true)
    (a19 : PySem.W.nsIn K mainGlobals "_law_near" = some (some (.ref f19))) (l19 : K.lookup f19 = some ⟨oc19, od19, .func (PySem.W.fnOf "_law_near" "_law_near" (defArgs s19) (defBody s19) (defScope s19) .none kV19 dc19 pm19 an19 cd19 ct19), sl19⟩) (c19 : PySem.W.codeIn K cd19 "_law_near" = true) (k19 : PySem.W.keepIn K (.ref f19) = true)
    (a20 : PySem.W.nsIn K mainGlobals "_law_multiplier" = some (some (.ref f20))) (l20 : K.lookup f20 = some ⟨oc20, od20, .func (PySem.W.fnOf "_law_multiplier" "_law_multiplier" (defArgs s20) (defBody s20) (defScope s20) .none kV20 dc20 pm20 an20 cd20 ct20), sl20⟩) (c20 : PySem.W.codeIn K cd20 "_law_multiplier" = true) (k20 : PySem.W.keepIn K (.ref f20) = true)
    (a21 : PySem.W.nsIn K mainGlobals "_law_ends" = some (some (.ref f21))) (l21 : K.lookup f21 = some ⟨oc21, od21, .func (PySem.W.fnOf "_law_ends" "_law_ends" (defArgs s21) (defBody s21) (defScope s21) .none kV21 dc21 pm21 an21 cd21 ct21), sl21⟩) (c21 : PySem.W.codeIn K cd21 "_law_ends" = true) (k21 : PySem.W.keepIn K (.ref f21) = true)
    (a22 : PySem.W.nsIn K mainGlobals "_law_means" = some (some (.ref f22))) (l22 : K.lookup f22 = some ⟨oc22, od22, .func (PySem.W.fnOf "_law_means" "_law_means" (defArgs s22) (defBody s22) (defScope s22) .none kV22 dc22 pm22 an22 cd22 ct22), sl22⟩) (c22 : PySem.W.codeIn K cd22 "_law_means" = true) (k22 : PySem.W.keepIn K (.ref f22) = true)
    (a23 : PySem.W.nsIn K mainGlobals "_law_told" = some (some (.ref f23))) (l23 : K.lookup f23 = some ⟨oc23, od23, .func (PySem.W.fnOf "_law_told" "_law_told" (defArgs s23) (defBody s23) (defScope s23) .none kV23 dc23 pm23 an23 cd23 ct23), sl23⟩) (c23 : PySem.W.codeIn K cd23 "_law_told" = true) (k23 : PySem.W.keepIn K (.ref f23) = true)
    (a24 : PySem.W.nsIn K mainGlobals "_law_coded" = some (some (.ref f24))) (l24 : K.lookup f24 = some ⟨oc24, od24, .func (PySem.W.fnOf "_law_coded" "_law_coded" (defArgs s24) (defBody s24) (defScope s24) .none kV24 dc24 pm24 an24 cd24 ct24), sl24⟩) (c24 : PySem.W.codeIn K cd24 "_law_coded" = true) (k24 : PySem.W.keepIn K (.ref f24) = true)
    (a25 : PySem.W.nsIn K mainGlobals "_law_drawn" = some (some (.ref f25))) (l25 : K.lookup f25 = some ⟨oc25, od25, .func (PySem.W.fnOf "_law_drawn" "_law_drawn" (defArgs s25) (defBody s25) (defScope s25) .none kV25 dc25 pm25 an25 cd25 ct25), sl25⟩) (c25 : PySem.W.codeIn K cd25 "_law_drawn" = true) (k25 : PySem.W.keepIn K (.ref f25) = true)
    (a26 : PySem.W.nsIn K mainGlobals "law" = some (some (.ref f26))) (l26 : K.lookup f26 = some ⟨oc26, od26, .func (PySem.W.fnOf "law" "law" (defArgs s26) (defBody s26) (defScope s26) .none kV26 dc26 pm26 an26 cd26 ct26), sl26⟩) (c26 : PySem.W.codeIn K cd26 "law" = true) (k26 : PySem.W.keepIn K (.ref f26) = true)
    (z_abs : PySem.W.nsIn K mainGlobals "abs" = some none)
    (z_bool : PySem.W.nsIn K mainGlobals "bool" = some none)
    (z_int : PySem.W.nsIn K mainGlobals "int" = some none)
    (z_isinstance : PySem.W.nsIn K mainGlobals "isinstance" = some none)
    (z_len : PySem.W.nsIn K mainGlobals "len" = some none)
    (z_list : PySem.W.nsIn K mainGlobals "list" = some none)
    (z_max : PySem.W.nsIn K mainGlobals "max" = some none)
    (z_min : PySem.W.nsIn K mainGlobals "min" = some none)
    (z_range : PySem.W.nsIn K mainGlobals "range" = some none)
    (z_tuple : PySem.W.nsIn K mainGlobals "tuple" = some none)
    (y_gcd : PySem.W.nsIn K mainGlobals "gcd" = some (some (.builtin "math.gcd")))
    {t_FACTOR_LIMIT : Tok} (x_FACTOR_LIMIT : PySem.W.nsIn K mainGlobals "FACTOR_LIMIT" = some (some (.int 65535 t_FACTOR_LIMIT)))
    {t_FEWEST_BITS : Tok} (x_FEWEST_BITS : PySem.W.nsIn K mainGlobals "FEWEST_BITS" = some (some (.int 3 t_FEWEST_BITS)))
    {t_MOST_BITS : Tok} (x_MOST_BITS : PySem.W.nsIn K mainGlobals "MOST_BITS" = some (some (.int 12 t_MOST_BITS)))
    {t_SHIFT_LIMIT : Tok} (x_SHIFT_LIMIT : PySem.W.nsIn K mainGlobals "SHIFT_LIMIT" = some (some (.int 30 t_SHIFT_LIMIT)))
    {C0 C1 C2 C3 : Addr}
    (eg0 : PySem.W.nsIn K mainGlobals "TensorError" = some (some (.ref C0)))
    (ek0 : PySem.W.keepIn K (.ref C0) = true)
    (ee0 : PySem.W.excIn K C0 [.type "ValueError", .type "Exception", .type "BaseException", .type "object"] "ValueError.__new__" = true)
    (eb0 : PySem.W.subIn K (.ref C0) (.type "BaseException") = some true)
    (et0 : PySem.W.typeIn K (.ref C0) = some (.type "type"))
    (ev0 : PySem.W.subIn K (.ref C0) (.type "ValueError") = some true)
    (ea0 : PySem.W.findIn K (.ref C0) "__getattribute__" = some (some (.builtin "BaseException.__getattribute__")))
    (ec0 : PySem.W.findIn K (.ref C0) "__getattr__" = some none)
    (ed0 : PySem.W.hasDictIn K C0 = true)
    (ef0 : PySem.W.findIn K (.ref C0) "__class__" = some (some (.builtin "object.__class__")))
    (em0 : PySem.W.mroIn K C0 (.type "object") = some true)
    (eg1 : PySem.W.nsIn K mainGlobals "ZeroDenominator" = some (some (.ref C1)))
    (ek1 : PySem.W.keepIn K (.ref C1) = true)
    (ee1 : PySem.W.excIn K C1 [.type "ValueError", .type "Exception", .type "BaseException", .type "object"] "ValueError.__new__" = true)
    (eb1 : PySem.W.subIn K (.ref C1) (.type "BaseException") = some true)
    (et1 : PySem.W.typeIn K (.ref C1) = some (.type "type"))
    (ev1 : PySem.W.subIn K (.ref C1) (.type "ValueError") = some true)
    (ea1 : PySem.W.findIn K (.ref C1) "__getattribute__" = some (some (.builtin "BaseException.__getattribute__")))
    (ec1 : PySem.W.findIn K (.ref C1) "__getattr__" = some none)
    (ed1 : PySem.W.hasDictIn K C1 = true)
    (ef1 : PySem.W.findIn K (.ref C1) "__class__" = some (some (.builtin "object.__class__")))
    (em1 : PySem.W.mroIn K C1 (.type "object") = some true)
    (eg2 : PySem.W.nsIn K mainGlobals "RangeError" = some (some (.ref C2)))
    (ek2 : PySem.W.keepIn K (.ref C2) = true)
    (ee2 : PySem.W.excIn K C2 [.type "ValueError", .type "Exception", .type "BaseException", .type "object"] "ValueError.__new__" = true)
    (eb2 : PySem.W.subIn K (.ref C2) (.type "BaseException") = some true)
    (et2 : PySem.W.typeIn K (.ref C2) = some (.type "type"))
    (ev2 : PySem.W.subIn K (.ref C2) (.type "ValueError") = some true)
    (ea2 : PySem.W.findIn K (.ref C2) "__getattribute__" = some (some (.builtin "BaseException.__getattribute__")))
    (ec2 : PySem.W.findIn K (.ref C2) "__getattr__" = some none)
    (ed2 : PySem.W.hasDictIn K C2 = true)
    (ef2 : PySem.W.findIn K (.ref C2) "__class__" = some (some (.builtin "object.__class__")))
    (em2 : PySem.W.mroIn K C2 (.type "object") = some true)
    (eg3 : PySem.W.nsIn K mainGlobals "TableError" = some (some (.ref C3)))
    (ek3 : PySem.W.keepIn K (.ref C3) = true)
    (ee3 : PySem.W.excIn K C3 [.type "ValueError", .type "Exception", .type "BaseException", .type "object"] "ValueError.__new__" = true)
    (eb3 : PySem.W.subIn K (.ref C3) (.type "BaseException") = some true)
    (et3 : PySem.W.typeIn K (.ref C3) = some (.type "type"))
    (ev3 : PySem.W.subIn K (.ref C3) (.type "ValueError") = some true)
    (ea3 : PySem.W.findIn K (.ref C3) "__getattribute__" = some (some (.builtin "BaseException.__getattribute__")))
    (ec3 : PySem.W.findIn K (.ref C3) "__getattr__" = some none)
    (ed3 : PySem.W.hasDictIn K C3 = true)
    (ef3 : PySem.W.findIn K (.ref C3) "__class__" = some (some (.builtin "object.__class__")))
    (em3 : PySem.W.mroIn K C3 (.type "object") = some true)
    (es_0_0 : PySem.W.subIn K (.ref C0) (.ref C0) = some true)
    (es_0_1 : PySem.W.subIn K (.ref C0) (.ref C1) = some false)
    (es_0_2 : PySem.W.subIn K (.ref C0) (.ref C2) = some false)
    (es_0_3 : PySem.W.subIn K (.ref C0) (.ref C3) = some false)
    (es_1_0 : PySem.W.subIn K (.ref C1) (.ref C0) = some true)
    (es_1_1 : PySem.W.subIn K (.ref C1) (.ref C1) = some true)
    (es_1_2 : PySem.W.subIn K (.ref C1) (.ref C2) = some false)
    (es_1_3 : PySem.W.subIn K (.ref C1) (.ref C3) = some false)
    (es_2_0 : PySem.W.subIn K (.ref C2) (.ref C0) = some true)
    (es_2_1 : PySem.W.subIn K (.ref C2) (.ref C1) = some false)
    (es_2_2 : PySem.W.subIn K (.ref C2) (.ref C2) = some true)
    (es_2_3 : PySem.W.subIn K (.ref C2) (.ref C3) = some false)
    (es_3_0 : PySem.W.subIn K (.ref C3) (.ref C0) = some true)
    (es_3_1 : PySem.W.subIn K (.ref C3) (.ref C1) = some false)
    (es_3_2 : PySem.W.subIn K (.ref C3) (.ref C2) = some false)
    (es_3_3 : PySem.W.subIn K (.ref C3) (.ref C3) = some true)
    (en : PySem.W.specialIn K (.builtin "object.__class__") "__get__" = some (some (.builtin "getset_descriptor.__get__"))) (eu : PySem.W.takesIn K (.builtin "object.__class__") = some true)
    : ∃ fd : FuncData, (∀ (s : Shared) (v : Value), BindsTo s fd ⟨[v], []⟩ [("script", v)]) ∧ ∀ base : Heap, K.In base → base.Ns mainGlobals mg → FnOk l.prog w K mg base (L2.CX l.prog w) 60 fa fd ["script"] (spO (callAt Dt Gt subt 60) K 26 1) := by
  have e := hfa.symm.trans (PySem.W.mg_of X G a26)
  cases e
  have F0 := fun_mk (st := s0) l0 c0 k0
  have F1 := fun_mk (st := s1) l1 c1 k1
  have F2 := fun_mk (st := s2) l2 c2 k2
  have F3 := fun_mk (st := s3) l3 c3 k3
  have F4 := fun_mk (st := s4) l4 c4 k4
  have F5 := fun_mk (st := s5) l5 c5 k5
  have F6 := fun_mk (st := s6) l6 c6 k6
  have F7 := fun_mk (st := s7) l7 c7 k7
  have F8 := fun_mk (st := s8) l8 c8 k8
  have F9 := fun_mk (st := s9) l9 c9 k9
  have F10 := fun_mk (st := s10) l10 c10 k10
  have F11 := fun_mk (st := s11) l11 c11 k11
  have F12 := fun_mk (st := s12) l12 c12 k12
  have F13 := fun_mk (st := s13) l13 c13 k13
  have F14 := fun_mk (st := s14) l14 c14 k14
  have F15 := fun_mk (st := s15) l15 c15 k15
  have F16 := fun_mk (st := s16) l16 c16 k16
  have F17 := fun_mk (st := s17) l17 c17 k17
  have F18 := fun_mk (st := s18) l18 c18 k18
  have F19 := fun_mk (st := s19) l19 c19 k19
  have F20 := fun_mk (st := s20) l20 c20 k20
  have F21 := fun_mk (st := s21) l21 c21 k21
  have F22 := fun_mk (st := s22) l22 c22 k22
  have F23 := fun_mk (st := s23) l23 c23 k23
  have F24 := fun_mk (st := s24) l24 c24 k24
  have F25 := fun_mk (st := s25) l25 c25 k25
  have F26 := fun_mk (st := s26) l26 c26 k26
  refine ⟨PySem.W.fnOf "law" "law" (defArgs s26) (defBody s26) (defScope s26) .none kV26 dc26 pm26 an26 cd26 ct26, fun s v => .of_eq rfl, fun base _ _ => ?_⟩
  have M : Mn mg := ⟨PySem.W.mg_none_of X G z_abs, PySem.W.mg_none_of X G z_bool, PySem.W.mg_none_of X G z_int, PySem.W.mg_none_of X G z_isinstance, PySem.W.mg_none_of X G z_len, PySem.W.mg_none_of X G z_list, PySem.W.mg_none_of X G z_max, PySem.W.mg_none_of X G z_min, PySem.W.mg_none_of X G z_range, PySem.W.mg_none_of X G z_tuple, PySem.W.mg_of X G y_gcd, ⟨_, PySem.W.mg_of X G x_FACTOR_LIMIT⟩, ⟨_, PySem.W.mg_of X G x_FEWEST_BITS⟩, ⟨_, PySem.W.mg_of X G x_MOST_BITS⟩, ⟨_, PySem.W.mg_of X G x_SHIFT_LIMIT⟩⟩
  have o0 : OwnC K mg "TensorError" C0 := ⟨PySem.W.mg_of X G eg0, ek0, ee0, eb0, et0, ev0, ⟨ea0, ec0, eb0, ed0, ef0, en, eu, em0⟩⟩
  have o1 : OwnC K mg "ZeroDenominator" C1 := ⟨PySem.W.mg_of X G eg1, ek1, ee1, eb1, et1, ev1, ⟨ea1, ec1, eb1, ed1, ef1, en, eu, em1⟩⟩
  have o2 : OwnC K mg "RangeError" C2 := ⟨PySem.W.mg_of X G eg2, ek2, ee2, eb2, et2, ev2, ⟨ea2, ec2, eb2, ed2, ef2, en, eu, em2⟩⟩
  have o3 : OwnC K mg "TableError" C3 := ⟨PySem.W.mg_of X G eg3, ek3, ee3, eb3, et3, ev3, ⟨ea3, ec3, eb3, ed3, ef3, en, eu, em3⟩⟩
  have Cc : Cn K mg C0 C1 C2 C3 := by
    refine ⟨o0, o1, o2, o3, ⟨fun c C hc => ?_, fun c C e D hc he => ?_, fun c C hc => ?_⟩⟩
    · -- the classes
      rcases c with _ | c
      · cases hc
        exact ⟨_, o0⟩
      rcases c with _ | c
      · cases hc
        exact ⟨_, o1⟩
      rcases c with _ | c
      · cases hc
        exact ⟨_, o2⟩
      rcases c with _ | c
      · cases hc
        exact ⟨_, o3⟩
      simp [clsOf] at hc
    · -- below
      rcases c with _ | c
      · cases hc
        rcases e with _ | e
        · cases he
          exact es_0_0
        rcases e with _ | e
        · cases he
          exact es_1_0
        rcases e with _ | e
        · cases he
          exact es_2_0
        rcases e with _ | e
        · cases he
          exact es_3_0
        simp [clsOf] at he
      rcases c with _ | c
      · cases hc
        rcases e with _ | e
        · cases he
          exact es_0_1
        rcases e with _ | e
        · cases he
          exact es_1_1
        rcases e with _ | e
        · cases he
          exact es_2_1
        rcases e with _ | e
        · cases he
          exact es_3_1
        simp [clsOf] at he
      rcases c with _ | c
      · cases hc
        rcases e with _ | e
        · cases he
          exact es_0_2
        rcases e with _ | e
        · cases he
          exact es_1_2
        rcases e with _ | e
        · cases he
          exact es_2_2
        rcases e with _ | e
        · cases he
          exact es_3_2
        simp [clsOf] at he
      rcases c with _ | c
      · cases hc
        rcases e with _ | e
        · cases he
          exact es_0_3
        rcases e with _ | e
        · cases he
          exact es_1_3
        rcases e with _ | e
        · cases he
          exact es_2_3
        rcases e with _ | e
        · cases he
          exact es_3_3
        simp [clsOf] at he
      simp [clsOf] at hc
    · -- the same
      rcases c with _ | c
      · cases hc
        rfl
      rcases c with _ | c
      · cases hc
        rfl
      rcases c with _ | c
      · cases hc
        rfl
      rcases c with _ | c
      · cases hc
        rfl
      simp [clsOf] at hc
  have F := all_fs (P := l.prog) (w := w) (base := base) (C0 := C0) (C1 := C1) (C2 := C2) (C3 := C3) M Cc F0 (PySem.W.mg_of X G a0) F1 (PySem.W.mg_of X G a1) F2 (PySem.W.mg_of X G a2) F3 (PySem.W.mg_of X G a3) F4 (PySem.W.mg_of X G a4) F5 (PySem.W.mg_of X G a5) F6 (PySem.W.mg_of X G a6) F7 (PySem.W.mg_of X G a7) F8 (PySem.W.mg_of X G a8) F9 (PySem.W.mg_of X G a9) F10 (PySem.W.mg_of X G a10) F11 (PySem.W.mg_of X G a11) F12 (PySem.W.mg_of X G a12) F13 (PySem.W.mg_of X G a13) F14 (PySem.W.mg_of X G a14) F15 (PySem.W.mg_of X G a15) F16 (PySem.W.mg_of X G a16) F17 (PySem.W.mg_of X G a17) F18 (PySem.W.mg_of X G a18) F19 (PySem.W.mg_of X G a19) F20 (PySem.W.mg_of X G a20) F21 (PySem.W.mg_of X G a21) F22 (PySem.W.mg_of X G a22) F23 (PySem.W.mg_of X G a23) F24 (PySem.W.mg_of X G a24) F25 (PySem.W.mg_of X G a25) F26 (PySem.W.mg_of X G a26) 60
  exact F.f26.fn.imp (spO_spC (T := Tk (clsOf [C0, C1, C2, C3]) 60))
end Lw
end PtLk62D
section PtLk62M
set_option Elab.async false
set_option linter.all false
set_option maxRecDepth 100000
namespace Lw
open PySem Ip
/-- the reader of a script stands at d -/
def Dr (s : Store) (d : Nat) : Prop := ∃ l ns i cur seed, s[d]? = some (.lst [.ref l, .int i, .int cur, .int seed]) ∧ s[l]? = some (.lst (List.map DV.int ns)) ∧ 0 ≤ i ∧ 0 ≤ cur ∧ l < d
theorem get4_0 {α : Type} {a b c d : α} : [a, b, c, d][0]? = some a := rfl
theorem get4_1 {α : Type} {a b c d : α} : [a, b, c, d][1]? = some b := rfl
theorem get4_2 {α : Type} {a b c d : α} : [a, b, c, d][2]? = some c := rfl
theorem get4_3 {α : Type} {a b c d : α} : [a, b, c, d][3]? = some d := rfl
theorem call_take {k a b s} : callAt Dt Gt subt (k + 1) 11 [a, b] s = (evSs (callAt Dt Gt subt k) Gt subt b11 [some a, some b, none, none] s).fin := rfl
theorem set_two {s : Store} {n : Nat} {a b : Cell} : (s.set n a).set n b = s.set n b := List.set_set a
section
variable {k : Nat} {s : Store} {d l : Nat} {ns : List Int} {i cur seed many : Int}
theorem take_C (hd : s[d]? = some (.lst [.ref l, .int i, .int 0, .int seed])) (hl : s[l]? = some (.lst (List.map DV.int ns))) (hi : ¬ i < ns.length) (hm : 0 < many) :
    callAt Dt Gt subt (k + 1) 11 [.ref d, .int many] s = .ok (.int ((seed * 48271 + 11) % 2147483647 / 3 % many)) (s.set d (.lst [.ref l, .int i, .int 0, .int ((seed * 48271 + 11) % 2147483647)])) := by
  have c0 := cellL_of hd
  have c1 := cellL_of hl
  have e1 : decide (i < ((List.map DV.int ns).length : Int)) = false := by rw [List.length_map]; exact decide_eq_false hi
  have e2 := mulOk_r (i := seed) (j := 48271) (by decide)
  have d1 : ∀ c, cellL (s.set d (.lst c)) d = some c := fun c => cellL_of (get_set hd)
  simp -implicitDefEqProofs -dsimp only [↓bind_K, ↓out_K, ↓then_K, ↓optR_K, ↓cond_K, ↓forL_K, ↓lcL_K, ↓whileL_K, ↓catch_K, ↓catchK_nx, ↓catchK_rt, ↓catchK_exc, unset_rt, hush_rt, hush_nx, hush_ct, fin_exc, ↓bindK_ok, ↓outK_ok, ↓bindK_exc, ↓outK_exc, ↓thenK_nx, ↓thenK_rt, ↓thenK_exc, ↓thenK_bk, ↓thenK_ct, ↓optRK_some, ↓quiet_ok, ↓condK_t, ↓condK_f, ↓truth_bl, qE_slot, qE_isx, qE_k, qE_glob, qE_bin, qE_neg, qE_not, qE_and, qE_or, qE_cmp, qE_chain, qE_ife, qE_ix, qE_slc, qE_rev, qE_tup, qE_lst, qE_call, qE_bi, qE_isi, qE_meth, qE_lc, qE_smeth, qE_get2, qEs_nil, qEs_cons, qAll_nil, qAll_cons, qO_no, qO_some, qI_seq, qI_range1, qI_range2, qI_range3, qI_zip, qI_enum, qI_rev, qT_name, qT_tup, qT_sub, qTs_nil, qTs_cons, qS_asg, qS_par, qS_aug, qS_ife, qS_for, qS_while, qS_ret, qS_retN, qS_drop, qS_pass, qS_brk, qS_cont, qS_raise, qS_try, qS_pick, qSs_nil, qSs_cons, dv_int, dv_bl, dv_str, dv_non, List.getElem?_cons_zero, List.getElem?_cons_succ, List.set_cons_zero, List.set_cons_succ, List.length_cons, List.length_nil, Nat.reduceAdd, Nat.reduceLT, if_true, fin_rt, fin_nx, at_0, at_1, at_2, at_3, itemV_ref, itemV_tup, cmp_eq_int, cmp_ne_int, cmp_lt_int, cmp_le_int, cmp_gt_int, cmp_ge_int, bin_add, bin_sub, bi_int_int, call_take, b11, c0, c1, beq_self_eq_true, biV, e1, bin_mul e2, bin_mod (show (0 : Int) < 2147483647 by decide), bin_mod hm, bin_fdiv (show (0 : Int) < 3 by decide) (by decide), (setV_4 hd).2.2, d1, show decide ((0 : Int) < 0) = false from rfl]
theorem take_B (hd : s[d]? = some (.lst [.ref l, .int i, .int cur, .int seed])) (hc : 0 < cur) (hm : 0 < many) (hb : many.natAbs.log2 < 9000) :
    callAt Dt Gt subt (k + 1) 11 [.ref d, .int many] s = .ok (.int (cur % many)) (s.set d (.lst [.ref l, .int i, .int (cur / many), .int seed])) := by
  have c0 := cellL_of hd
  have e1 : (cur == 0) = false := beq_eq_false_iff_ne.mpr (by omega)
  have e2 : decide (0 < cur) = true := decide_eq_true hc
  simp -implicitDefEqProofs -dsimp only [↓bind_K, ↓out_K, ↓then_K, ↓optR_K, ↓cond_K, ↓forL_K, ↓lcL_K, ↓whileL_K, ↓catch_K, ↓catchK_nx, ↓catchK_rt, ↓catchK_exc, unset_rt, hush_rt, hush_nx, hush_ct, fin_exc, ↓bindK_ok, ↓outK_ok, ↓bindK_exc, ↓outK_exc, ↓thenK_nx, ↓thenK_rt, ↓thenK_exc, ↓thenK_bk, ↓thenK_ct, ↓optRK_some, ↓quiet_ok, ↓condK_t, ↓condK_f, ↓truth_bl, qE_slot, qE_isx, qE_k, qE_glob, qE_bin, qE_neg, qE_not, qE_and, qE_or, qE_cmp, qE_chain, qE_ife, qE_ix, qE_slc, qE_rev, qE_tup, qE_lst, qE_call, qE_bi, qE_isi, qE_meth, qE_lc, qE_smeth, qE_get2, qEs_nil, qEs_cons, qAll_nil, qAll_cons, qO_no, qO_some, qI_seq, qI_range1, qI_range2, qI_range3, qI_zip, qI_enum, qI_rev, qT_name, qT_tup, qT_sub, qTs_nil, qTs_cons, qS_asg, qS_par, qS_aug, qS_ife, qS_for, qS_while, qS_ret, qS_retN, qS_drop, qS_pass, qS_brk, qS_cont, qS_raise, qS_try, qS_pick, qSs_nil, qSs_cons, dv_int, dv_bl, dv_str, dv_non, List.getElem?_cons_zero, List.getElem?_cons_succ, List.set_cons_zero, List.set_cons_succ, List.length_cons, List.length_nil, Nat.reduceAdd, Nat.reduceLT, if_true, fin_rt, fin_nx, at_0, at_1, at_2, at_3, itemV_ref, itemV_tup, cmp_eq_int, cmp_ne_int, cmp_lt_int, cmp_le_int, cmp_gt_int, cmp_ge_int, bin_add, bin_sub, bi_int_int, call_take, b11, c0, biV, e1, e2, bin_mod hm, bin_fdiv hm hb, (setV_4 hd).2.1]
theorem pow18 {s : Store} : binV .pow (.int 10) (.int 18) s = .ok (.int 1000000000000000000) s := by
  simp only [binV, binI]
  rw [if_pos (by decide)]
  rfl
theorem atI_ints {j : Nat} {v : Int} (h : ns[j]? = some v) : L2.atI (List.map DV.int ns) (j : Int) = some (.int v) := by
  refine L2.atI_nat ?_
  rw [List.getElem?_map, h]
  rfl
theorem take_A (hd : s[d]? = some (.lst [.ref l, .int i, .int 0, .int seed])) (hl : s[l]? = some (.lst (List.map DV.int ns))) (hne : l ≠ d) {j : Nat} {v : Int} (hj : ns[j]? = some v) (hi : i = (j : Int)) (hm : 0 < many) (hb : many.natAbs.log2 < 9000) :
    ∃ r c, callAt Dt Gt subt (k + 1) 11 [.ref d, .int many] s = .ok (.int r) (s.set d (.lst [.ref l, .int (i + 1), .int c, .int seed])) ∧ 0 ≤ r ∧ r < many ∧ 0 ≤ c := by
  have c0 := cellL_of hd
  have c1 := cellL_of hl
  have hlt := lt_of_get hj
  have e1 : decide (i < ((List.map DV.int ns).length : Int)) = true := by rw [List.length_map]; exact decide_eq_true (by omega)
  have d1 : ∀ c, cellL (s.set d (.lst c)) d = some c := fun c => cellL_of (get_set hd)
  have g1 : ∀ c, (s.set d (.lst c))[d]? = some (.lst c) := fun c => get_set hd
  have a1 : L2.atI (List.map DV.int ns) i = some (.int v) := by rw [hi]; exact atI_ints hj
  obtain ⟨x, ex⟩ : ∃ x, x = (if v < 0 then -v else v) := ⟨_, rfl⟩
  have v0 : 0 ≤ x := by rw [ex]; split <;> omega
  have ab : ∀ s, biV .abs [.int v] s = .ok (.int x) s := fun _ => by rw [ex]; rfl
  have s1 := (setV_4 (v := .int x) hd).2.1
  have s2 := (setV_4 (v := .int (i + 1)) (g1 [.ref l, .int i, .int x, .int seed])).1
  have s3 : setV (.ref d) (.int 2) (.int 0) (s.set d (.lst [.ref l, .int (i + 1), .int x, .int seed])) = some (s.set d (.lst [.ref l, .int (i + 1), .int 0, .int seed])) := by rw [(setV_4 (g1 _)).2.1, set_two]
  have s4 : setV (.ref d) (.int 2) (.int (x / many)) (s.set d (.lst [.ref l, .int (i + 1), .int x, .int seed])) = some (s.set d (.lst [.ref l, .int (i + 1), .int (x / many), .int seed])) := by rw [(setV_4 (g1 _)).2.1, set_two]
  rw [set_two] at s2
  clear ex
  by_cases hx : x < 1000000000000000000
  · have e2 : decide (x < 1000000000000000000) = true := decide_eq_true hx
    refine ⟨x % many, 0, ?_, Int.emod_nonneg _ (by omega), Int.emod_lt_of_pos _ hm, Int.le_refl 0⟩
    simp -implicitDefEqProofs -dsimp only [↓bind_K, ↓out_K, ↓then_K, ↓optR_K, ↓cond_K, ↓forL_K, ↓lcL_K, ↓whileL_K, ↓catch_K, ↓catchK_nx, ↓catchK_rt, ↓catchK_exc, unset_rt, hush_rt, hush_nx, hush_ct, fin_exc, ↓bindK_ok, ↓outK_ok, ↓bindK_exc, ↓outK_exc, ↓thenK_nx, ↓thenK_rt, ↓thenK_exc, ↓thenK_bk, ↓thenK_ct, ↓optRK_some, ↓quiet_ok, ↓condK_t, ↓condK_f, ↓truth_bl, qE_slot, qE_isx, qE_k, qE_glob, qE_bin, qE_neg, qE_not, qE_and, qE_or, qE_cmp, qE_chain, qE_ife, qE_ix, qE_slc, qE_rev, qE_tup, qE_lst, qE_call, qE_bi, qE_isi, qE_meth, qE_lc, qE_smeth, qE_get2, qEs_nil, qEs_cons, qAll_nil, qAll_cons, qO_no, qO_some, qI_seq, qI_range1, qI_range2, qI_range3, qI_zip, qI_enum, qI_rev, qT_name, qT_tup, qT_sub, qTs_nil, qTs_cons, qS_asg, qS_par, qS_aug, qS_ife, qS_for, qS_while, qS_ret, qS_retN, qS_drop, qS_pass, qS_brk, qS_cont, qS_raise, qS_try, qS_pick, qSs_nil, qSs_cons, dv_int, dv_bl, dv_str, dv_non, List.getElem?_cons_zero, List.getElem?_cons_succ, List.set_cons_zero, List.set_cons_succ, List.length_cons, List.length_nil, Nat.reduceAdd, Nat.reduceLT, if_true, fin_rt, fin_nx, at_0, at_1, at_2, at_3, itemV_ref, itemV_tup, cmp_eq_int, cmp_ne_int, cmp_lt_int, cmp_le_int, cmp_gt_int, cmp_ge_int, bin_add, bin_sub, bi_int_int, call_take, b11, c0, c1, len_ref c1, a1, ab, e1, e2, pow18, beq_self_eq_true, bin_mod hm, s1, s2, s3, d1]
  · have e2 : decide (x < 1000000000000000000) = false := decide_eq_false hx
    have e3 : decide (0 < x) = true := decide_eq_true (by omega)
    refine ⟨x % many, x / many, ?_, Int.emod_nonneg _ (by omega), Int.emod_lt_of_pos _ hm, Int.ediv_nonneg v0 (by omega)⟩
    simp -implicitDefEqProofs -dsimp only [↓bind_K, ↓out_K, ↓then_K, ↓optR_K, ↓cond_K, ↓forL_K, ↓lcL_K, ↓whileL_K, ↓catch_K, ↓catchK_nx, ↓catchK_rt, ↓catchK_exc, unset_rt, hush_rt, hush_nx, hush_ct, fin_exc, ↓bindK_ok, ↓outK_ok, ↓bindK_exc, ↓outK_exc, ↓thenK_nx, ↓thenK_rt, ↓thenK_exc, ↓thenK_bk, ↓thenK_ct, ↓optRK_some, ↓quiet_ok, ↓condK_t, ↓condK_f, ↓truth_bl, qE_slot, qE_isx, qE_k, qE_glob, qE_bin, qE_neg, qE_not, qE_and, qE_or, qE_cmp, qE_chain, qE_ife, qE_ix, qE_slc, qE_rev, qE_tup, qE_lst, qE_call, qE_bi, qE_isi, qE_meth, qE_lc, qE_smeth, qE_get2, qEs_nil, qEs_cons, qAll_nil, qAll_cons, qO_no, qO_some, qI_seq, qI_range1, qI_range2, qI_range3, qI_zip, qI_enum, qI_rev, qT_name, qT_tup, qT_sub, qTs_nil, qTs_cons, qS_asg, qS_par, qS_aug, qS_ife, qS_for, qS_while, qS_ret, qS_retN, qS_drop, qS_pass, qS_brk, qS_cont, qS_raise, qS_try, qS_pick, qSs_nil, qSs_cons, dv_int, dv_bl, dv_str, dv_non, List.getElem?_cons_zero, List.getElem?_cons_succ, List.set_cons_zero, List.set_cons_succ, List.length_cons, List.length_nil, Nat.reduceAdd, Nat.reduceLT, if_true, fin_rt, fin_nx, at_0, at_1, at_2, at_3, itemV_ref, itemV_tup, cmp_eq_int, cmp_ne_int, cmp_lt_int, cmp_le_int, cmp_gt_int, cmp_ge_int, bin_add, bin_sub, bi_int_int, call_take, b11, c0, c1, len_ref c1, a1, ab, e1, e2, e3, pow18, beq_self_eq_true, bin_mod hm, bin_fdiv hm hb, s1, s2, s4, d1]
theorem Dr.set (hd : s[d]? = some (.lst [.ref l, .int i, .int cur, .int seed])) (hl : s[l]? = some (.lst (List.map DV.int ns))) (hne : l < d) {i' cur' seed' : Int} (h1 : 0 ≤ i') (h2 : 0 ≤ cur') :
    Dr (s.set d (.lst [.ref l, .int i', .int cur', .int seed'])) d := ⟨l, ns, i', cur', seed', get_set hd, by rw [get_set_ne (by omega)]; exact hl, h1, h2, hne⟩
/-- a draw: some number below many; nothing but the reader changes -/
theorem take_ok (h : Dr s d) (hm : 0 < many) (hb : many.natAbs.log2 < 9000) :
    ∃ r s', callAt Dt Gt subt (k + 1) 11 [.ref d, .int many] s = .ok (.int r) s' ∧ 0 ≤ r ∧ r < many ∧ Dr s' d ∧ (∀ n, n ≠ d → s'[n]? = s[n]?) ∧ s'.length = s.length := by
  obtain ⟨l, ns, i, cur, seed, hd, hl, hi, hc, hne⟩ := h
  have rest : ∀ c, (∀ n, n ≠ d → (s.set d c)[n]? = s[n]?) ∧ (s.set d c).length = s.length := fun c => ⟨fun n hn => get_set_ne (Ne.symm hn), List.length_set⟩
  by_cases h0 : cur = 0
  · subst h0
    by_cases hlt : i < ns.length
    · obtain ⟨j, hj⟩ : ∃ j : Nat, i = (j : Int) := ⟨i.toNat, by omega⟩
      have hj2 : j < ns.length := by omega
      obtain ⟨r, c, h1, h2, h3, h4⟩ := take_A (k := k) hd hl (Nat.ne_of_lt hne) (List.getElem?_eq_getElem hj2) hj hm hb
      exact ⟨r, _, h1, h2, h3, Dr.set hd hl hne (by omega) h4, (rest _).1, (rest _).2⟩
    · exact ⟨_, _, take_C hd hl hlt hm, Int.emod_nonneg _ (by omega), Int.emod_lt_of_pos _ hm, Dr.set hd hl hne hi (Int.le_refl 0), (rest _).1, (rest _).2⟩
  · exact ⟨_, _, take_B hd (by omega) hm hb, Int.emod_nonneg _ (by omega), Int.emod_lt_of_pos _ hm, Dr.set hd hl hne hi (Int.ediv_nonneg hc (by omega)), (rest _).1, (rest _).2⟩
theorem Dr.keep {s' : Store} (h : Dr s d) (hs : ∀ n, n ≤ d → s'[n]? = s[n]?) : Dr s' d := by
  obtain ⟨l, ns, i, cur, seed, hd, hl, hi, hc, hne⟩ := h
  exact ⟨l, ns, i, cur, seed, by rw [hs _ (Nat.le_refl _)]; exact hd, by rw [hs _ (Nat.le_of_lt hne)]; exact hl, hi, hc, hne⟩
theorem call_begin {k a s} : callAt Dt Gt subt (k + 1) 10 [a] s = (evSs (callAt Dt Gt subt k) Gt subt b10 [some a, none, none] s).fin := rfl
/-- the reader is made -/
theorem begin_ok {ns : List Int} : ∃ seed, callAt Dt Gt subt (k + 1) 10 [.ref 0] [.frz (ns.map DV.int)] = .ok (.ref 2) [.frz (ns.map DV.int), .lst (ns.map DV.int), .lst [.ref 1, .int 0, .int 0, .int seed]] := by
  have c0 : cellL [.frz (ns.map DV.int)] 0 = some (ns.map DV.int) := rfl
  have key := for_word (f := .cell 0 (ns.map DV.int)) (body := fun x r s => (evT (callAt Dt Gt subt k) Gt subt (.name 2) x r s).out r fun r s => evSs (callAt Dt Gt subt k) Gt subt b10l0 r s) (all := ns.map DV.int) (r := [some (.ref 0), some (.int 1), none]) (s := [.frz (ns.map DV.int)])
    (fun _ r s => s = [.frz (ns.map DV.int)] ∧ ∃ v w, r = [some (.ref 0), some (.int v), w]) ⟨rfl, 1, none, rfl⟩ (fun d r s h => by rw [h.1]; exact c0)
    (fun d x e r s he h => by
      obtain ⟨rfl, v, w, rfl⟩ := h
      have hx : x ∈ ns.map DV.int := by rw [he]; simp
      obtain ⟨n, _, rfl⟩ := List.mem_map.mp hx
      refine ⟨[some (.ref 0), some (.int ((v * 69621 + n % 2147483629 + 7) % 2147483647)), some (.int n)], _, .inl ?_, rfl, _, _, rfl⟩
      simp -implicitDefEqProofs -dsimp only [↓bind_K, ↓out_K, ↓then_K, ↓optR_K, ↓cond_K, ↓forL_K, ↓lcL_K, ↓whileL_K, ↓catch_K, ↓catchK_nx, ↓catchK_rt, ↓catchK_exc, unset_rt, hush_rt, hush_nx, hush_ct, fin_exc, ↓bindK_ok, ↓outK_ok, ↓bindK_exc, ↓outK_exc, ↓thenK_nx, ↓thenK_rt, ↓thenK_exc, ↓thenK_bk, ↓thenK_ct, ↓optRK_some, ↓quiet_ok, ↓condK_t, ↓condK_f, ↓truth_bl, qE_slot, qE_isx, qE_k, qE_glob, qE_bin, qE_neg, qE_not, qE_and, qE_or, qE_cmp, qE_chain, qE_ife, qE_ix, qE_slc, qE_rev, qE_tup, qE_lst, qE_call, qE_bi, qE_isi, qE_meth, qE_lc, qE_smeth, qE_get2, qEs_nil, qEs_cons, qAll_nil, qAll_cons, qO_no, qO_some, qI_seq, qI_range1, qI_range2, qI_range3, qI_zip, qI_enum, qI_rev, qT_name, qT_tup, qT_sub, qTs_nil, qTs_cons, qS_asg, qS_par, qS_aug, qS_ife, qS_for, qS_while, qS_ret, qS_retN, qS_drop, qS_pass, qS_brk, qS_cont, qS_raise, qS_try, qS_pick, qSs_nil, qSs_cons, dv_int, dv_bl, dv_str, dv_non, List.getElem?_cons_zero, List.getElem?_cons_succ, List.set_cons_zero, List.set_cons_succ, List.length_cons, List.length_nil, Nat.reduceAdd, Nat.reduceLT, if_true, fin_rt, fin_nx, at_0, at_1, at_2, at_3, itemV_ref, itemV_tup, cmp_eq_int, cmp_ne_int, cmp_lt_int, cmp_le_int, cmp_gt_int, cmp_ge_int, bin_add, bin_sub, bi_int_int, b10l0, bin_mul (mulOk_r (j := 69621) (by decide)), bin_mod (show (0 : Int) < 2147483629 by decide), bin_mod (show (0 : Int) < 2147483647 by decide)])
  obtain ⟨r', s', h1, rfl, v, w, rfl⟩ := key
  refine ⟨v, ?_⟩
  have h2 : evS (callAt Dt Gt subt k) Gt subt (.for_ (.name 2) (.seq (.slot 0)) b10l0) [some (.ref 0), some (.int 1), none] [.frz (ns.map DV.int)] = _ := evS_for (by
    simp only [evI, evE, List.getElem?_cons_zero, bind_ok, c0]
    ) h1
  simp -implicitDefEqProofs -dsimp only [↓bind_K, ↓out_K, ↓then_K, ↓optR_K, ↓cond_K, ↓forL_K, ↓lcL_K, ↓whileL_K, ↓catch_K, ↓catchK_nx, ↓catchK_rt, ↓catchK_exc, unset_rt, hush_rt, hush_nx, hush_ct, fin_exc, ↓bindK_ok, ↓outK_ok, ↓bindK_exc, ↓outK_exc, ↓thenK_nx, ↓thenK_rt, ↓thenK_exc, ↓thenK_bk, ↓thenK_ct, ↓optRK_some, ↓quiet_ok, ↓condK_t, ↓condK_f, ↓truth_bl, qE_slot, qE_isx, qE_k, qE_glob, qE_bin, qE_neg, qE_not, qE_and, qE_or, qE_cmp, qE_chain, qE_ife, qE_ix, qE_slc, qE_rev, qE_tup, qE_lst, qE_call, qE_bi, qE_isi, qE_meth, qE_lc, qE_smeth, qE_get2, qEs_nil, qEs_cons, qAll_nil, qAll_cons, qO_no, qO_some, qI_seq, qI_range1, qI_range2, qI_range3, qI_zip, qI_enum, qI_rev, qT_name, qT_tup, qT_sub, qTs_nil, qTs_cons, qS_asg, qS_par, qS_aug, qS_ife, qS_for, qS_while, qS_ret, qS_retN, qS_drop, qS_pass, qS_brk, qS_cont, qS_raise, qS_try, qS_pick, qSs_nil, qSs_cons, dv_int, dv_bl, dv_str, dv_non, List.getElem?_cons_zero, List.getElem?_cons_succ, List.set_cons_zero, List.set_cons_succ, List.length_cons, List.length_nil, Nat.reduceAdd, Nat.reduceLT, if_true, fin_rt, fin_nx, at_0, at_1, at_2, at_3, itemV_ref, itemV_tup, cmp_eq_int, cmp_ne_int, cmp_lt_int, cmp_le_int, cmp_gt_int, cmp_ge_int, bin_add, bin_sub, bi_int_int, call_begin, b10, ↓h2, biV, show ((4 : Nat) ≤ sizeLine) = True from eq_true (by decide), c0]
  rfl
end
/-! ### sizes -/
def Sm (n : Nat) (x : Int) : Prop := x.natAbs < 2 ^ n
theorem Sm.mono {n m : Nat} {x : Int} (h : Sm n x) (hm : n ≤ m) : Sm m x := Nat.lt_of_lt_of_le h (Nat.pow_le_pow_right (by decide) hm)
theorem Sm.mul {n m : Nat} {x y : Int} (h : Sm n x) (h2 : Sm m y) : Sm (n + m) (x * y) := by
  unfold Sm at *
  rw [Int.natAbs_mul, Nat.pow_add]
  exact Nat.mul_lt_mul'' h h2
theorem Sm.add {n : Nat} {x y : Int} (h : Sm n x) (h2 : Sm n y) : Sm (n + 1) (x + y) := by
  unfold Sm at *
  rw [Nat.pow_succ]
  omega
theorem Sm.neg {n : Nat} {x : Int} (h : Sm n x) : Sm n (-x) := by
  unfold Sm at *
  omega
theorem Sm.sub {n : Nat} {x y : Int} (h : Sm n x) (h2 : Sm n y) : Sm (n + 1) (x - y) := by
  rw [Int.sub_eq_add_neg]
  exact h.add h2.neg
theorem Sm.le {n : Nat} {x y : Int} (h : Sm n x) (h2 : y.natAbs ≤ x.natAbs) : Sm n y := Nat.lt_of_le_of_lt h2 h
theorem log2_lt {n m : Nat} (h : n < 2 ^ m) (hm : 0 < m) : n.log2 < m := by
  by_cases h0 : n = 0
  · subst h0
    exact hm
  · exact (Nat.log2_lt h0).mpr h
theorem Sm.log2 {n : Nat} {x : Int} (h : Sm n x) (hn : 0 < n) : x.natAbs.log2 < n := log2_lt h hn
theorem Sm.mulOk {n m : Nat} {x y : Int} (h : Sm n x) (h2 : Sm m y) (h0 : 0 < n) (h1 : 0 < m) (hs : n + m ≤ 1000000) : mulOk x y = true := by
  have := h.log2 h0
  have := h2.log2 h1
  unfold Ip.mulOk
  rw [Bool.or_eq_true]
  exact .inr (decide_eq_true (by omega))
/-! ### fractions -/
def gI (n d : Int) : Int := ((Nat.gcd n.natAbs d.natAbs : Nat) : Int)
def dv (n d : Int) : Int := if d < 0 then -gI n d else gI n d
def top (n d : Int) : Int := if d < 0 then -(n / gI n d) else n / gI n d
def bot (n d : Int) : Int := if d < 0 then -(d / gI n d) else d / gI n d
theorem gI_pos {n d : Int} (h : d ≠ 0) : 0 < gI n d := by
  have : 0 < Nat.gcd n.natAbs d.natAbs := Nat.gcd_pos_of_pos_right _ (by omega)
  unfold gI
  omega
theorem gI_dvd_l (n d : Int) : gI n d ∣ n := Int.ofNat_dvd_left.mpr (Nat.gcd_dvd_left _ _)
theorem gI_dvd_r (n d : Int) : gI n d ∣ d := Int.ofNat_dvd_left.mpr (Nat.gcd_dvd_right _ _)
theorem fdiv_negE {a g : Int} (hg : 0 < g) (h : g ∣ a) : a.fdiv (-g) = -(a / g) := by
  obtain ⟨k, rfl⟩ := h
  rw [Int.mul_ediv_cancel_left _ (by omega)]
  have : g * k = (-g) * (-k) := by rw [Int.neg_mul_neg]
  rw [this, Int.mul_fdiv_cancel_left _ (by omega)]
theorem mul_top {n d : Int} (h : d ≠ 0) : top n d * d = n * bot n d := by
  have hg := gI_pos (n := n) h
  obtain ⟨k, hk⟩ := gI_dvd_l n d
  obtain ⟨m, hm⟩ := gI_dvd_r n d
  have e1 : n / gI n d = k := Int.ediv_eq_of_eq_mul_right (by omega) hk
  have e2 : d / gI n d = m := Int.ediv_eq_of_eq_mul_right (by omega) hm
  unfold top bot
  rw [e1, e2]
  generalize hG : gI n d = G at *
  split
  · rw [Int.neg_mul, Int.mul_neg]
    have : k * d = n * m := by
      rw [hm, hk, ← Int.mul_assoc, Int.mul_comm k G]
    rw [this]
  · rw [hm, hk, ← Int.mul_assoc, Int.mul_comm k G]
theorem bot_pos {n d : Int} (h : d ≠ 0) : 0 < bot n d := by
  have hg := gI_pos (n := n) h
  obtain ⟨m, hm⟩ := gI_dvd_r n d
  have e2 : d / gI n d = m := Int.ediv_eq_of_eq_mul_right (by omega) hm
  unfold bot
  rw [e2]
  split
  · rename_i h0
    by_cases q : m < 0
    · omega
    · have := Int.mul_nonneg (Int.le_of_lt hg) (show 0 ≤ m by omega)
      omega
  · rename_i h0
    by_cases q : 0 < m
    · exact q
    · have : gI n d * m ≤ 0 := by
        have := Int.mul_nonneg (Int.le_of_lt hg) (show 0 ≤ -m by omega)
        rw [Int.mul_neg] at this
        omega
      omega
theorem gcd_bot {n d : Int} (h : d ≠ 0) : Nat.gcd (top n d).natAbs (bot n d).natAbs = 1 := by
  have hp : 0 < Nat.gcd n.natAbs d.natAbs := Nat.gcd_pos_of_pos_right _ (by omega)
  have e1 : (top n d).natAbs = n.natAbs / Nat.gcd n.natAbs d.natAbs := by
    have : (n / gI n d).natAbs = n.natAbs / Nat.gcd n.natAbs d.natAbs := by
      rw [Int.natAbs_ediv_of_dvd (gI_dvd_l n d)]
      rfl
    unfold top
    split
    · rw [Int.natAbs_neg]
      exact this
    · exact this
  have e2 : (bot n d).natAbs = d.natAbs / Nat.gcd n.natAbs d.natAbs := by
    have : (d / gI n d).natAbs = d.natAbs / Nat.gcd n.natAbs d.natAbs := by
      rw [Int.natAbs_ediv_of_dvd (gI_dvd_r n d)]
      rfl
    unfold bot
    split
    · rw [Int.natAbs_neg]
      exact this
    · exact this
  rw [e1, e2]
  rw [Nat.gcd_div (Nat.gcd_dvd_left _ _) (Nat.gcd_dvd_right _ _)]
  exact Nat.div_self hp
theorem top_le {n d : Int} (h : d ≠ 0) : (top n d).natAbs ≤ n.natAbs := by
  have : (n / gI n d).natAbs ≤ n.natAbs := by
    rw [Int.natAbs_ediv_of_dvd (gI_dvd_l n d)]
    exact Nat.div_le_self _ _
  unfold top
  split
  · rw [Int.natAbs_neg]
    exact this
  · exact this
theorem bot_le {n d : Int} (h : d ≠ 0) : (bot n d).natAbs ≤ d.natAbs := by
  have : (d / gI n d).natAbs ≤ d.natAbs := by
    rw [Int.natAbs_ediv_of_dvd (gI_dvd_r n d)]
    exact Nat.div_le_self _ _
  unfold bot
  split
  · rw [Int.natAbs_neg]
    exact this
  · exact this
/-! ### the divisor by turns -/
theorem half_mod {a b : Nat} (h : 0 < a % b) (hb : 0 < b) : 2 * (b % (a % b)) < b := by
  have h1 := Nat.mod_lt a hb
  have h2 := Nat.mod_lt b h
  have h3 : b % (a % b) ≤ b - a % b := by
    rw [Nat.mod_eq_sub_mod (Nat.le_of_lt h1)]
    exact Nat.mod_le _ _
  omega

/-! ### the runs -/
section
variable {k : Nat} {s : Store}
theorem call_0 {x0 x1 x2 : DV} : callAt Dt Gt subt (k + 1) 0 [x0, x1, x2] s = (evSs (callAt Dt Gt subt k) Gt subt b0 [some x0, some x1, some x2] s).fin := rfl
theorem call_1 {x0 x1 : DV} : callAt Dt Gt subt (k + 1) 1 [x0, x1] s = (evSs (callAt Dt Gt subt k) Gt subt b1 [some x0, some x1, none] s).fin := rfl
theorem call_2 {x0 x1 : DV} : callAt Dt Gt subt (k + 1) 2 [x0, x1] s = (evSs (callAt Dt Gt subt k) Gt subt b2 [some x0, some x1] s).fin := rfl
theorem call_3 {x0 x1 : DV} : callAt Dt Gt subt (k + 1) 3 [x0, x1] s = (evSs (callAt Dt Gt subt k) Gt subt b3 [some x0, some x1] s).fin := rfl
theorem call_4 {x0 : DV} : callAt Dt Gt subt (k + 1) 4 [x0] s = (evSs (callAt Dt Gt subt k) Gt subt b4 [some x0] s).fin := rfl
theorem call_5 {x0 : DV} : callAt Dt Gt subt (k + 1) 5 [x0] s = (evSs (callAt Dt Gt subt k) Gt subt b5 [some x0, none, none] s).fin := rfl
theorem call_6 {x0 : DV} : callAt Dt Gt subt (k + 1) 6 [x0] s = (evSs (callAt Dt Gt subt k) Gt subt b6 [some x0] s).fin := rfl
theorem call_7 {x0 : DV} : callAt Dt Gt subt (k + 1) 7 [x0] s = (evSs (callAt Dt Gt subt k) Gt subt b7 [some x0, none] s).fin := rfl
theorem call_8 {x0 x1 x2 : DV} : callAt Dt Gt subt (k + 1) 8 [x0, x1, x2] s = (evSs (callAt Dt Gt subt k) Gt subt b8 [some x0, some x1, some x2, none, none, none, none] s).fin := rfl
theorem call_9 {x0 x1 : DV} : callAt Dt Gt subt (k + 1) 9 [x0, x1] s = (evSs (callAt Dt Gt subt k) Gt subt b9 [some x0, some x1, none, none] s).fin := rfl
theorem call_12 {x0 x1 : DV} : callAt Dt Gt subt (k + 1) 12 [x0, x1] s = (evSs (callAt Dt Gt subt k) Gt subt b12 [some x0, some x1] s).fin := rfl
theorem call_13 {x0 : DV} : callAt Dt Gt subt (k + 1) 13 [x0] s = (evSs (callAt Dt Gt subt k) Gt subt b13 [some x0] s).fin := rfl
theorem call_14 {x0 x1 : DV} : callAt Dt Gt subt (k + 1) 14 [x0, x1] s = (evSs (callAt Dt Gt subt k) Gt subt b14 [some x0, some x1] s).fin := rfl
theorem call_15 {x0 x1 : DV} : callAt Dt Gt subt (k + 1) 15 [x0, x1] s = (evSs (callAt Dt Gt subt k) Gt subt b15 [some x0, some x1, none] s).fin := rfl
theorem call_16 {x0 x1 : DV} : callAt Dt Gt subt (k + 1) 16 [x0, x1] s = (evSs (callAt Dt Gt subt k) Gt subt b16 [some x0, some x1] s).fin := rfl
theorem call_17 {x0 x1 : DV} : callAt Dt Gt subt (k + 1) 17 [x0, x1] s = (evSs (callAt Dt Gt subt k) Gt subt b17 [some x0, some x1, none] s).fin := rfl
theorem call_18 {x0 x1 : DV} : callAt Dt Gt subt (k + 1) 18 [x0, x1] s = (evSs (callAt Dt Gt subt k) Gt subt b18 [some x0, some x1] s).fin := rfl
theorem call_19 {x0 : DV} : callAt Dt Gt subt (k + 1) 19 [x0] s = (evSs (callAt Dt Gt subt k) Gt subt b19 [some x0] s).fin := rfl
theorem call_20 {x0 : DV} : callAt Dt Gt subt (k + 1) 20 [x0] s = (evSs (callAt Dt Gt subt k) Gt subt b20 [some x0, none, none] s).fin := rfl
theorem call_21 {x0 : DV} : callAt Dt Gt subt (k + 1) 21 [x0] s = (evSs (callAt Dt Gt subt k) Gt subt b21 [some x0, none, none] s).fin := rfl
theorem call_22 {x0 x1 : DV} : callAt Dt Gt subt (k + 1) 22 [x0, x1] s = (evSs (callAt Dt Gt subt k) Gt subt b22 [some x0, some x1] s).fin := rfl
theorem call_23 {x0 : DV} : callAt Dt Gt subt (k + 1) 23 [x0] s = (evSs (callAt Dt Gt subt k) Gt subt b23 [some x0, none, none] s).fin := rfl
theorem call_24 {x0 x1 x2 : DV} : callAt Dt Gt subt (k + 1) 24 [x0, x1, x2] s = (evSs (callAt Dt Gt subt k) Gt subt b24 [some x0, some x1, some x2, none, none] s).fin := rfl
theorem call_25 {x0 : DV} : callAt Dt Gt subt (k + 1) 25 [x0] s = (evSs (callAt Dt Gt subt k) Gt subt b25 [some x0, none, none] s).fin := rfl
theorem call_26 {x0 : DV} : callAt Dt Gt subt (k + 1) 26 [x0] s = (evSs (callAt Dt Gt subt k) Gt subt b26 [some x0, none, none, none, none, none, none, none, none, none, none, none, none] s).fin := rfl
theorem int_ok {i : Int} : callAt Dt Gt subt (k + 1) 13 [.int i] s = .ok (.bl true) s := by
  simp -implicitDefEqProofs -dsimp only [↓bind_K, ↓out_K, ↓then_K, ↓optR_K, ↓cond_K, ↓forL_K, ↓lcL_K, ↓whileL_K, ↓catch_K, ↓catchK_nx, ↓catchK_rt, ↓catchK_exc, unset_rt, hush_rt, hush_nx, hush_ct, fin_exc, ↓bindK_ok, ↓outK_ok, ↓bindK_exc, ↓outK_exc, ↓thenK_nx, ↓thenK_rt, ↓thenK_exc, ↓thenK_bk, ↓thenK_ct, ↓optRK_some, ↓quiet_ok, ↓condK_t, ↓condK_f, ↓truth_bl, qE_slot, qE_isx, qE_k, qE_glob, qE_bin, qE_neg, qE_not, qE_and, qE_or, qE_cmp, qE_chain, qE_ife, qE_ix, qE_slc, qE_rev, qE_tup, qE_lst, qE_call, qE_bi, qE_isi, qE_meth, qE_lc, qE_smeth, qE_get2, qEs_nil, qEs_cons, qAll_nil, qAll_cons, qO_no, qO_some, qI_seq, qI_range1, qI_range2, qI_range3, qI_zip, qI_enum, qI_rev, qT_name, qT_tup, qT_sub, qTs_nil, qTs_cons, qS_asg, qS_par, qS_aug, qS_ife, qS_for, qS_while, qS_ret, qS_retN, qS_drop, qS_pass, qS_brk, qS_cont, qS_raise, qS_try, qS_pick, qSs_nil, qSs_cons, dv_int, dv_bl, dv_str, dv_non, List.getElem?_cons_zero, List.getElem?_cons_succ, List.set_cons_zero, List.set_cons_succ, List.length_cons, List.length_nil, Nat.reduceAdd, Nat.reduceLT, if_true, fin_rt, fin_nx, at_0, at_1, at_2, at_3, itemV_ref, itemV_tup, cmp_eq_int, cmp_ne_int, cmp_lt_int, cmp_le_int, cmp_gt_int, cmp_ge_int, bin_add, bin_sub, bi_int_int, call_13, b13, clIs, show ("int" == "int") = true from rfl, show ("bool" == "int") = false by decide, Bool.not_false]
theorem bi_gcdE {i j : Int} {s : Store} : biV .gcd [.int i, .int j] s = .ok (.int (gI i j)) s := rfl
theorem bin_fdivN {i g : Int} {s : Store} (h : 0 < g) (hd : g ∣ i) (h2 : g.natAbs.log2 < 9000) : binV .fdiv (.int i) (.int (-g)) s = .ok (.int (-(i / g))) s := by
  simp only [binV, binI]
  rw [if_neg (by omega), if_pos ⟨by omega, by rw [Int.natAbs_neg]; exact h2⟩, fdiv_negE h hd]
theorem gI_log {n d : Int} {m : Nat} (h : d ≠ 0) (hd : Sm m d) (h0 : 0 < m) (hm : m ≤ 9000) : (gI n d).natAbs.log2 < 9000 := by
  have : (gI n d).natAbs ≤ d.natAbs := by
    have := Nat.le_of_dvd (by omega) (Nat.gcd_dvd_right n.natAbs d.natAbs)
    unfold gI
    omega
  have := (hd.le this).log2 h0
  omega
theorem fraction_ok {n d : Int} {m : Nat} (h : d ≠ 0) (hd : Sm m d) (h0 : 0 < m) (hm : m ≤ 9000) : callAt Dt Gt subt (k + 1) 1 [.int n, .int d] s = .ok (.tup [.int (top n d), .int (bot n d)]) s := by
  have hg := gI_pos (n := n) h
  have hl := gI_log (n := n) h hd h0 hm
  have e0 : (d == 0) = false := beq_eq_false_iff_ne.mpr h
  have z2 : (2 ≤ sizeLine) = True := eq_true (by decide)
  by_cases hn : d < 0
  · have e1 : decide (d < 0) = true := decide_eq_true hn
    have t1 : top n d = -(n / gI n d) := if_pos hn
    have t2 : bot n d = -(d / gI n d) := if_pos hn
    rw [t1, t2]
    simp -implicitDefEqProofs -dsimp only [↓bind_K, ↓out_K, ↓then_K, ↓optR_K, ↓cond_K, ↓forL_K, ↓lcL_K, ↓whileL_K, ↓catch_K, ↓catchK_nx, ↓catchK_rt, ↓catchK_exc, unset_rt, hush_rt, hush_nx, hush_ct, fin_exc, ↓bindK_ok, ↓outK_ok, ↓bindK_exc, ↓outK_exc, ↓thenK_nx, ↓thenK_rt, ↓thenK_exc, ↓thenK_bk, ↓thenK_ct, ↓optRK_some, ↓quiet_ok, ↓condK_t, ↓condK_f, ↓truth_bl, qE_slot, qE_isx, qE_k, qE_glob, qE_bin, qE_neg, qE_not, qE_and, qE_or, qE_cmp, qE_chain, qE_ife, qE_ix, qE_slc, qE_rev, qE_tup, qE_lst, qE_call, qE_bi, qE_isi, qE_meth, qE_lc, qE_smeth, qE_get2, qEs_nil, qEs_cons, qAll_nil, qAll_cons, qO_no, qO_some, qI_seq, qI_range1, qI_range2, qI_range3, qI_zip, qI_enum, qI_rev, qT_name, qT_tup, qT_sub, qTs_nil, qTs_cons, qS_asg, qS_par, qS_aug, qS_ife, qS_for, qS_while, qS_ret, qS_retN, qS_drop, qS_pass, qS_brk, qS_cont, qS_raise, qS_try, qS_pick, qSs_nil, qSs_cons, dv_int, dv_bl, dv_str, dv_non, List.getElem?_cons_zero, List.getElem?_cons_succ, List.set_cons_zero, List.set_cons_succ, List.length_cons, List.length_nil, Nat.reduceAdd, Nat.reduceLT, if_true, fin_rt, fin_nx, at_0, at_1, at_2, at_3, itemV_ref, itemV_tup, cmp_eq_int, cmp_ne_int, cmp_lt_int, cmp_le_int, cmp_gt_int, cmp_ge_int, bin_add, bin_sub, bi_int_int, call_1, b1, e0, e1, bi_gcdE, bin_fdivN hg (gI_dvd_l n d) hl, bin_fdivN hg (gI_dvd_r n d) hl, z2]
  · have e1 : decide (d < 0) = false := decide_eq_false hn
    have t1 : top n d = n / gI n d := if_neg hn
    have t2 : bot n d = d / gI n d := if_neg hn
    rw [t1, t2]
    simp -implicitDefEqProofs -dsimp only [↓bind_K, ↓out_K, ↓then_K, ↓optR_K, ↓cond_K, ↓forL_K, ↓lcL_K, ↓whileL_K, ↓catch_K, ↓catchK_nx, ↓catchK_rt, ↓catchK_exc, unset_rt, hush_rt, hush_nx, hush_ct, fin_exc, ↓bindK_ok, ↓outK_ok, ↓bindK_exc, ↓outK_exc, ↓thenK_nx, ↓thenK_rt, ↓thenK_exc, ↓thenK_bk, ↓thenK_ct, ↓optRK_some, ↓quiet_ok, ↓condK_t, ↓condK_f, ↓truth_bl, qE_slot, qE_isx, qE_k, qE_glob, qE_bin, qE_neg, qE_not, qE_and, qE_or, qE_cmp, qE_chain, qE_ife, qE_ix, qE_slc, qE_rev, qE_tup, qE_lst, qE_call, qE_bi, qE_isi, qE_meth, qE_lc, qE_smeth, qE_get2, qEs_nil, qEs_cons, qAll_nil, qAll_cons, qO_no, qO_some, qI_seq, qI_range1, qI_range2, qI_range3, qI_zip, qI_enum, qI_rev, qT_name, qT_tup, qT_sub, qTs_nil, qTs_cons, qS_asg, qS_par, qS_aug, qS_ife, qS_for, qS_while, qS_ret, qS_retN, qS_drop, qS_pass, qS_brk, qS_cont, qS_raise, qS_try, qS_pick, qSs_nil, qSs_cons, dv_int, dv_bl, dv_str, dv_non, List.getElem?_cons_zero, List.getElem?_cons_succ, List.set_cons_zero, List.set_cons_succ, List.length_cons, List.length_nil, Nat.reduceAdd, Nat.reduceLT, if_true, fin_rt, fin_nx, at_0, at_1, at_2, at_3, itemV_ref, itemV_tup, cmp_eq_int, cmp_ne_int, cmp_lt_int, cmp_le_int, cmp_gt_int, cmp_ge_int, bin_add, bin_sub, bi_int_int, call_1, b1, e0, e1, bi_gcdE, bin_fdiv hg hl, z2]
/-- the turns of the law's divisor -/
theorem euclid : ∀ (j a b n : Nat), b < 2 ^ j → 2 * j + 1 < n → whileL (fun r s => (evE (callAt Dt Gt subt k) Gt subt (.cmp .ne (.slot 1) (.k (.int 0))) r s).bind fun x s => truth x s) (fun r s => evSs (callAt Dt Gt subt k) Gt subt b14l0 r s) n [some (.int (a : Int)), some (.int (b : Int))] s = .nx [some (.int (Nat.gcd a b : Int)), some (.int 0)] s := by
  have test : ∀ a b : Nat, (fun r s => (evE (callAt Dt Gt subt k) Gt subt (.cmp .ne (.slot 1) (.k (.int 0))) r s).bind fun x s => truth x s) [some (.int (a : Int)), some (.int (b : Int))] s = .ok (decide (0 < b)) s := fun a b => by
    have e : (!((b : Int) == 0)) = decide (0 < b) := by
      by_cases h : 0 < b
      · rw [decide_eq_true h, beq_eq_false_iff_ne.mpr (show (b : Int) ≠ 0 by omega)]
        rfl
      · rw [decide_eq_false h, beq_iff_eq.mpr (show (b : Int) = 0 by omega)]
        rfl
    simp -implicitDefEqProofs -dsimp only [↓bind_K, ↓out_K, ↓then_K, ↓optR_K, ↓cond_K, ↓forL_K, ↓lcL_K, ↓whileL_K, ↓catch_K, ↓catchK_nx, ↓catchK_rt, ↓catchK_exc, unset_rt, hush_rt, hush_nx, hush_ct, fin_exc, ↓bindK_ok, ↓outK_ok, ↓bindK_exc, ↓outK_exc, ↓thenK_nx, ↓thenK_rt, ↓thenK_exc, ↓thenK_bk, ↓thenK_ct, ↓optRK_some, ↓quiet_ok, ↓condK_t, ↓condK_f, ↓truth_bl, qE_slot, qE_isx, qE_k, qE_glob, qE_bin, qE_neg, qE_not, qE_and, qE_or, qE_cmp, qE_chain, qE_ife, qE_ix, qE_slc, qE_rev, qE_tup, qE_lst, qE_call, qE_bi, qE_isi, qE_meth, qE_lc, qE_smeth, qE_get2, qEs_nil, qEs_cons, qAll_nil, qAll_cons, qO_no, qO_some, qI_seq, qI_range1, qI_range2, qI_range3, qI_zip, qI_enum, qI_rev, qT_name, qT_tup, qT_sub, qTs_nil, qTs_cons, qS_asg, qS_par, qS_aug, qS_ife, qS_for, qS_while, qS_ret, qS_retN, qS_drop, qS_pass, qS_brk, qS_cont, qS_raise, qS_try, qS_pick, qSs_nil, qSs_cons, dv_int, dv_bl, dv_str, dv_non, List.getElem?_cons_zero, List.getElem?_cons_succ, List.set_cons_zero, List.set_cons_succ, List.length_cons, List.length_nil, Nat.reduceAdd, Nat.reduceLT, if_true, fin_rt, fin_nx, at_0, at_1, at_2, at_3, itemV_ref, itemV_tup, cmp_eq_int, cmp_ne_int, cmp_lt_int, cmp_le_int, cmp_gt_int, cmp_ge_int, bin_add, bin_sub, bi_int_int, e]
  have turn : ∀ a b : Nat, 0 < b → (fun r s => evSs (callAt Dt Gt subt k) Gt subt b14l0 r s) [some (.int (a : Int)), some (.int (b : Int))] s = .nx [some (.int (b : Int)), some (.int ((a % b : Nat) : Int))] s := fun a b h => by
    have e : ∀ s, binV .mod (.int (a : Int)) (.int (b : Int)) s = .ok (.int ((a % b : Nat) : Int)) s := fun s => bin_mod (by omega)
    simp -implicitDefEqProofs -dsimp only [↓bind_K, ↓out_K, ↓then_K, ↓optR_K, ↓cond_K, ↓forL_K, ↓lcL_K, ↓whileL_K, ↓catch_K, ↓catchK_nx, ↓catchK_rt, ↓catchK_exc, unset_rt, hush_rt, hush_nx, hush_ct, fin_exc, ↓bindK_ok, ↓outK_ok, ↓bindK_exc, ↓outK_exc, ↓thenK_nx, ↓thenK_rt, ↓thenK_exc, ↓thenK_bk, ↓thenK_ct, ↓optRK_some, ↓quiet_ok, ↓condK_t, ↓condK_f, ↓truth_bl, qE_slot, qE_isx, qE_k, qE_glob, qE_bin, qE_neg, qE_not, qE_and, qE_or, qE_cmp, qE_chain, qE_ife, qE_ix, qE_slc, qE_rev, qE_tup, qE_lst, qE_call, qE_bi, qE_isi, qE_meth, qE_lc, qE_smeth, qE_get2, qEs_nil, qEs_cons, qAll_nil, qAll_cons, qO_no, qO_some, qI_seq, qI_range1, qI_range2, qI_range3, qI_zip, qI_enum, qI_rev, qT_name, qT_tup, qT_sub, qTs_nil, qTs_cons, qS_asg, qS_par, qS_aug, qS_ife, qS_for, qS_while, qS_ret, qS_retN, qS_drop, qS_pass, qS_brk, qS_cont, qS_raise, qS_try, qS_pick, qSs_nil, qSs_cons, dv_int, dv_bl, dv_str, dv_non, List.getElem?_cons_zero, List.getElem?_cons_succ, List.set_cons_zero, List.set_cons_succ, List.length_cons, List.length_nil, Nat.reduceAdd, Nat.reduceLT, if_true, fin_rt, fin_nx, at_0, at_1, at_2, at_3, itemV_ref, itemV_tup, cmp_eq_int, cmp_ne_int, cmp_lt_int, cmp_le_int, cmp_gt_int, cmp_ge_int, bin_add, bin_sub, bi_int_int, b14l0, e, and_self]
  have stop : ∀ a b n : Nat, b = 0 → 0 < n → whileL (fun r s => (evE (callAt Dt Gt subt k) Gt subt (.cmp .ne (.slot 1) (.k (.int 0))) r s).bind fun x s => truth x s) (fun r s => evSs (callAt Dt Gt subt k) Gt subt b14l0 r s) n [some (.int (a : Int)), some (.int (b : Int))] s = .nx [some (.int (Nat.gcd a b : Int)), some (.int 0)] s := fun a b n hb hn => by
    subst hb
    obtain ⟨m, rfl⟩ : ∃ m, n = m + 1 := ⟨n - 1, by omega⟩
    rw [Nat.gcd_zero_right]
    exact while_end (test a 0)
  have gr : ∀ a b : Nat, Nat.gcd b (a % b) = Nat.gcd a b := fun a b => by rw [Nat.gcd_comm b, ← Nat.gcd_rec, Nat.gcd_comm]
  intro j
  induction j with
  | zero => exact fun a b n hb hn => stop a b n (by simpa using hb) (by omega)
  | succ j ih =>
    intro a b n hb hn
    by_cases h0 : b = 0
    · exact stop a b n h0 (by omega)
    · obtain ⟨m, rfl⟩ : ∃ m, n = m + 1 + 1 := ⟨n - 2, by omega⟩
      have t1 := test a b
      rw [decide_eq_true (show 0 < b by omega)] at t1
      rw [while_go t1 (turn a b (by omega)), ← gr a b]
      by_cases h1 : a % b = 0
      · exact stop b (a % b) (m + 1) h1 (by omega)
      · have t2 := test b (a % b)
        rw [decide_eq_true (show 0 < a % b by omega)] at t2
        rw [while_go t2 (turn b (a % b) (by omega)), ← gr b (a % b)]
        refine ih _ _ m ?_ (by omega)
        have := half_mod (a := a) (b := b) (by omega) (by omega)
        rw [Nat.pow_succ] at hb
        omega
theorem divisor_ok {a b : Nat} {m : Nat} (h : b < 2 ^ m) (hm : m ≤ 9000) : callAt Dt Gt subt (k + 1) 14 [.int (a : Int), .int (b : Int)] s = .ok (.int (Nat.gcd a b : Int)) s := by
  have h1 := euclid (k := k) (s := s) m a b turns h (by unfold turns; omega)
  have h2 : evS (callAt Dt Gt subt k) Gt subt (.while_ (.cmp .ne (.slot 1) (.k (.int 0))) b14l0) [some (.int (a : Int)), some (.int (b : Int))] s = _ := h1
  simp -implicitDefEqProofs -dsimp only [↓bind_K, ↓out_K, ↓then_K, ↓optR_K, ↓cond_K, ↓forL_K, ↓lcL_K, ↓whileL_K, ↓catch_K, ↓catchK_nx, ↓catchK_rt, ↓catchK_exc, unset_rt, hush_rt, hush_nx, hush_ct, fin_exc, ↓bindK_ok, ↓outK_ok, ↓bindK_exc, ↓outK_exc, ↓thenK_nx, ↓thenK_rt, ↓thenK_exc, ↓thenK_bk, ↓thenK_ct, ↓optRK_some, ↓quiet_ok, ↓condK_t, ↓condK_f, ↓truth_bl, qE_slot, qE_isx, qE_k, qE_glob, qE_bin, qE_neg, qE_not, qE_and, qE_or, qE_cmp, qE_chain, qE_ife, qE_ix, qE_slc, qE_rev, qE_tup, qE_lst, qE_call, qE_bi, qE_isi, qE_meth, qE_lc, qE_smeth, qE_get2, qEs_nil, qEs_cons, qAll_nil, qAll_cons, qO_no, qO_some, qI_seq, qI_range1, qI_range2, qI_range3, qI_zip, qI_enum, qI_rev, qT_name, qT_tup, qT_sub, qTs_nil, qTs_cons, qS_asg, qS_par, qS_aug, qS_ife, qS_for, qS_while, qS_ret, qS_retN, qS_drop, qS_pass, qS_brk, qS_cont, qS_raise, qS_try, qS_pick, qSs_nil, qSs_cons, dv_int, dv_bl, dv_str, dv_non, List.getElem?_cons_zero, List.getElem?_cons_succ, List.set_cons_zero, List.set_cons_succ, List.length_cons, List.length_nil, Nat.reduceAdd, Nat.reduceLT, if_true, fin_rt, fin_nx, at_0, at_1, at_2, at_3, itemV_ref, itemV_tup, cmp_eq_int, cmp_ne_int, cmp_lt_int, cmp_le_int, cmp_gt_int, cmp_ge_int, bin_add, bin_sub, bi_int_int, call_14, b14, abs_nat, ↓h2]
  rfl
/-- the law's fraction -/
theorem frac_ok {n d : Int} {m : Nat} (h : d ≠ 0) (hd : Sm m d) (h0 : 0 < m) (hm : m ≤ 9000) : callAt Dt Gt subt (k + 2) 15 [.int n, .int d] s = .ok (.tup [.int (top n d), .int (bot n d)]) s := by
  have hg := gI_pos (n := n) h
  have hl := gI_log (n := n) h hd h0 hm
  have z2 : (2 ≤ sizeLine) = True := eq_true (by decide)
  by_cases hn : d < 0
  · have e1 : decide (d < 0) = true := decide_eq_true hn
    have t1 : top n d = -(n / gI n d) := if_pos hn
    have t2 : bot n d = -(d / gI n d) := if_pos hn
    obtain ⟨k1, hk1⟩ := gI_dvd_l n d
    obtain ⟨k2, hk2⟩ := gI_dvd_r n d
    have q1 : (0 - n) / gI n d = -(n / gI n d) := by rw [Int.zero_sub, Int.neg_ediv_of_dvd ⟨k1, hk1⟩]
    have q2 : (0 - d) / gI n d = -(d / gI n d) := by rw [Int.zero_sub, Int.neg_ediv_of_dvd ⟨k2, hk2⟩]
    have c : ∀ s, callAt Dt Gt subt (k + 1) 14 [.int ((0 - n).natAbs : Int), .int (0 - d)] s = .ok (.int (gI n d)) s := fun s => by
      have e : (0 - d) = ((d.natAbs : Nat) : Int) := by omega
      have e2 : (0 - n).natAbs = n.natAbs := by omega
      rw [e, e2]
      exact divisor_ok hd hm
    rw [t1, t2, ← q1, ← q2]
    simp -implicitDefEqProofs -dsimp only [↓bind_K, ↓out_K, ↓then_K, ↓optR_K, ↓cond_K, ↓forL_K, ↓lcL_K, ↓whileL_K, ↓catch_K, ↓catchK_nx, ↓catchK_rt, ↓catchK_exc, unset_rt, hush_rt, hush_nx, hush_ct, fin_exc, ↓bindK_ok, ↓outK_ok, ↓bindK_exc, ↓outK_exc, ↓thenK_nx, ↓thenK_rt, ↓thenK_exc, ↓thenK_bk, ↓thenK_ct, ↓optRK_some, ↓quiet_ok, ↓condK_t, ↓condK_f, ↓truth_bl, qE_slot, qE_isx, qE_k, qE_glob, qE_bin, qE_neg, qE_not, qE_and, qE_or, qE_cmp, qE_chain, qE_ife, qE_ix, qE_slc, qE_rev, qE_tup, qE_lst, qE_call, qE_bi, qE_isi, qE_meth, qE_lc, qE_smeth, qE_get2, qEs_nil, qEs_cons, qAll_nil, qAll_cons, qO_no, qO_some, qI_seq, qI_range1, qI_range2, qI_range3, qI_zip, qI_enum, qI_rev, qT_name, qT_tup, qT_sub, qTs_nil, qTs_cons, qS_asg, qS_par, qS_aug, qS_ife, qS_for, qS_while, qS_ret, qS_retN, qS_drop, qS_pass, qS_brk, qS_cont, qS_raise, qS_try, qS_pick, qSs_nil, qSs_cons, dv_int, dv_bl, dv_str, dv_non, List.getElem?_cons_zero, List.getElem?_cons_succ, List.set_cons_zero, List.set_cons_succ, List.length_cons, List.length_nil, Nat.reduceAdd, Nat.reduceLT, if_true, fin_rt, fin_nx, at_0, at_1, at_2, at_3, itemV_ref, itemV_tup, cmp_eq_int, cmp_ne_int, cmp_lt_int, cmp_le_int, cmp_gt_int, cmp_ge_int, bin_add, bin_sub, bi_int_int, call_15, b15, e1, abs_nat, c, bin_fdiv hg hl, z2]
  · have e1 : decide (d < 0) = false := decide_eq_false hn
    have t1 : top n d = n / gI n d := if_neg hn
    have t2 : bot n d = d / gI n d := if_neg hn
    have c : ∀ s, callAt Dt Gt subt (k + 1) 14 [.int (n.natAbs : Int), .int d] s = .ok (.int (gI n d)) s := fun s => by
      have e : d = ((d.natAbs : Nat) : Int) := by omega
      have q := divisor_ok (k := k) (s := s) (a := n.natAbs) hd hm
      rw [← e] at q
      exact q
    rw [t1, t2]
    simp -implicitDefEqProofs -dsimp only [↓bind_K, ↓out_K, ↓then_K, ↓optR_K, ↓cond_K, ↓forL_K, ↓lcL_K, ↓whileL_K, ↓catch_K, ↓catchK_nx, ↓catchK_rt, ↓catchK_exc, unset_rt, hush_rt, hush_nx, hush_ct, fin_exc, ↓bindK_ok, ↓outK_ok, ↓bindK_exc, ↓outK_exc, ↓thenK_nx, ↓thenK_rt, ↓thenK_exc, ↓thenK_bk, ↓thenK_ct, ↓optRK_some, ↓quiet_ok, ↓condK_t, ↓condK_f, ↓truth_bl, qE_slot, qE_isx, qE_k, qE_glob, qE_bin, qE_neg, qE_not, qE_and, qE_or, qE_cmp, qE_chain, qE_ife, qE_ix, qE_slc, qE_rev, qE_tup, qE_lst, qE_call, qE_bi, qE_isi, qE_meth, qE_lc, qE_smeth, qE_get2, qEs_nil, qEs_cons, qAll_nil, qAll_cons, qO_no, qO_some, qI_seq, qI_range1, qI_range2, qI_range3, qI_zip, qI_enum, qI_rev, qT_name, qT_tup, qT_sub, qTs_nil, qTs_cons, qS_asg, qS_par, qS_aug, qS_ife, qS_for, qS_while, qS_ret, qS_retN, qS_drop, qS_pass, qS_brk, qS_cont, qS_raise, qS_try, qS_pick, qSs_nil, qSs_cons, dv_int, dv_bl, dv_str, dv_non, List.getElem?_cons_zero, List.getElem?_cons_succ, List.set_cons_zero, List.set_cons_succ, List.length_cons, List.length_nil, Nat.reduceAdd, Nat.reduceLT, if_true, fin_rt, fin_nx, at_0, at_1, at_2, at_3, itemV_ref, itemV_tup, cmp_eq_int, cmp_ne_int, cmp_lt_int, cmp_le_int, cmp_gt_int, cmp_ge_int, bin_add, bin_sub, bi_int_int, call_15, b15, e1, abs_nat, c, bin_fdiv hg hl, z2]
def pr (p q : Int) : DV := .tup [.int p, .int q]
/-- a fraction of some size -/
structure Fr (m : Nat) (p q : Int) : Prop where
  sp : Sm m p
  sq : Sm m q
  pos : 0 < q
theorem okM {n m : Nat} {x y : Int} (h : Sm n x) (h2 : Sm m y) (hn : 0 < n := by decide) (hm : 0 < m := by decide) (hs : n + m ≤ 1000000 := by decide) : mulOk x y = true := h.mulOk h2 hn hm hs
theorem ne_mul {x y : Int} (h : x ≠ 0) (h2 : y ≠ 0) : x * y ≠ 0 := Int.mul_ne_zero h h2
theorem two_sm : Sm 2 2 := by unfold Sm; decide
variable {p q p' q' : Int}
theorem times_ok (a : Fr 400 p q) (b : Fr 400 p' q') : callAt Dt Gt subt (k + 2) 2 [pr p q, pr p' q'] s = .ok (pr (top (p * p') (q * q')) (bot (p * p') (q * q'))) s := by
  have f := fun s => fraction_ok (k := k) (s := s) (n := p * p') (d := q * q') (ne_mul (by have := a.pos; omega) (by have := b.pos; omega)) (a.sq.mul b.sq) (by decide) (by decide)
  simp -implicitDefEqProofs -dsimp only [↓bind_K, ↓out_K, ↓then_K, ↓optR_K, ↓cond_K, ↓forL_K, ↓lcL_K, ↓whileL_K, ↓catch_K, ↓catchK_nx, ↓catchK_rt, ↓catchK_exc, unset_rt, hush_rt, hush_nx, hush_ct, fin_exc, ↓bindK_ok, ↓outK_ok, ↓bindK_exc, ↓outK_exc, ↓thenK_nx, ↓thenK_rt, ↓thenK_exc, ↓thenK_bk, ↓thenK_ct, ↓optRK_some, ↓quiet_ok, ↓condK_t, ↓condK_f, ↓truth_bl, qE_slot, qE_isx, qE_k, qE_glob, qE_bin, qE_neg, qE_not, qE_and, qE_or, qE_cmp, qE_chain, qE_ife, qE_ix, qE_slc, qE_rev, qE_tup, qE_lst, qE_call, qE_bi, qE_isi, qE_meth, qE_lc, qE_smeth, qE_get2, qEs_nil, qEs_cons, qAll_nil, qAll_cons, qO_no, qO_some, qI_seq, qI_range1, qI_range2, qI_range3, qI_zip, qI_enum, qI_rev, qT_name, qT_tup, qT_sub, qTs_nil, qTs_cons, qS_asg, qS_par, qS_aug, qS_ife, qS_for, qS_while, qS_ret, qS_retN, qS_drop, qS_pass, qS_brk, qS_cont, qS_raise, qS_try, qS_pick, qSs_nil, qSs_cons, dv_int, dv_bl, dv_str, dv_non, List.getElem?_cons_zero, List.getElem?_cons_succ, List.set_cons_zero, List.set_cons_succ, List.length_cons, List.length_nil, Nat.reduceAdd, Nat.reduceLT, if_true, fin_rt, fin_nx, at_0, at_1, at_2, at_3, itemV_ref, itemV_tup, cmp_eq_int, cmp_ne_int, cmp_lt_int, cmp_le_int, cmp_gt_int, cmp_ge_int, bin_add, bin_sub, bi_int_int, pr, call_2, b2, bin_mul (okM a.sp b.sp), bin_mul (okM a.sq b.sq), f]
theorem over_ok (a : Fr 400 p q) (b : Fr 400 p' q') (h : p' ≠ 0) : callAt Dt Gt subt (k + 2) 3 [pr p q, pr p' q'] s = .ok (pr (top (p * q') (q * p')) (bot (p * q') (q * p'))) s := by
  have f := fun s => fraction_ok (k := k) (s := s) (n := p * q') (d := q * p') (ne_mul (by have := a.pos; omega) h) (a.sq.mul b.sp) (by decide) (by decide)
  simp -implicitDefEqProofs -dsimp only [↓bind_K, ↓out_K, ↓then_K, ↓optR_K, ↓cond_K, ↓forL_K, ↓lcL_K, ↓whileL_K, ↓catch_K, ↓catchK_nx, ↓catchK_rt, ↓catchK_exc, unset_rt, hush_rt, hush_nx, hush_ct, fin_exc, ↓bindK_ok, ↓outK_ok, ↓bindK_exc, ↓outK_exc, ↓thenK_nx, ↓thenK_rt, ↓thenK_exc, ↓thenK_bk, ↓thenK_ct, ↓optRK_some, ↓quiet_ok, ↓condK_t, ↓condK_f, ↓truth_bl, qE_slot, qE_isx, qE_k, qE_glob, qE_bin, qE_neg, qE_not, qE_and, qE_or, qE_cmp, qE_chain, qE_ife, qE_ix, qE_slc, qE_rev, qE_tup, qE_lst, qE_call, qE_bi, qE_isi, qE_meth, qE_lc, qE_smeth, qE_get2, qEs_nil, qEs_cons, qAll_nil, qAll_cons, qO_no, qO_some, qI_seq, qI_range1, qI_range2, qI_range3, qI_zip, qI_enum, qI_rev, qT_name, qT_tup, qT_sub, qTs_nil, qTs_cons, qS_asg, qS_par, qS_aug, qS_ife, qS_for, qS_while, qS_ret, qS_retN, qS_drop, qS_pass, qS_brk, qS_cont, qS_raise, qS_try, qS_pick, qSs_nil, qSs_cons, dv_int, dv_bl, dv_str, dv_non, List.getElem?_cons_zero, List.getElem?_cons_succ, List.set_cons_zero, List.set_cons_succ, List.length_cons, List.length_nil, Nat.reduceAdd, Nat.reduceLT, if_true, fin_rt, fin_nx, at_0, at_1, at_2, at_3, itemV_ref, itemV_tup, cmp_eq_int, cmp_ne_int, cmp_lt_int, cmp_le_int, cmp_gt_int, cmp_ge_int, bin_add, bin_sub, bi_int_int, pr, call_3, b3, bin_mul (okM a.sp b.sq), bin_mul (okM a.sq b.sp), f]
theorem lover_ok (a : Fr 400 p q) (b : Fr 400 p' q') (h : p' ≠ 0) : callAt Dt Gt subt (k + 3) 18 [pr p q, pr p' q'] s = .ok (pr (top (p * q') (q * p')) (bot (p * q') (q * p'))) s := by
  have f := fun s => frac_ok (k := k) (s := s) (n := p * q') (d := q * p') (ne_mul (by have := a.pos; omega) h) (a.sq.mul b.sp) (by decide) (by decide)
  simp -implicitDefEqProofs -dsimp only [↓bind_K, ↓out_K, ↓then_K, ↓optR_K, ↓cond_K, ↓forL_K, ↓lcL_K, ↓whileL_K, ↓catch_K, ↓catchK_nx, ↓catchK_rt, ↓catchK_exc, unset_rt, hush_rt, hush_nx, hush_ct, fin_exc, ↓bindK_ok, ↓outK_ok, ↓bindK_exc, ↓outK_exc, ↓thenK_nx, ↓thenK_rt, ↓thenK_exc, ↓thenK_bk, ↓thenK_ct, ↓optRK_some, ↓quiet_ok, ↓condK_t, ↓condK_f, ↓truth_bl, qE_slot, qE_isx, qE_k, qE_glob, qE_bin, qE_neg, qE_not, qE_and, qE_or, qE_cmp, qE_chain, qE_ife, qE_ix, qE_slc, qE_rev, qE_tup, qE_lst, qE_call, qE_bi, qE_isi, qE_meth, qE_lc, qE_smeth, qE_get2, qEs_nil, qEs_cons, qAll_nil, qAll_cons, qO_no, qO_some, qI_seq, qI_range1, qI_range2, qI_range3, qI_zip, qI_enum, qI_rev, qT_name, qT_tup, qT_sub, qTs_nil, qTs_cons, qS_asg, qS_par, qS_aug, qS_ife, qS_for, qS_while, qS_ret, qS_retN, qS_drop, qS_pass, qS_brk, qS_cont, qS_raise, qS_try, qS_pick, qSs_nil, qSs_cons, dv_int, dv_bl, dv_str, dv_non, List.getElem?_cons_zero, List.getElem?_cons_succ, List.set_cons_zero, List.set_cons_succ, List.length_cons, List.length_nil, Nat.reduceAdd, Nat.reduceLT, if_true, fin_rt, fin_nx, at_0, at_1, at_2, at_3, itemV_ref, itemV_tup, cmp_eq_int, cmp_ne_int, cmp_lt_int, cmp_le_int, cmp_gt_int, cmp_ge_int, bin_add, bin_sub, bi_int_int, pr, call_18, b18, bin_mul (okM a.sp b.sq), bin_mul (okM a.sq b.sp), f]
theorem nearest_ok (a : Fr 1000 p q) : callAt Dt Gt subt (k + 1) 4 [pr p q] s = .ok (.int ((2 * p + q) / (2 * q))) s := by
  have h := a.pos
  simp -implicitDefEqProofs -dsimp only [↓bind_K, ↓out_K, ↓then_K, ↓optR_K, ↓cond_K, ↓forL_K, ↓lcL_K, ↓whileL_K, ↓catch_K, ↓catchK_nx, ↓catchK_rt, ↓catchK_exc, unset_rt, hush_rt, hush_nx, hush_ct, fin_exc, ↓bindK_ok, ↓outK_ok, ↓bindK_exc, ↓outK_exc, ↓thenK_nx, ↓thenK_rt, ↓thenK_exc, ↓thenK_bk, ↓thenK_ct, ↓optRK_some, ↓quiet_ok, ↓condK_t, ↓condK_f, ↓truth_bl, qE_slot, qE_isx, qE_k, qE_glob, qE_bin, qE_neg, qE_not, qE_and, qE_or, qE_cmp, qE_chain, qE_ife, qE_ix, qE_slc, qE_rev, qE_tup, qE_lst, qE_call, qE_bi, qE_isi, qE_meth, qE_lc, qE_smeth, qE_get2, qEs_nil, qEs_cons, qAll_nil, qAll_cons, qO_no, qO_some, qI_seq, qI_range1, qI_range2, qI_range3, qI_zip, qI_enum, qI_rev, qT_name, qT_tup, qT_sub, qTs_nil, qTs_cons, qS_asg, qS_par, qS_aug, qS_ife, qS_for, qS_while, qS_ret, qS_retN, qS_drop, qS_pass, qS_brk, qS_cont, qS_raise, qS_try, qS_pick, qSs_nil, qSs_cons, dv_int, dv_bl, dv_str, dv_non, List.getElem?_cons_zero, List.getElem?_cons_succ, List.set_cons_zero, List.set_cons_succ, List.length_cons, List.length_nil, Nat.reduceAdd, Nat.reduceLT, if_true, fin_rt, fin_nx, at_0, at_1, at_2, at_3, itemV_ref, itemV_tup, cmp_eq_int, cmp_ne_int, cmp_lt_int, cmp_le_int, cmp_gt_int, cmp_ge_int, bin_add, bin_sub, bi_int_int, pr, call_4, b4, bin_mul (okM two_sm a.sp), bin_mul (okM two_sm a.sq), bin_fdiv (show 0 < 2 * q by omega) (Nat.lt_trans ((two_sm.mul a.sq).log2 (by decide)) (by decide))]
theorem near_ok (a : Fr 1000 p q) : callAt Dt Gt subt (k + 1) 19 [pr p q] s = .ok (.int ((2 * p + q) / (2 * q))) s := by
  have h := a.pos
  simp -implicitDefEqProofs -dsimp only [↓bind_K, ↓out_K, ↓then_K, ↓optR_K, ↓cond_K, ↓forL_K, ↓lcL_K, ↓whileL_K, ↓catch_K, ↓catchK_nx, ↓catchK_rt, ↓catchK_exc, unset_rt, hush_rt, hush_nx, hush_ct, fin_exc, ↓bindK_ok, ↓outK_ok, ↓bindK_exc, ↓outK_exc, ↓thenK_nx, ↓thenK_rt, ↓thenK_exc, ↓thenK_bk, ↓thenK_ct, ↓optRK_some, ↓quiet_ok, ↓condK_t, ↓condK_f, ↓truth_bl, qE_slot, qE_isx, qE_k, qE_glob, qE_bin, qE_neg, qE_not, qE_and, qE_or, qE_cmp, qE_chain, qE_ife, qE_ix, qE_slc, qE_rev, qE_tup, qE_lst, qE_call, qE_bi, qE_isi, qE_meth, qE_lc, qE_smeth, qE_get2, qEs_nil, qEs_cons, qAll_nil, qAll_cons, qO_no, qO_some, qI_seq, qI_range1, qI_range2, qI_range3, qI_zip, qI_enum, qI_rev, qT_name, qT_tup, qT_sub, qTs_nil, qTs_cons, qS_asg, qS_par, qS_aug, qS_ife, qS_for, qS_while, qS_ret, qS_retN, qS_drop, qS_pass, qS_brk, qS_cont, qS_raise, qS_try, qS_pick, qSs_nil, qSs_cons, dv_int, dv_bl, dv_str, dv_non, List.getElem?_cons_zero, List.getElem?_cons_succ, List.set_cons_zero, List.set_cons_succ, List.length_cons, List.length_nil, Nat.reduceAdd, Nat.reduceLT, if_true, fin_rt, fin_nx, at_0, at_1, at_2, at_3, itemV_ref, itemV_tup, cmp_eq_int, cmp_ne_int, cmp_lt_int, cmp_le_int, cmp_gt_int, cmp_ge_int, bin_add, bin_sub, bi_int_int, pr, call_19, b19, bin_mul (okM two_sm a.sp), bin_mul (okM two_sm a.sq), bin_fdiv (show 0 < 2 * q by omega) (Nat.lt_trans ((two_sm.mul a.sq).log2 (by decide)) (by decide))]
/-- rounding doesn't see what is reduced -/
theorem near_red {n d : Int} (h : 0 < d) : (2 * top n d + bot n d) / (2 * bot n d) = (2 * n + d) / (2 * d) := by
  have hg := gI_pos (n := n) (d := d) (by omega)
  obtain ⟨a, ha⟩ := gI_dvd_l n d
  obtain ⟨b, hb⟩ := gI_dvd_r n d
  have t1 : top n d = a := by
    have : top n d = n / gI n d := if_neg (by omega)
    rw [this]
    exact Int.ediv_eq_of_eq_mul_right (by omega) ha
  have t2 : bot n d = b := by
    have : bot n d = d / gI n d := if_neg (by omega)
    rw [this]
    exact Int.ediv_eq_of_eq_mul_right (by omega) hb
  rw [t1, t2]
  generalize gI n d = g at *
  have e1 : 2 * n + d = g * (2 * a + b) := by rw [Int.mul_add, ← Int.mul_assoc, Int.mul_comm g 2, Int.mul_assoc, ← ha, ← hb]
  have e2 : 2 * d = g * (2 * b) := by rw [← Int.mul_assoc, Int.mul_comm g 2, Int.mul_assoc, ← hb]
  rw [e1, e2, Int.mul_ediv_mul_of_pos _ _ hg]
theorem fr_made {n d : Int} {m : Nat} (h : d ≠ 0) (h1 : Sm m n) (h2 : Sm m d) : Fr m (top n d) (bot n d) := ⟨h1.le (top_le h), h2.le (bot_le h), bot_pos h⟩
end
end Lw
end PtLk62M
section PtLk62N
set_option Elab.async false
set_option linter.all false
set_option maxRecDepth 100000
namespace Lw
open PySem Ip
section
variable {k : Nat} {s : Store} {p q : Int}
/-- p 2^t / q, rounded -/
def Nr (p q : Int) (t : Nat) : Int := (2 * (p * 2 ^ t) + q) / (2 * q)
/-- from a shift on downwards -/
def PM (p q : Int) : Nat → Option (Int × Nat)
  | 0 => none
  | t + 1 => if Nr p q (t + 1) = 0 then none else if Nr p q (t + 1) ≤ 65535 then some (Nr p q (t + 1), t + 1) else PM p q t
def LW (p q : Int) : Nat → Nat
  | 0 => 0
  | 1 => 1
  | t + 2 => if 65535 < Nr p q (t + 2) then LW p q (t + 1) else t + 2
theorem pm_lw : ∀ t, PM p q (t + 1) = if Nr p q (LW p q (t + 1)) = 0 ∨ 65535 < Nr p q (LW p q (t + 1)) then none else some (Nr p q (LW p q (t + 1)), LW p q (t + 1))
  | 0 => by
    show (if Nr p q 1 = 0 then none else if Nr p q 1 ≤ 65535 then some (Nr p q 1, 1) else none) = if Nr p q 1 = 0 ∨ 65535 < Nr p q 1 then none else some (Nr p q 1, 1)
    by_cases h0 : Nr p q 1 = 0
    · rw [if_pos h0, if_pos (.inl h0)]
    · rw [if_neg h0]
      by_cases h1 : Nr p q 1 ≤ 65535
      · rw [if_pos h1, if_neg (by omega)]
      · rw [if_neg h1, if_pos (by omega)]
  | t + 1 => by
    have ih := pm_lw t
    show (if Nr p q (t + 2) = 0 then none else if Nr p q (t + 2) ≤ 65535 then some (Nr p q (t + 2), t + 2) else PM p q (t + 1)) = _
    show _ = if Nr p q (if 65535 < Nr p q (t + 2) then LW p q (t + 1) else t + 2) = 0 ∨ 65535 < Nr p q (if 65535 < Nr p q (t + 2) then LW p q (t + 1) else t + 2) then none else some (Nr p q (if 65535 < Nr p q (t + 2) then LW p q (t + 1) else t + 2), if 65535 < Nr p q (t + 2) then LW p q (t + 1) else t + 2)
    by_cases h : 65535 < Nr p q (t + 2)
    · rw [if_neg (by omega), if_neg (by omega), ih]
      simp only [if_pos h]
    · simp only [if_neg h]
      by_cases h0 : Nr p q (t + 2) = 0
      · rw [if_pos h0, if_pos (.inl h0)]
      · rw [if_neg h0, if_pos (by omega), if_neg (by omega)]
theorem lw_le : ∀ t, LW p q t ≤ t
  | 0 => Nat.le_refl _
  | 1 => Nat.le_refl _
  | t + 2 => by
    have := lw_le (t + 1)
    show (if 65535 < Nr p q (t + 2) then LW p q (t + 1) else t + 2) ≤ t + 2
    split <;> omega
theorem shl_nat {x : Int} {t : Nat} {s : Store} (h : x.natAbs < 2 ^ 1000) (ht : t ≤ 1000000) : binV .shl (.int x) (.int (t : Int)) s = .ok (.int (x * 2 ^ t)) s := by
  simp only [binV, binI]
  rw [if_pos ⟨by omega, by omega, h⟩]
  rfl
theorem pow_sm {t : Nat} (h : t ≤ 40) : Sm 41 ((2 : Int) ^ t) := by
  unfold Sm
  rw [Int.natAbs_pow]
  exact Nat.pow_lt_pow_right (by decide) (by omega)
theorem p_sh (a : Fr 300 p q) {t : Nat} (h : t ≤ 40) : Sm 341 (p * 2 ^ t) := a.sp.mul (pow_sm h)
/-- one shift -/
theorem factor_ok (a : Fr 300 p q) {t : Nat} (h : t ≤ 40) : callAt Dt Gt subt (k + 2) 2 [pr p q, pr ((2 : Int) ^ t) 1] s = .ok (pr (top (p * 2 ^ t) q) (bot (p * 2 ^ t) q)) s ∧ callAt Dt Gt subt (k + 2) 4 [pr (top (p * 2 ^ t) q) (bot (p * 2 ^ t) q)] s = .ok (.int (Nr p q t)) s := by
  have hq : q ≠ 0 := by have := a.pos; omega
  constructor
  · have e := times_ok (k := k) (s := s) (p := p) (q := q) (p' := 2 ^ t) (q' := 1) ⟨a.sp.mono (by decide), a.sq.mono (by decide), a.pos⟩ ⟨(pow_sm h).mono (by decide), by unfold Sm; decide, by decide⟩
    rw [Int.mul_one] at e
    exact e
  · have e := nearest_ok (k := k + 1) (s := s) (fr_made (m := 1000) hq ((p_sh a h).mono (by decide)) (a.sq.mono (by decide)))
    rw [near_red a.pos] at e
    exact e
/-- shifts downwards -/
def dn : Nat → List DV
  | 0 => []
  | t + 1 => .int ((t + 1 : Nat) : Int) :: dn t
theorem dn30 : (List.range (30 - 0 : Int).toNat).map (fun (i : Nat) => DV.int (30 + (i : Int) * -1)) = dn 30 := rfl
theorem gt3 : Gt 3 = some (.int 65535) := rfl
theorem gt2 : Gt 2 = some (.int 30) := rfl
theorem gt0 : Gt 0 = some (.int 3) := rfl
theorem gt1 : Gt 1 = some (.int 12) := rfl
noncomputable def B5 (k : Nat) : DV → Ip.Loc → Store → Out := fun x r s => (evT (callAt Dt Gt subt (k + 2)) Gt subt (.name 1) x r s).out r fun r s => evSs (callAt Dt Gt subt (k + 2)) Gt subt b5l0 r s
theorem mturn (a : Fr 300 p q) {t : Nat} (h : t ≤ 40) (w1 w2 : Option DV) :
    B5 k (.int (t : Int)) [some (pr p q), w1, w2] s =
      if Nr p q t = 0 then .exc 3 [some (pr p q), some (.int (t : Int)), some (.int (Nr p q t))] s else if Nr p q t ≤ 65535 then .rt (.tup [.int (Nr p q t), .int (t : Int)]) s else .nx [some (pr p q), some (.int (t : Int)), some (.int (Nr p q t))] s := by
  obtain ⟨c1, c2⟩ := factor_ok (k := k) (s := s) a h
  have sh := shl_nat (x := 1) (t := t) (s := s) (by decide) (by omega)
  rw [Int.one_mul] at sh
  have z2 : (2 ≤ sizeLine) = True := eq_true (by decide)
  unfold pr at c1 c2 ⊢
  unfold B5
  by_cases h0 : Nr p q t = 0
  · have e0 : (Nr p q t == 0) = true := beq_iff_eq.mpr h0
    rw [if_pos h0]
    simp -implicitDefEqProofs -dsimp only [↓bind_K, ↓out_K, ↓then_K, ↓optR_K, ↓cond_K, ↓forL_K, ↓lcL_K, ↓whileL_K, ↓catch_K, ↓catchK_nx, ↓catchK_rt, ↓catchK_exc, unset_rt, hush_rt, hush_nx, hush_ct, fin_exc, ↓bindK_ok, ↓outK_ok, ↓bindK_exc, ↓outK_exc, ↓thenK_nx, ↓thenK_rt, ↓thenK_exc, ↓thenK_bk, ↓thenK_ct, ↓optRK_some, ↓quiet_ok, ↓condK_t, ↓condK_f, ↓truth_bl, qE_slot, qE_isx, qE_k, qE_glob, qE_bin, qE_neg, qE_not, qE_and, qE_or, qE_cmp, qE_chain, qE_ife, qE_ix, qE_slc, qE_rev, qE_tup, qE_lst, qE_call, qE_bi, qE_isi, qE_meth, qE_lc, qE_smeth, qE_get2, qEs_nil, qEs_cons, qAll_nil, qAll_cons, qO_no, qO_some, qI_seq, qI_range1, qI_range2, qI_range3, qI_zip, qI_enum, qI_rev, qT_name, qT_tup, qT_sub, qTs_nil, qTs_cons, qS_asg, qS_par, qS_aug, qS_ife, qS_for, qS_while, qS_ret, qS_retN, qS_drop, qS_pass, qS_brk, qS_cont, qS_raise, qS_try, qS_pick, qSs_nil, qSs_cons, dv_int, dv_bl, dv_str, dv_non, List.getElem?_cons_zero, List.getElem?_cons_succ, List.set_cons_zero, List.set_cons_succ, List.length_cons, List.length_nil, Nat.reduceAdd, Nat.reduceLT, if_true, fin_rt, fin_nx, at_0, at_1, at_2, at_3, itemV_ref, itemV_tup, cmp_eq_int, cmp_ne_int, cmp_lt_int, cmp_le_int, cmp_gt_int, cmp_ge_int, bin_add, bin_sub, bi_int_int, b5l0, c1, c2, sh, z2, e0]
  · have e0 : (Nr p q t == 0) = false := beq_eq_false_iff_ne.mpr h0
    rw [if_neg h0]
    by_cases h1 : Nr p q t ≤ 65535
    · have e1 : decide (Nr p q t ≤ 65535) = true := decide_eq_true h1
      rw [if_pos h1]
      simp -implicitDefEqProofs -dsimp only [↓bind_K, ↓out_K, ↓then_K, ↓optR_K, ↓cond_K, ↓forL_K, ↓lcL_K, ↓whileL_K, ↓catch_K, ↓catchK_nx, ↓catchK_rt, ↓catchK_exc, unset_rt, hush_rt, hush_nx, hush_ct, fin_exc, ↓bindK_ok, ↓outK_ok, ↓bindK_exc, ↓outK_exc, ↓thenK_nx, ↓thenK_rt, ↓thenK_exc, ↓thenK_bk, ↓thenK_ct, ↓optRK_some, ↓quiet_ok, ↓condK_t, ↓condK_f, ↓truth_bl, qE_slot, qE_isx, qE_k, qE_glob, qE_bin, qE_neg, qE_not, qE_and, qE_or, qE_cmp, qE_chain, qE_ife, qE_ix, qE_slc, qE_rev, qE_tup, qE_lst, qE_call, qE_bi, qE_isi, qE_meth, qE_lc, qE_smeth, qE_get2, qEs_nil, qEs_cons, qAll_nil, qAll_cons, qO_no, qO_some, qI_seq, qI_range1, qI_range2, qI_range3, qI_zip, qI_enum, qI_rev, qT_name, qT_tup, qT_sub, qTs_nil, qTs_cons, qS_asg, qS_par, qS_aug, qS_ife, qS_for, qS_while, qS_ret, qS_retN, qS_drop, qS_pass, qS_brk, qS_cont, qS_raise, qS_try, qS_pick, qSs_nil, qSs_cons, dv_int, dv_bl, dv_str, dv_non, List.getElem?_cons_zero, List.getElem?_cons_succ, List.set_cons_zero, List.set_cons_succ, List.length_cons, List.length_nil, Nat.reduceAdd, Nat.reduceLT, if_true, fin_rt, fin_nx, at_0, at_1, at_2, at_3, itemV_ref, itemV_tup, cmp_eq_int, cmp_ne_int, cmp_lt_int, cmp_le_int, cmp_gt_int, cmp_ge_int, bin_add, bin_sub, bi_int_int, b5l0, c1, c2, sh, z2, e0, e1, gt3]
    · have e1 : decide (Nr p q t ≤ 65535) = false := decide_eq_false h1
      rw [if_neg h1]
      simp -implicitDefEqProofs -dsimp only [↓bind_K, ↓out_K, ↓then_K, ↓optR_K, ↓cond_K, ↓forL_K, ↓lcL_K, ↓whileL_K, ↓catch_K, ↓catchK_nx, ↓catchK_rt, ↓catchK_exc, unset_rt, hush_rt, hush_nx, hush_ct, fin_exc, ↓bindK_ok, ↓outK_ok, ↓bindK_exc, ↓outK_exc, ↓thenK_nx, ↓thenK_rt, ↓thenK_exc, ↓thenK_bk, ↓thenK_ct, ↓optRK_some, ↓quiet_ok, ↓condK_t, ↓condK_f, ↓truth_bl, qE_slot, qE_isx, qE_k, qE_glob, qE_bin, qE_neg, qE_not, qE_and, qE_or, qE_cmp, qE_chain, qE_ife, qE_ix, qE_slc, qE_rev, qE_tup, qE_lst, qE_call, qE_bi, qE_isi, qE_meth, qE_lc, qE_smeth, qE_get2, qEs_nil, qEs_cons, qAll_nil, qAll_cons, qO_no, qO_some, qI_seq, qI_range1, qI_range2, qI_range3, qI_zip, qI_enum, qI_rev, qT_name, qT_tup, qT_sub, qTs_nil, qTs_cons, qS_asg, qS_par, qS_aug, qS_ife, qS_for, qS_while, qS_ret, qS_retN, qS_drop, qS_pass, qS_brk, qS_cont, qS_raise, qS_try, qS_pick, qSs_nil, qSs_cons, dv_int, dv_bl, dv_str, dv_non, List.getElem?_cons_zero, List.getElem?_cons_succ, List.set_cons_zero, List.set_cons_succ, List.length_cons, List.length_nil, Nat.reduceAdd, Nat.reduceLT, if_true, fin_rt, fin_nx, at_0, at_1, at_2, at_3, itemV_ref, itemV_tup, cmp_eq_int, cmp_ne_int, cmp_lt_int, cmp_le_int, cmp_gt_int, cmp_ge_int, bin_add, bin_sub, bi_int_int, b5l0, c1, c2, sh, z2, e0, e1, gt3]
def pmO (w : Option (Int × Nat)) (x : DV) (s : Store) (o : Out) : Prop := match w with
  | none => (∃ r, o = .exc 3 r s) ∨ ∃ w1 w2, o = .nx [some x, w1, w2] s
  | some (m, u) => o = .rt (.tup [.int m, .int (u : Int)]) s
theorem mloop (a : Fr 300 p q) : ∀ (t : Nat), t ≤ 40 → ∀ w1 w2, pmO (PM p q t) (pr p q) s (forL .free (B5 k) (dn t) [some (pr p q), w1, w2] s)
  | 0, _, w1, w2 => .inr ⟨w1, w2, forL_nil free_ok⟩
  | t + 1, h, w1, w2 => by
    have e := mturn (k := k) (s := s) a h w1 w2
    have ih := mloop a t (by omega)
    have hP : PM p q (t + 1) = if Nr p q (t + 1) = 0 then none else if Nr p q (t + 1) ≤ 65535 then some (Nr p q (t + 1), t + 1) else PM p q t := rfl
    rw [show dn (t + 1) = .int ((t + 1 : Nat) : Int) :: dn t from rfl]
    by_cases h0 : Nr p q (t + 1) = 0
    · rw [if_pos h0] at e hP
      rw [forL_exc free_ok e, hP]
      exact .inl ⟨_, rfl⟩
    · rw [if_neg h0] at e hP
      by_cases h1 : Nr p q (t + 1) ≤ 65535
      · rw [if_pos h1] at e hP
        rw [forL_rt free_ok e, hP]
        exact rfl
      · rw [if_neg h1] at e hP
        rw [forL_nx free_ok e, hP]
        exact ih _ _
theorem multiplier_ok (a : Fr 300 p q) : callAt Dt Gt subt (k + 3) 5 [pr p q] s = match PM p q 30 with
    | none => .exc 3 s
    | some (m, u) => .ok (.tup [.int m, .int (u : Int)]) s := by
  have l := mloop (k := k) (s := s) a 30 (by decide) none none
  have rg : ((((-(2 ^ 62) : Int) ≤ 30 ∧ (30 : Int) < 2 ^ 62) ∧ -(2 ^ 62) ≤ (0 : Int) ∧ (0 : Int) < 2 ^ 62) ∧ True) = True := eq_true ⟨by omega, trivial⟩
  have fr : ∀ o, forL .free (B5 k) (dn 30) [some (pr p q), none, none] s = o →
      evS (callAt Dt Gt subt (k + 2)) Gt subt (.for_ (.name 1) (.range3 (.glob 2) (.k (.int 0)) (.neg (.k (.int 1)))) b5l0) [some (pr p q), none, none] s = o := fun o h => evS_for (by
    rw [← dn30]
    simp -implicitDefEqProofs -dsimp only [↓bind_K, ↓out_K, ↓then_K, ↓optR_K, ↓cond_K, ↓forL_K, ↓lcL_K, ↓whileL_K, ↓catch_K, ↓catchK_nx, ↓catchK_rt, ↓catchK_exc, unset_rt, hush_rt, hush_nx, hush_ct, fin_exc, ↓bindK_ok, ↓outK_ok, ↓bindK_exc, ↓outK_exc, ↓thenK_nx, ↓thenK_rt, ↓thenK_exc, ↓thenK_bk, ↓thenK_ct, ↓optRK_some, ↓quiet_ok, ↓condK_t, ↓condK_f, ↓truth_bl, qE_slot, qE_isx, qE_k, qE_glob, qE_bin, qE_neg, qE_not, qE_and, qE_or, qE_cmp, qE_chain, qE_ife, qE_ix, qE_slc, qE_rev, qE_tup, qE_lst, qE_call, qE_bi, qE_isi, qE_meth, qE_lc, qE_smeth, qE_get2, qEs_nil, qEs_cons, qAll_nil, qAll_cons, qO_no, qO_some, qI_seq, qI_range1, qI_range2, qI_range3, qI_zip, qI_enum, qI_rev, qT_name, qT_tup, qT_sub, qTs_nil, qTs_cons, qS_asg, qS_par, qS_aug, qS_ife, qS_for, qS_while, qS_ret, qS_retN, qS_drop, qS_pass, qS_brk, qS_cont, qS_raise, qS_try, qS_pick, qSs_nil, qSs_cons, dv_int, dv_bl, dv_str, dv_non, List.getElem?_cons_zero, List.getElem?_cons_succ, List.set_cons_zero, List.set_cons_succ, List.length_cons, List.length_nil, Nat.reduceAdd, Nat.reduceLT, if_true, fin_rt, fin_nx, at_0, at_1, at_2, at_3, itemV_ref, itemV_tup, cmp_eq_int, cmp_ne_int, cmp_lt_int, cmp_le_int, cmp_gt_int, cmp_ge_int, bin_add, bin_sub, bi_int_int, gt2, rg]) h
  unfold pmO at l
  cases hp : PM p q 30 with
  | none =>
    rw [hp] at l
    rcases l with ⟨r, e⟩ | ⟨w1, w2, e⟩
    · have e2 := fr _ e
      simp -implicitDefEqProofs -dsimp only [↓bind_K, ↓out_K, ↓then_K, ↓optR_K, ↓cond_K, ↓forL_K, ↓lcL_K, ↓whileL_K, ↓catch_K, ↓catchK_nx, ↓catchK_rt, ↓catchK_exc, unset_rt, hush_rt, hush_nx, hush_ct, fin_exc, ↓bindK_ok, ↓outK_ok, ↓bindK_exc, ↓outK_exc, ↓thenK_nx, ↓thenK_rt, ↓thenK_exc, ↓thenK_bk, ↓thenK_ct, ↓optRK_some, ↓quiet_ok, ↓condK_t, ↓condK_f, ↓truth_bl, qE_slot, qE_isx, qE_k, qE_glob, qE_bin, qE_neg, qE_not, qE_and, qE_or, qE_cmp, qE_chain, qE_ife, qE_ix, qE_slc, qE_rev, qE_tup, qE_lst, qE_call, qE_bi, qE_isi, qE_meth, qE_lc, qE_smeth, qE_get2, qEs_nil, qEs_cons, qAll_nil, qAll_cons, qO_no, qO_some, qI_seq, qI_range1, qI_range2, qI_range3, qI_zip, qI_enum, qI_rev, qT_name, qT_tup, qT_sub, qTs_nil, qTs_cons, qS_asg, qS_par, qS_aug, qS_ife, qS_for, qS_while, qS_ret, qS_retN, qS_drop, qS_pass, qS_brk, qS_cont, qS_raise, qS_try, qS_pick, qSs_nil, qSs_cons, dv_int, dv_bl, dv_str, dv_non, List.getElem?_cons_zero, List.getElem?_cons_succ, List.set_cons_zero, List.set_cons_succ, List.length_cons, List.length_nil, Nat.reduceAdd, Nat.reduceLT, if_true, fin_rt, fin_nx, at_0, at_1, at_2, at_3, itemV_ref, itemV_tup, cmp_eq_int, cmp_ne_int, cmp_lt_int, cmp_le_int, cmp_gt_int, cmp_ge_int, bin_add, bin_sub, bi_int_int, call_5, b5, ↓e2]
    · have e2 := fr _ e
      simp -implicitDefEqProofs -dsimp only [↓bind_K, ↓out_K, ↓then_K, ↓optR_K, ↓cond_K, ↓forL_K, ↓lcL_K, ↓whileL_K, ↓catch_K, ↓catchK_nx, ↓catchK_rt, ↓catchK_exc, unset_rt, hush_rt, hush_nx, hush_ct, fin_exc, ↓bindK_ok, ↓outK_ok, ↓bindK_exc, ↓outK_exc, ↓thenK_nx, ↓thenK_rt, ↓thenK_exc, ↓thenK_bk, ↓thenK_ct, ↓optRK_some, ↓quiet_ok, ↓condK_t, ↓condK_f, ↓truth_bl, qE_slot, qE_isx, qE_k, qE_glob, qE_bin, qE_neg, qE_not, qE_and, qE_or, qE_cmp, qE_chain, qE_ife, qE_ix, qE_slc, qE_rev, qE_tup, qE_lst, qE_call, qE_bi, qE_isi, qE_meth, qE_lc, qE_smeth, qE_get2, qEs_nil, qEs_cons, qAll_nil, qAll_cons, qO_no, qO_some, qI_seq, qI_range1, qI_range2, qI_range3, qI_zip, qI_enum, qI_rev, qT_name, qT_tup, qT_sub, qTs_nil, qTs_cons, qS_asg, qS_par, qS_aug, qS_ife, qS_for, qS_while, qS_ret, qS_retN, qS_drop, qS_pass, qS_brk, qS_cont, qS_raise, qS_try, qS_pick, qSs_nil, qSs_cons, dv_int, dv_bl, dv_str, dv_non, List.getElem?_cons_zero, List.getElem?_cons_succ, List.set_cons_zero, List.set_cons_succ, List.length_cons, List.length_nil, Nat.reduceAdd, Nat.reduceLT, if_true, fin_rt, fin_nx, at_0, at_1, at_2, at_3, itemV_ref, itemV_tup, cmp_eq_int, cmp_ne_int, cmp_lt_int, cmp_le_int, cmp_gt_int, cmp_ge_int, bin_add, bin_sub, bi_int_int, call_5, b5, ↓e2]
  | some mu =>
    obtain ⟨m, u⟩ := mu
    rw [hp] at l
    have e2 := fr _ l
    simp -implicitDefEqProofs -dsimp only [↓bind_K, ↓out_K, ↓then_K, ↓optR_K, ↓cond_K, ↓forL_K, ↓lcL_K, ↓whileL_K, ↓catch_K, ↓catchK_nx, ↓catchK_rt, ↓catchK_exc, unset_rt, hush_rt, hush_nx, hush_ct, fin_exc, ↓bindK_ok, ↓outK_ok, ↓bindK_exc, ↓outK_exc, ↓thenK_nx, ↓thenK_rt, ↓thenK_exc, ↓thenK_bk, ↓thenK_ct, ↓optRK_some, ↓quiet_ok, ↓condK_t, ↓condK_f, ↓truth_bl, qE_slot, qE_isx, qE_k, qE_glob, qE_bin, qE_neg, qE_not, qE_and, qE_or, qE_cmp, qE_chain, qE_ife, qE_ix, qE_slc, qE_rev, qE_tup, qE_lst, qE_call, qE_bi, qE_isi, qE_meth, qE_lc, qE_smeth, qE_get2, qEs_nil, qEs_cons, qAll_nil, qAll_cons, qO_no, qO_some, qI_seq, qI_range1, qI_range2, qI_range3, qI_zip, qI_enum, qI_rev, qT_name, qT_tup, qT_sub, qTs_nil, qTs_cons, qS_asg, qS_par, qS_aug, qS_ife, qS_for, qS_while, qS_ret, qS_retN, qS_drop, qS_pass, qS_brk, qS_cont, qS_raise, qS_try, qS_pick, qSs_nil, qSs_cons, dv_int, dv_bl, dv_str, dv_non, List.getElem?_cons_zero, List.getElem?_cons_succ, List.set_cons_zero, List.set_cons_succ, List.length_cons, List.length_nil, Nat.reduceAdd, Nat.reduceLT, if_true, fin_rt, fin_nx, at_0, at_1, at_2, at_3, itemV_ref, itemV_tup, cmp_eq_int, cmp_ne_int, cmp_lt_int, cmp_le_int, cmp_gt_int, cmp_ge_int, bin_add, bin_sub, bi_int_int, call_5, b5, ↓e2]
end
section
variable {k : Nat} {s : Store} {p q : Int}
/-- what both sides tell -/
def dvM (p q : Int) : DV := match PM p q 30 with
  | none => .non
  | some (m, u) => .tup [.int m, .int (u : Int)]
theorem told_ok (a : Fr 300 p q) : callAt Dt Gt subt (k + 4) 23 [pr p q] s = .ok (dvM p q) s := by
  have c := fun s => multiplier_ok (k := k) (s := s) a
  unfold dvM
  unfold pr at c ⊢
  cases hp : PM p q 30 with
  | none =>
    simp only [hp] at c
    simp -implicitDefEqProofs -dsimp only [↓bind_K, ↓out_K, ↓then_K, ↓optR_K, ↓cond_K, ↓forL_K, ↓lcL_K, ↓whileL_K, ↓catch_K, ↓catchK_nx, ↓catchK_rt, ↓catchK_exc, unset_rt, hush_rt, hush_nx, hush_ct, fin_exc, ↓bindK_ok, ↓outK_ok, ↓bindK_exc, ↓outK_exc, ↓thenK_nx, ↓thenK_rt, ↓thenK_exc, ↓thenK_bk, ↓thenK_ct, ↓optRK_some, ↓quiet_ok, ↓condK_t, ↓condK_f, ↓truth_bl, qE_slot, qE_isx, qE_k, qE_glob, qE_bin, qE_neg, qE_not, qE_and, qE_or, qE_cmp, qE_chain, qE_ife, qE_ix, qE_slc, qE_rev, qE_tup, qE_lst, qE_call, qE_bi, qE_isi, qE_meth, qE_lc, qE_smeth, qE_get2, qEs_nil, qEs_cons, qAll_nil, qAll_cons, qO_no, qO_some, qI_seq, qI_range1, qI_range2, qI_range3, qI_zip, qI_enum, qI_rev, qT_name, qT_tup, qT_sub, qTs_nil, qTs_cons, qS_asg, qS_par, qS_aug, qS_ife, qS_for, qS_while, qS_ret, qS_retN, qS_drop, qS_pass, qS_brk, qS_cont, qS_raise, qS_try, qS_pick, qSs_nil, qSs_cons, dv_int, dv_bl, dv_str, dv_non, List.getElem?_cons_zero, List.getElem?_cons_succ, List.set_cons_zero, List.set_cons_succ, List.length_cons, List.length_nil, Nat.reduceAdd, Nat.reduceLT, if_true, fin_rt, fin_nx, at_0, at_1, at_2, at_3, itemV_ref, itemV_tup, cmp_eq_int, cmp_ne_int, cmp_lt_int, cmp_le_int, cmp_gt_int, cmp_ge_int, bin_add, bin_sub, bi_int_int, call_23, b23, b23l0, b23l1, c, sub_3_0, sub_3_3]
  | some mu =>
    obtain ⟨m, u⟩ := mu
    simp only [hp] at c
    simp -implicitDefEqProofs -dsimp only [↓bind_K, ↓out_K, ↓then_K, ↓optR_K, ↓cond_K, ↓forL_K, ↓lcL_K, ↓whileL_K, ↓catch_K, ↓catchK_nx, ↓catchK_rt, ↓catchK_exc, unset_rt, hush_rt, hush_nx, hush_ct, fin_exc, ↓bindK_ok, ↓outK_ok, ↓bindK_exc, ↓outK_exc, ↓thenK_nx, ↓thenK_rt, ↓thenK_exc, ↓thenK_bk, ↓thenK_ct, ↓optRK_some, ↓quiet_ok, ↓condK_t, ↓condK_f, ↓truth_bl, qE_slot, qE_isx, qE_k, qE_glob, qE_bin, qE_neg, qE_not, qE_and, qE_or, qE_cmp, qE_chain, qE_ife, qE_ix, qE_slc, qE_rev, qE_tup, qE_lst, qE_call, qE_bi, qE_isi, qE_meth, qE_lc, qE_smeth, qE_get2, qEs_nil, qEs_cons, qAll_nil, qAll_cons, qO_no, qO_some, qI_seq, qI_range1, qI_range2, qI_range3, qI_zip, qI_enum, qI_rev, qT_name, qT_tup, qT_sub, qTs_nil, qTs_cons, qS_asg, qS_par, qS_aug, qS_ife, qS_for, qS_while, qS_ret, qS_retN, qS_drop, qS_pass, qS_brk, qS_cont, qS_raise, qS_try, qS_pick, qSs_nil, qSs_cons, dv_int, dv_bl, dv_str, dv_non, List.getElem?_cons_zero, List.getElem?_cons_succ, List.set_cons_zero, List.set_cons_succ, List.length_cons, List.length_nil, Nat.reduceAdd, Nat.reduceLT, if_true, fin_rt, fin_nx, at_0, at_1, at_2, at_3, itemV_ref, itemV_tup, cmp_eq_int, cmp_ne_int, cmp_lt_int, cmp_le_int, cmp_gt_int, cmp_ge_int, bin_add, bin_sub, bi_int_int, call_23, b23, b23l0, b23l1, c, cmpV]
/-- the law's turns downwards -/
theorem lnear (a : Fr 300 p q) {t : Nat} (h : t ≤ 40) : callAt Dt Gt subt (k + 1) 19 [.tup [.int (p * 2 ^ t), .int q]] s = .ok (.int (Nr p q t)) s :=
  near_ok (k := k) (s := s) ⟨(p_sh a h).mono (by decide), a.sq.mono (by decide), a.pos⟩
theorem ltest (a : Fr 300 p q) {t : Nat} (h : t ≤ 40) (w : Option DV) : (fun r s => (evE (callAt Dt Gt subt (k + 1)) Gt subt (.and (.cmp .gt (.slot 1) (.k (.int 1))) (.cmp .gt (.call 19 (.cons (.tup (.cons (.bin .shl (.ix (.slot 0) (.k (.int 0))) (.slot 1)) (.cons (.ix (.slot 0) (.k (.int 1))) (.nil)))) (.nil))) (.k (.int 65535)))) r s).bind fun x s => truth x s) [some (pr p q), some (.int (t : Int)), w] s =
    .ok (decide (1 < t) && decide (65535 < Nr p q t)) s := by
  have c := lnear (k := k) (s := s) a h
  have sh := shl_nat (x := p) (t := t) (s := s) ((a.sp.mono (m := 1000) (by decide))) (by omega)
  have z2 : (2 ≤ sizeLine) = True := eq_true (by decide)
  by_cases h1 : 1 < t
  · have e1 : decide ((1 : Int) < (t : Int)) = true := decide_eq_true (by omega)
    rw [decide_eq_true h1, Bool.true_and]
    simp -implicitDefEqProofs -dsimp only [↓bind_K, ↓out_K, ↓then_K, ↓optR_K, ↓cond_K, ↓forL_K, ↓lcL_K, ↓whileL_K, ↓catch_K, ↓catchK_nx, ↓catchK_rt, ↓catchK_exc, unset_rt, hush_rt, hush_nx, hush_ct, fin_exc, ↓bindK_ok, ↓outK_ok, ↓bindK_exc, ↓outK_exc, ↓thenK_nx, ↓thenK_rt, ↓thenK_exc, ↓thenK_bk, ↓thenK_ct, ↓optRK_some, ↓quiet_ok, ↓condK_t, ↓condK_f, ↓truth_bl, qE_slot, qE_isx, qE_k, qE_glob, qE_bin, qE_neg, qE_not, qE_and, qE_or, qE_cmp, qE_chain, qE_ife, qE_ix, qE_slc, qE_rev, qE_tup, qE_lst, qE_call, qE_bi, qE_isi, qE_meth, qE_lc, qE_smeth, qE_get2, qEs_nil, qEs_cons, qAll_nil, qAll_cons, qO_no, qO_some, qI_seq, qI_range1, qI_range2, qI_range3, qI_zip, qI_enum, qI_rev, qT_name, qT_tup, qT_sub, qTs_nil, qTs_cons, qS_asg, qS_par, qS_aug, qS_ife, qS_for, qS_while, qS_ret, qS_retN, qS_drop, qS_pass, qS_brk, qS_cont, qS_raise, qS_try, qS_pick, qSs_nil, qSs_cons, dv_int, dv_bl, dv_str, dv_non, List.getElem?_cons_zero, List.getElem?_cons_succ, List.set_cons_zero, List.set_cons_succ, List.length_cons, List.length_nil, Nat.reduceAdd, Nat.reduceLT, if_true, fin_rt, fin_nx, at_0, at_1, at_2, at_3, itemV_ref, itemV_tup, cmp_eq_int, cmp_ne_int, cmp_lt_int, cmp_le_int, cmp_gt_int, cmp_ge_int, bin_add, bin_sub, bi_int_int, pr, e1, c, sh, z2]
  · have e1 : decide ((1 : Int) < (t : Int)) = false := decide_eq_false (by omega)
    rw [decide_eq_false h1, Bool.false_and]
    simp -implicitDefEqProofs -dsimp only [↓bind_K, ↓out_K, ↓then_K, ↓optR_K, ↓cond_K, ↓forL_K, ↓lcL_K, ↓whileL_K, ↓catch_K, ↓catchK_nx, ↓catchK_rt, ↓catchK_exc, unset_rt, hush_rt, hush_nx, hush_ct, fin_exc, ↓bindK_ok, ↓outK_ok, ↓bindK_exc, ↓outK_exc, ↓thenK_nx, ↓thenK_rt, ↓thenK_exc, ↓thenK_bk, ↓thenK_ct, ↓optRK_some, ↓quiet_ok, ↓condK_t, ↓condK_f, ↓truth_bl, qE_slot, qE_isx, qE_k, qE_glob, qE_bin, qE_neg, qE_not, qE_and, qE_or, qE_cmp, qE_chain, qE_ife, qE_ix, qE_slc, qE_rev, qE_tup, qE_lst, qE_call, qE_bi, qE_isi, qE_meth, qE_lc, qE_smeth, qE_get2, qEs_nil, qEs_cons, qAll_nil, qAll_cons, qO_no, qO_some, qI_seq, qI_range1, qI_range2, qI_range3, qI_zip, qI_enum, qI_rev, qT_name, qT_tup, qT_sub, qTs_nil, qTs_cons, qS_asg, qS_par, qS_aug, qS_ife, qS_for, qS_while, qS_ret, qS_retN, qS_drop, qS_pass, qS_brk, qS_cont, qS_raise, qS_try, qS_pick, qSs_nil, qSs_cons, dv_int, dv_bl, dv_str, dv_non, List.getElem?_cons_zero, List.getElem?_cons_succ, List.set_cons_zero, List.set_cons_succ, List.length_cons, List.length_nil, Nat.reduceAdd, Nat.reduceLT, if_true, fin_rt, fin_nx, at_0, at_1, at_2, at_3, itemV_ref, itemV_tup, cmp_eq_int, cmp_ne_int, cmp_lt_int, cmp_le_int, cmp_gt_int, cmp_ge_int, bin_add, bin_sub, bi_int_int, pr, e1]
theorem lloop (a : Fr 300 p q) : ∀ (t n : Nat), 0 < t → t ≤ 40 → t < n → ∀ w, whileL (fun r s => (evE (callAt Dt Gt subt (k + 1)) Gt subt (.and (.cmp .gt (.slot 1) (.k (.int 1))) (.cmp .gt (.call 19 (.cons (.tup (.cons (.bin .shl (.ix (.slot 0) (.k (.int 0))) (.slot 1)) (.cons (.ix (.slot 0) (.k (.int 1))) (.nil)))) (.nil))) (.k (.int 65535)))) r s).bind fun x s => truth x s)
    (fun r s => evSs (callAt Dt Gt subt (k + 1)) Gt subt b20l0 r s) n [some (pr p q), some (.int (t : Int)), w] s = .nx [some (pr p q), some (.int ((LW p q t : Nat) : Int)), w] s
  | 0, _, h, _, _, _ => absurd h (Nat.lt_irrefl 0)
  | 1, n + 1, _, _, _, w => by
    have e := ltest (k := k) (s := s) a (t := 1) (by decide) w
    rw [show decide (1 < 1) = false from rfl, Bool.false_and] at e
    exact while_end e
  | t + 2, n + 1, _, h, hn, w => by
    have e := ltest (k := k) (s := s) a h w
    rw [decide_eq_true (show 1 < t + 2 by omega), Bool.true_and] at e
    show _ = Out.nx [some (pr p q), some (.int (((if 65535 < Nr p q (t + 2) then LW p q (t + 1) else t + 2) : Nat) : Int)), w] s
    by_cases h1 : 65535 < Nr p q (t + 2)
    · rw [decide_eq_true h1] at e
      rw [if_pos h1]
      have b : (fun r s => evSs (callAt Dt Gt subt (k + 1)) Gt subt b20l0 r s) [some (pr p q), some (.int ((t + 2 : Nat) : Int)), w] s = .nx [some (pr p q), some (.int ((t + 1 : Nat) : Int)), w] s := by
        have e2 : ((t + 2 : Nat) : Int) - 1 = ((t + 1 : Nat) : Int) := by omega
        simp -implicitDefEqProofs -dsimp only [↓bind_K, ↓out_K, ↓then_K, ↓optR_K, ↓cond_K, ↓forL_K, ↓lcL_K, ↓whileL_K, ↓catch_K, ↓catchK_nx, ↓catchK_rt, ↓catchK_exc, unset_rt, hush_rt, hush_nx, hush_ct, fin_exc, ↓bindK_ok, ↓outK_ok, ↓bindK_exc, ↓outK_exc, ↓thenK_nx, ↓thenK_rt, ↓thenK_exc, ↓thenK_bk, ↓thenK_ct, ↓optRK_some, ↓quiet_ok, ↓condK_t, ↓condK_f, ↓truth_bl, qE_slot, qE_isx, qE_k, qE_glob, qE_bin, qE_neg, qE_not, qE_and, qE_or, qE_cmp, qE_chain, qE_ife, qE_ix, qE_slc, qE_rev, qE_tup, qE_lst, qE_call, qE_bi, qE_isi, qE_meth, qE_lc, qE_smeth, qE_get2, qEs_nil, qEs_cons, qAll_nil, qAll_cons, qO_no, qO_some, qI_seq, qI_range1, qI_range2, qI_range3, qI_zip, qI_enum, qI_rev, qT_name, qT_tup, qT_sub, qTs_nil, qTs_cons, qS_asg, qS_par, qS_aug, qS_ife, qS_for, qS_while, qS_ret, qS_retN, qS_drop, qS_pass, qS_brk, qS_cont, qS_raise, qS_try, qS_pick, qSs_nil, qSs_cons, dv_int, dv_bl, dv_str, dv_non, List.getElem?_cons_zero, List.getElem?_cons_succ, List.set_cons_zero, List.set_cons_succ, List.length_cons, List.length_nil, Nat.reduceAdd, Nat.reduceLT, if_true, fin_rt, fin_nx, at_0, at_1, at_2, at_3, itemV_ref, itemV_tup, cmp_eq_int, cmp_ne_int, cmp_lt_int, cmp_le_int, cmp_gt_int, cmp_ge_int, bin_add, bin_sub, bi_int_int, b20l0, e2]
      rw [while_go e b]
      exact lloop a (t + 1) n (by omega) (by omega) (by omega) w
    · rw [decide_eq_false h1] at e
      rw [if_neg h1]
      exact while_end e
theorem lmult_ok (a : Fr 300 p q) : callAt Dt Gt subt (k + 2) 20 [pr p q] s = .ok (dvM p q) s := by
  have l := lloop (k := k) (s := s) a 30 turns (by decide) (by decide) (by unfold turns; decide) none
  have l2 : evS (callAt Dt Gt subt (k + 1)) Gt subt (.while_ (.and (.cmp .gt (.slot 1) (.k (.int 1))) (.cmp .gt (.call 19 (.cons (.tup (.cons (.bin .shl (.ix (.slot 0) (.k (.int 0))) (.slot 1)) (.cons (.ix (.slot 0) (.k (.int 1))) (.nil)))) (.nil))) (.k (.int 65535)))) b20l0) [some (pr p q), some (.int 30), none] s = _ := l
  have hle := lw_le (p := p) (q := q) 30
  have c := lnear (k := k) (s := s) a (t := LW p q 30) (by omega)
  have sh := shl_nat (x := p) (t := LW p q 30) (s := s) ((a.sp.mono (m := 1000) (by decide))) (by omega)
  have z2 : (2 ≤ sizeLine) = True := eq_true (by decide)
  have pe : dvM p q = if Nr p q (LW p q 30) = 0 ∨ 65535 < Nr p q (LW p q 30) then .non else .tup [.int (Nr p q (LW p q 30)), .int ((LW p q 30 : Nat) : Int)] := by
    unfold dvM
    rw [pm_lw 29]
    by_cases h : Nr p q (LW p q (29 + 1)) = 0 ∨ 65535 < Nr p q (LW p q (29 + 1))
    · rw [if_pos h, if_pos h]
    · rw [if_neg h, if_neg h]
  rw [pe]
  generalize LW p q 30 = u at *
  unfold pr at l2
  by_cases h0 : Nr p q u = 0
  · have e0 : (Nr p q u == 0) = true := beq_iff_eq.mpr h0
    rw [if_pos (.inl h0)]
    simp -implicitDefEqProofs -dsimp only [↓bind_K, ↓out_K, ↓then_K, ↓optR_K, ↓cond_K, ↓forL_K, ↓lcL_K, ↓whileL_K, ↓catch_K, ↓catchK_nx, ↓catchK_rt, ↓catchK_exc, unset_rt, hush_rt, hush_nx, hush_ct, fin_exc, ↓bindK_ok, ↓outK_ok, ↓bindK_exc, ↓outK_exc, ↓thenK_nx, ↓thenK_rt, ↓thenK_exc, ↓thenK_bk, ↓thenK_ct, ↓optRK_some, ↓quiet_ok, ↓condK_t, ↓condK_f, ↓truth_bl, qE_slot, qE_isx, qE_k, qE_glob, qE_bin, qE_neg, qE_not, qE_and, qE_or, qE_cmp, qE_chain, qE_ife, qE_ix, qE_slc, qE_rev, qE_tup, qE_lst, qE_call, qE_bi, qE_isi, qE_meth, qE_lc, qE_smeth, qE_get2, qEs_nil, qEs_cons, qAll_nil, qAll_cons, qO_no, qO_some, qI_seq, qI_range1, qI_range2, qI_range3, qI_zip, qI_enum, qI_rev, qT_name, qT_tup, qT_sub, qTs_nil, qTs_cons, qS_asg, qS_par, qS_aug, qS_ife, qS_for, qS_while, qS_ret, qS_retN, qS_drop, qS_pass, qS_brk, qS_cont, qS_raise, qS_try, qS_pick, qSs_nil, qSs_cons, dv_int, dv_bl, dv_str, dv_non, List.getElem?_cons_zero, List.getElem?_cons_succ, List.set_cons_zero, List.set_cons_succ, List.length_cons, List.length_nil, Nat.reduceAdd, Nat.reduceLT, if_true, fin_rt, fin_nx, at_0, at_1, at_2, at_3, itemV_ref, itemV_tup, cmp_eq_int, cmp_ne_int, cmp_lt_int, cmp_le_int, cmp_gt_int, cmp_ge_int, bin_add, bin_sub, bi_int_int, pr, call_20, b20, ↓l2, sh, z2, c, e0]
  · have e0 : (Nr p q u == 0) = false := beq_eq_false_iff_ne.mpr h0
    by_cases h1 : 65535 < Nr p q u
    · have e1 : decide (65535 < Nr p q u) = true := decide_eq_true h1
      rw [if_pos (.inr h1)]
      simp -implicitDefEqProofs -dsimp only [↓bind_K, ↓out_K, ↓then_K, ↓optR_K, ↓cond_K, ↓forL_K, ↓lcL_K, ↓whileL_K, ↓catch_K, ↓catchK_nx, ↓catchK_rt, ↓catchK_exc, unset_rt, hush_rt, hush_nx, hush_ct, fin_exc, ↓bindK_ok, ↓outK_ok, ↓bindK_exc, ↓outK_exc, ↓thenK_nx, ↓thenK_rt, ↓thenK_exc, ↓thenK_bk, ↓thenK_ct, ↓optRK_some, ↓quiet_ok, ↓condK_t, ↓condK_f, ↓truth_bl, qE_slot, qE_isx, qE_k, qE_glob, qE_bin, qE_neg, qE_not, qE_and, qE_or, qE_cmp, qE_chain, qE_ife, qE_ix, qE_slc, qE_rev, qE_tup, qE_lst, qE_call, qE_bi, qE_isi, qE_meth, qE_lc, qE_smeth, qE_get2, qEs_nil, qEs_cons, qAll_nil, qAll_cons, qO_no, qO_some, qI_seq, qI_range1, qI_range2, qI_range3, qI_zip, qI_enum, qI_rev, qT_name, qT_tup, qT_sub, qTs_nil, qTs_cons, qS_asg, qS_par, qS_aug, qS_ife, qS_for, qS_while, qS_ret, qS_retN, qS_drop, qS_pass, qS_brk, qS_cont, qS_raise, qS_try, qS_pick, qSs_nil, qSs_cons, dv_int, dv_bl, dv_str, dv_non, List.getElem?_cons_zero, List.getElem?_cons_succ, List.set_cons_zero, List.set_cons_succ, List.length_cons, List.length_nil, Nat.reduceAdd, Nat.reduceLT, if_true, fin_rt, fin_nx, at_0, at_1, at_2, at_3, itemV_ref, itemV_tup, cmp_eq_int, cmp_ne_int, cmp_lt_int, cmp_le_int, cmp_gt_int, cmp_ge_int, bin_add, bin_sub, bi_int_int, pr, call_20, b20, ↓l2, sh, z2, c, e0, e1]
    · have e1 : decide (65535 < Nr p q u) = false := decide_eq_false h1
      rw [if_neg (by omega)]
      simp -implicitDefEqProofs -dsimp only [↓bind_K, ↓out_K, ↓then_K, ↓optR_K, ↓cond_K, ↓forL_K, ↓lcL_K, ↓whileL_K, ↓catch_K, ↓catchK_nx, ↓catchK_rt, ↓catchK_exc, unset_rt, hush_rt, hush_nx, hush_ct, fin_exc, ↓bindK_ok, ↓outK_ok, ↓bindK_exc, ↓outK_exc, ↓thenK_nx, ↓thenK_rt, ↓thenK_exc, ↓thenK_bk, ↓thenK_ct, ↓optRK_some, ↓quiet_ok, ↓condK_t, ↓condK_f, ↓truth_bl, qE_slot, qE_isx, qE_k, qE_glob, qE_bin, qE_neg, qE_not, qE_and, qE_or, qE_cmp, qE_chain, qE_ife, qE_ix, qE_slc, qE_rev, qE_tup, qE_lst, qE_call, qE_bi, qE_isi, qE_meth, qE_lc, qE_smeth, qE_get2, qEs_nil, qEs_cons, qAll_nil, qAll_cons, qO_no, qO_some, qI_seq, qI_range1, qI_range2, qI_range3, qI_zip, qI_enum, qI_rev, qT_name, qT_tup, qT_sub, qTs_nil, qTs_cons, qS_asg, qS_par, qS_aug, qS_ife, qS_for, qS_while, qS_ret, qS_retN, qS_drop, qS_pass, qS_brk, qS_cont, qS_raise, qS_try, qS_pick, qSs_nil, qSs_cons, dv_int, dv_bl, dv_str, dv_non, List.getElem?_cons_zero, List.getElem?_cons_succ, List.set_cons_zero, List.set_cons_succ, List.length_cons, List.length_nil, Nat.reduceAdd, Nat.reduceLT, if_true, fin_rt, fin_nx, at_0, at_1, at_2, at_3, itemV_ref, itemV_tup, cmp_eq_int, cmp_ne_int, cmp_lt_int, cmp_le_int, cmp_gt_int, cmp_ge_int, bin_add, bin_sub, bi_int_int, pr, call_20, b20, ↓l2, sh, z2, c, e0, e1]
end
section
variable {k : Nat} {s : Store} {p q : Int}
theorem cmp_pair {a b c d : Int} : cmpV .ne (.tup [.int a, .int b]) (.tup [.int c, .int d]) s = .ok (!(a == c && b == d)) s := by
  have c1 : ∀ a b : Int, cmpable (.tup [.int a, .int b]) = true := fun a b => by
    unfold cmpable SeqAt.shaped
    simp only [pure?, pures?, pd, pds, PyData.canLay0, PyData.canLayAll0, PyData.depth, PyData.depthAll, Bool.true_and, Bool.and_true]
    try rfl
  have q : deq (.tup [.int a, .int b]) (.tup [.int c, .int d]) = (a == c && b == d) := by
    unfold deq
    simp only [pd, pds, PyData.eqv, PyData.eqvAll, Bool.and_true]
    try rfl
  simp only [cmpV, c1, q]
  rfl
theorem ne_dvM : cmpV .ne (dvM p q) (dvM p q) s = .ok false s := by
  unfold dvM
  split
  · rfl
  · rw [cmp_pair, beq_self_eq_true, beq_self_eq_true]
    rfl
/-! ### the codes -/
def lim (n lo hi : Int) : Int := if n < lo then lo else if hi < n then hi else n
theorem limit_ok {n lo hi : Int} : callAt Dt Gt subt (k + 1) 0 [.int n, .int lo, .int hi] s = .ok (.int (lim n lo hi)) s := by
  unfold lim
  by_cases h : n < lo
  · have e : decide (n < lo) = true := decide_eq_true h
    rw [if_pos h]
    simp -implicitDefEqProofs -dsimp only [↓bind_K, ↓out_K, ↓then_K, ↓optR_K, ↓cond_K, ↓forL_K, ↓lcL_K, ↓whileL_K, ↓catch_K, ↓catchK_nx, ↓catchK_rt, ↓catchK_exc, unset_rt, hush_rt, hush_nx, hush_ct, fin_exc, ↓bindK_ok, ↓outK_ok, ↓bindK_exc, ↓outK_exc, ↓thenK_nx, ↓thenK_rt, ↓thenK_exc, ↓thenK_bk, ↓thenK_ct, ↓optRK_some, ↓quiet_ok, ↓condK_t, ↓condK_f, ↓truth_bl, qE_slot, qE_isx, qE_k, qE_glob, qE_bin, qE_neg, qE_not, qE_and, qE_or, qE_cmp, qE_chain, qE_ife, qE_ix, qE_slc, qE_rev, qE_tup, qE_lst, qE_call, qE_bi, qE_isi, qE_meth, qE_lc, qE_smeth, qE_get2, qEs_nil, qEs_cons, qAll_nil, qAll_cons, qO_no, qO_some, qI_seq, qI_range1, qI_range2, qI_range3, qI_zip, qI_enum, qI_rev, qT_name, qT_tup, qT_sub, qTs_nil, qTs_cons, qS_asg, qS_par, qS_aug, qS_ife, qS_for, qS_while, qS_ret, qS_retN, qS_drop, qS_pass, qS_brk, qS_cont, qS_raise, qS_try, qS_pick, qSs_nil, qSs_cons, dv_int, dv_bl, dv_str, dv_non, List.getElem?_cons_zero, List.getElem?_cons_succ, List.set_cons_zero, List.set_cons_succ, List.length_cons, List.length_nil, Nat.reduceAdd, Nat.reduceLT, if_true, fin_rt, fin_nx, at_0, at_1, at_2, at_3, itemV_ref, itemV_tup, cmp_eq_int, cmp_ne_int, cmp_lt_int, cmp_le_int, cmp_gt_int, cmp_ge_int, bin_add, bin_sub, bi_int_int, call_0, b0, e]
  · have e : decide (n < lo) = false := decide_eq_false h
    rw [if_neg h]
    by_cases h2 : hi < n
    · have e2 : decide (hi < n) = true := decide_eq_true h2
      rw [if_pos h2]
      simp -implicitDefEqProofs -dsimp only [↓bind_K, ↓out_K, ↓then_K, ↓optR_K, ↓cond_K, ↓forL_K, ↓lcL_K, ↓whileL_K, ↓catch_K, ↓catchK_nx, ↓catchK_rt, ↓catchK_exc, unset_rt, hush_rt, hush_nx, hush_ct, fin_exc, ↓bindK_ok, ↓outK_ok, ↓bindK_exc, ↓outK_exc, ↓thenK_nx, ↓thenK_rt, ↓thenK_exc, ↓thenK_bk, ↓thenK_ct, ↓optRK_some, ↓quiet_ok, ↓condK_t, ↓condK_f, ↓truth_bl, qE_slot, qE_isx, qE_k, qE_glob, qE_bin, qE_neg, qE_not, qE_and, qE_or, qE_cmp, qE_chain, qE_ife, qE_ix, qE_slc, qE_rev, qE_tup, qE_lst, qE_call, qE_bi, qE_isi, qE_meth, qE_lc, qE_smeth, qE_get2, qEs_nil, qEs_cons, qAll_nil, qAll_cons, qO_no, qO_some, qI_seq, qI_range1, qI_range2, qI_range3, qI_zip, qI_enum, qI_rev, qT_name, qT_tup, qT_sub, qTs_nil, qTs_cons, qS_asg, qS_par, qS_aug, qS_ife, qS_for, qS_while, qS_ret, qS_retN, qS_drop, qS_pass, qS_brk, qS_cont, qS_raise, qS_try, qS_pick, qSs_nil, qSs_cons, dv_int, dv_bl, dv_str, dv_non, List.getElem?_cons_zero, List.getElem?_cons_succ, List.set_cons_zero, List.set_cons_succ, List.length_cons, List.length_nil, Nat.reduceAdd, Nat.reduceLT, if_true, fin_rt, fin_nx, at_0, at_1, at_2, at_3, itemV_ref, itemV_tup, cmp_eq_int, cmp_ne_int, cmp_lt_int, cmp_le_int, cmp_gt_int, cmp_ge_int, bin_add, bin_sub, bi_int_int, call_0, b0, e, e2]
    · have e2 : decide (hi < n) = false := decide_eq_false h2
      rw [if_neg h2]
      simp -implicitDefEqProofs -dsimp only [↓bind_K, ↓out_K, ↓then_K, ↓optR_K, ↓cond_K, ↓forL_K, ↓lcL_K, ↓whileL_K, ↓catch_K, ↓catchK_nx, ↓catchK_rt, ↓catchK_exc, unset_rt, hush_rt, hush_nx, hush_ct, fin_exc, ↓bindK_ok, ↓outK_ok, ↓bindK_exc, ↓outK_exc, ↓thenK_nx, ↓thenK_rt, ↓thenK_exc, ↓thenK_bk, ↓thenK_ct, ↓optRK_some, ↓quiet_ok, ↓condK_t, ↓condK_f, ↓truth_bl, qE_slot, qE_isx, qE_k, qE_glob, qE_bin, qE_neg, qE_not, qE_and, qE_or, qE_cmp, qE_chain, qE_ife, qE_ix, qE_slc, qE_rev, qE_tup, qE_lst, qE_call, qE_bi, qE_isi, qE_meth, qE_lc, qE_smeth, qE_get2, qEs_nil, qEs_cons, qAll_nil, qAll_cons, qO_no, qO_some, qI_seq, qI_range1, qI_range2, qI_range3, qI_zip, qI_enum, qI_rev, qT_name, qT_tup, qT_sub, qTs_nil, qTs_cons, qS_asg, qS_par, qS_aug, qS_ife, qS_for, qS_while, qS_ret, qS_retN, qS_drop, qS_pass, qS_brk, qS_cont, qS_raise, qS_try, qS_pick, qSs_nil, qSs_cons, dv_int, dv_bl, dv_str, dv_non, List.getElem?_cons_zero, List.getElem?_cons_succ, List.set_cons_zero, List.set_cons_succ, List.length_cons, List.length_nil, Nat.reduceAdd, Nat.reduceLT, if_true, fin_rt, fin_nx, at_0, at_1, at_2, at_3, itemV_ref, itemV_tup, cmp_eq_int, cmp_ne_int, cmp_lt_int, cmp_le_int, cmp_gt_int, cmp_ge_int, bin_add, bin_sub, bi_int_int, call_0, b0, e, e2]
theorem bits_ok {b : Int} (h1 : 3 ≤ b) (h2 : b ≤ 12) : callAt Dt Gt subt (k + 1) 6 [.int b] s = .ok .non s := by
  have e1 : decide (3 ≤ b) = true := decide_eq_true h1
  have e2 : decide (b ≤ 12) = true := decide_eq_true h2
  simp -implicitDefEqProofs -dsimp only [↓bind_K, ↓out_K, ↓then_K, ↓optR_K, ↓cond_K, ↓forL_K, ↓lcL_K, ↓whileL_K, ↓catch_K, ↓catchK_nx, ↓catchK_rt, ↓catchK_exc, unset_rt, hush_rt, hush_nx, hush_ct, fin_exc, ↓bindK_ok, ↓outK_ok, ↓bindK_exc, ↓outK_exc, ↓thenK_nx, ↓thenK_rt, ↓thenK_exc, ↓thenK_bk, ↓thenK_ct, ↓optRK_some, ↓quiet_ok, ↓condK_t, ↓condK_f, ↓truth_bl, qE_slot, qE_isx, qE_k, qE_glob, qE_bin, qE_neg, qE_not, qE_and, qE_or, qE_cmp, qE_chain, qE_ife, qE_ix, qE_slc, qE_rev, qE_tup, qE_lst, qE_call, qE_bi, qE_isi, qE_meth, qE_lc, qE_smeth, qE_get2, qEs_nil, qEs_cons, qAll_nil, qAll_cons, qO_no, qO_some, qI_seq, qI_range1, qI_range2, qI_range3, qI_zip, qI_enum, qI_rev, qT_name, qT_tup, qT_sub, qTs_nil, qTs_cons, qS_asg, qS_par, qS_aug, qS_ife, qS_for, qS_while, qS_ret, qS_retN, qS_drop, qS_pass, qS_brk, qS_cont, qS_raise, qS_try, qS_pick, qSs_nil, qSs_cons, dv_int, dv_bl, dv_str, dv_non, List.getElem?_cons_zero, List.getElem?_cons_succ, List.set_cons_zero, List.set_cons_succ, List.length_cons, List.length_nil, Nat.reduceAdd, Nat.reduceLT, if_true, fin_rt, fin_nx, at_0, at_1, at_2, at_3, itemV_ref, itemV_tup, cmp_eq_int, cmp_ne_int, cmp_lt_int, cmp_le_int, cmp_gt_int, cmp_ge_int, bin_add, bin_sub, bi_int_int, call_6, b6, gt0, gt1, e1, e2, Bool.not_true]
theorem bits_2 : callAt Dt Gt subt (k + 1) 6 [.int 2] s = .exc 2 s := by
  simp -implicitDefEqProofs -dsimp only [↓bind_K, ↓out_K, ↓then_K, ↓optR_K, ↓cond_K, ↓forL_K, ↓lcL_K, ↓whileL_K, ↓catch_K, ↓catchK_nx, ↓catchK_rt, ↓catchK_exc, unset_rt, hush_rt, hush_nx, hush_ct, fin_exc, ↓bindK_ok, ↓outK_ok, ↓bindK_exc, ↓outK_exc, ↓thenK_nx, ↓thenK_rt, ↓thenK_exc, ↓thenK_bk, ↓thenK_ct, ↓optRK_some, ↓quiet_ok, ↓condK_t, ↓condK_f, ↓truth_bl, qE_slot, qE_isx, qE_k, qE_glob, qE_bin, qE_neg, qE_not, qE_and, qE_or, qE_cmp, qE_chain, qE_ife, qE_ix, qE_slc, qE_rev, qE_tup, qE_lst, qE_call, qE_bi, qE_isi, qE_meth, qE_lc, qE_smeth, qE_get2, qEs_nil, qEs_cons, qAll_nil, qAll_cons, qO_no, qO_some, qI_seq, qI_range1, qI_range2, qI_range3, qI_zip, qI_enum, qI_rev, qT_name, qT_tup, qT_sub, qTs_nil, qTs_cons, qS_asg, qS_par, qS_aug, qS_ife, qS_for, qS_while, qS_ret, qS_retN, qS_drop, qS_pass, qS_brk, qS_cont, qS_raise, qS_try, qS_pick, qSs_nil, qSs_cons, dv_int, dv_bl, dv_str, dv_non, List.getElem?_cons_zero, List.getElem?_cons_succ, List.set_cons_zero, List.set_cons_succ, List.length_cons, List.length_nil, Nat.reduceAdd, Nat.reduceLT, if_true, fin_rt, fin_nx, at_0, at_1, at_2, at_3, itemV_ref, itemV_tup, cmp_eq_int, cmp_ne_int, cmp_lt_int, cmp_le_int, cmp_gt_int, cmp_ge_int, bin_add, bin_sub, bi_int_int, call_6, b6, gt0, gt1, show decide ((3 : Int) ≤ 2) = false by decide, Bool.not_false]
theorem bits_13 : callAt Dt Gt subt (k + 1) 6 [.int 13] s = .exc 2 s := by
  simp -implicitDefEqProofs -dsimp only [↓bind_K, ↓out_K, ↓then_K, ↓optR_K, ↓cond_K, ↓forL_K, ↓lcL_K, ↓whileL_K, ↓catch_K, ↓catchK_nx, ↓catchK_rt, ↓catchK_exc, unset_rt, hush_rt, hush_nx, hush_ct, fin_exc, ↓bindK_ok, ↓outK_ok, ↓bindK_exc, ↓outK_exc, ↓thenK_nx, ↓thenK_rt, ↓thenK_exc, ↓thenK_bk, ↓thenK_ct, ↓optRK_some, ↓quiet_ok, ↓condK_t, ↓condK_f, ↓truth_bl, qE_slot, qE_isx, qE_k, qE_glob, qE_bin, qE_neg, qE_not, qE_and, qE_or, qE_cmp, qE_chain, qE_ife, qE_ix, qE_slc, qE_rev, qE_tup, qE_lst, qE_call, qE_bi, qE_isi, qE_meth, qE_lc, qE_smeth, qE_get2, qEs_nil, qEs_cons, qAll_nil, qAll_cons, qO_no, qO_some, qI_seq, qI_range1, qI_range2, qI_range3, qI_zip, qI_enum, qI_rev, qT_name, qT_tup, qT_sub, qTs_nil, qTs_cons, qS_asg, qS_par, qS_aug, qS_ife, qS_for, qS_while, qS_ret, qS_retN, qS_drop, qS_pass, qS_brk, qS_cont, qS_raise, qS_try, qS_pick, qSs_nil, qSs_cons, dv_int, dv_bl, dv_str, dv_non, List.getElem?_cons_zero, List.getElem?_cons_succ, List.set_cons_zero, List.set_cons_succ, List.length_cons, List.length_nil, Nat.reduceAdd, Nat.reduceLT, if_true, fin_rt, fin_nx, at_0, at_1, at_2, at_3, itemV_ref, itemV_tup, cmp_eq_int, cmp_ne_int, cmp_lt_int, cmp_le_int, cmp_gt_int, cmp_ge_int, bin_add, bin_sub, bi_int_int, call_6, b6, gt0, gt1, show decide ((3 : Int) ≤ 13) = true by decide, show decide ((13 : Int) ≤ 12) = false by decide, Bool.not_false]
theorem range_ok {j : Nat} (h : j ≤ 40) : callAt Dt Gt subt (k + 1) 7 [.int ((j + 1 : Nat) : Int)] s = .ok (pr (-(2 ^ j)) (2 ^ j - 1)) s := by
  have e : ((j + 1 : Nat) : Int) - 1 = (j : Int) := by omega
  have sh := shl_nat (x := 1) (t := j) (s := s) (by decide) (by omega)
  rw [Int.one_mul] at sh
  have z2 : (2 ≤ sizeLine) = True := eq_true (by decide)
  simp -implicitDefEqProofs -dsimp only [↓bind_K, ↓out_K, ↓then_K, ↓optR_K, ↓cond_K, ↓forL_K, ↓lcL_K, ↓whileL_K, ↓catch_K, ↓catchK_nx, ↓catchK_rt, ↓catchK_exc, unset_rt, hush_rt, hush_nx, hush_ct, fin_exc, ↓bindK_ok, ↓outK_ok, ↓bindK_exc, ↓outK_exc, ↓thenK_nx, ↓thenK_rt, ↓thenK_exc, ↓thenK_bk, ↓thenK_ct, ↓optRK_some, ↓quiet_ok, ↓condK_t, ↓condK_f, ↓truth_bl, qE_slot, qE_isx, qE_k, qE_glob, qE_bin, qE_neg, qE_not, qE_and, qE_or, qE_cmp, qE_chain, qE_ife, qE_ix, qE_slc, qE_rev, qE_tup, qE_lst, qE_call, qE_bi, qE_isi, qE_meth, qE_lc, qE_smeth, qE_get2, qEs_nil, qEs_cons, qAll_nil, qAll_cons, qO_no, qO_some, qI_seq, qI_range1, qI_range2, qI_range3, qI_zip, qI_enum, qI_rev, qT_name, qT_tup, qT_sub, qTs_nil, qTs_cons, qS_asg, qS_par, qS_aug, qS_ife, qS_for, qS_while, qS_ret, qS_retN, qS_drop, qS_pass, qS_brk, qS_cont, qS_raise, qS_try, qS_pick, qSs_nil, qSs_cons, dv_int, dv_bl, dv_str, dv_non, List.getElem?_cons_zero, List.getElem?_cons_succ, List.set_cons_zero, List.set_cons_succ, List.length_cons, List.length_nil, Nat.reduceAdd, Nat.reduceLT, if_true, fin_rt, fin_nx, at_0, at_1, at_2, at_3, itemV_ref, itemV_tup, cmp_eq_int, cmp_ne_int, cmp_lt_int, cmp_le_int, cmp_gt_int, cmp_ge_int, bin_add, bin_sub, bi_int_int, pr, call_7, b7, e, sh, z2]
theorem ends_ok {j : Nat} (h : j ≤ 40) : callAt Dt Gt subt (k + 1) 21 [.int ((j + 1 : Nat) : Int)] s = .ok (pr (-(2 ^ j)) (2 ^ j - 1)) s := by
  have e : ((j + 1 : Nat) : Int) - 1 = (j : Int) := by omega
  have z2 : (2 ≤ sizeLine) = True := eq_true (by decide)
  have key := for_word (f := .free) (body := fun x r s => (evT (callAt Dt Gt subt k) Gt subt (.name 2) x r s).out r fun r s => evSs (callAt Dt Gt subt k) Gt subt b21l0 r s) (all := (List.range j).map fun (i : Nat) => DV.int (0 + (i : Int)))
    (r := [some (.int ((j + 1 : Nat) : Int)), some (.int 1), none]) (s := s)
    (fun d r s' => s' = s ∧ ∃ w, r = [some (.int ((j + 1 : Nat) : Int)), some (.int (2 ^ d.length)), w])
    ⟨rfl, none, rfl⟩ (fun _ _ _ _ => free_ok)
    (fun d y e r s' he h => by
      obtain ⟨rfl, w, rfl⟩ := h
      refine ⟨_, _, .inl ?_, rfl, some y, by rw [List.length_append, List.length_singleton, Int.pow_succ]⟩
      simp -implicitDefEqProofs -dsimp only [↓bind_K, ↓out_K, ↓then_K, ↓optR_K, ↓cond_K, ↓forL_K, ↓lcL_K, ↓whileL_K, ↓catch_K, ↓catchK_nx, ↓catchK_rt, ↓catchK_exc, unset_rt, hush_rt, hush_nx, hush_ct, fin_exc, ↓bindK_ok, ↓outK_ok, ↓bindK_exc, ↓outK_exc, ↓thenK_nx, ↓thenK_rt, ↓thenK_exc, ↓thenK_bk, ↓thenK_ct, ↓optRK_some, ↓quiet_ok, ↓condK_t, ↓condK_f, ↓truth_bl, qE_slot, qE_isx, qE_k, qE_glob, qE_bin, qE_neg, qE_not, qE_and, qE_or, qE_cmp, qE_chain, qE_ife, qE_ix, qE_slc, qE_rev, qE_tup, qE_lst, qE_call, qE_bi, qE_isi, qE_meth, qE_lc, qE_smeth, qE_get2, qEs_nil, qEs_cons, qAll_nil, qAll_cons, qO_no, qO_some, qI_seq, qI_range1, qI_range2, qI_range3, qI_zip, qI_enum, qI_rev, qT_name, qT_tup, qT_sub, qTs_nil, qTs_cons, qS_asg, qS_par, qS_aug, qS_ife, qS_for, qS_while, qS_ret, qS_retN, qS_drop, qS_pass, qS_brk, qS_cont, qS_raise, qS_try, qS_pick, qSs_nil, qSs_cons, dv_int, dv_bl, dv_str, dv_non, List.getElem?_cons_zero, List.getElem?_cons_succ, List.set_cons_zero, List.set_cons_succ, List.length_cons, List.length_nil, Nat.reduceAdd, Nat.reduceLT, if_true, fin_rt, fin_nx, at_0, at_1, at_2, at_3, itemV_ref, itemV_tup, cmp_eq_int, cmp_ne_int, cmp_lt_int, cmp_le_int, cmp_gt_int, cmp_ge_int, bin_add, bin_sub, bi_int_int, b21l0, bin_mul (mulOk_r (j := 2) (by decide))])
  obtain ⟨r', s', h1, rfl, w, rfl⟩ := key
  rw [List.length_map, List.length_range] at h1
  have rg : (-(2 ^ 62) ≤ (j : Int) ∧ (j : Int) < 2 ^ 62) = True := eq_true (by omega)
  have c1 : evS (callAt Dt Gt subt k) Gt subt (.for_ (.name 2) (.range1 (.bin .sub (.slot 0) (.k (.int 1)))) b21l0) [some (.int ((j + 1 : Nat) : Int)), some (.int 1), none] s' = _ := evS_for (by
    simp -implicitDefEqProofs -dsimp only [↓bind_K, ↓out_K, ↓then_K, ↓optR_K, ↓cond_K, ↓forL_K, ↓lcL_K, ↓whileL_K, ↓catch_K, ↓catchK_nx, ↓catchK_rt, ↓catchK_exc, unset_rt, hush_rt, hush_nx, hush_ct, fin_exc, ↓bindK_ok, ↓outK_ok, ↓bindK_exc, ↓outK_exc, ↓thenK_nx, ↓thenK_rt, ↓thenK_exc, ↓thenK_bk, ↓thenK_ct, ↓optRK_some, ↓quiet_ok, ↓condK_t, ↓condK_f, ↓truth_bl, qE_slot, qE_isx, qE_k, qE_glob, qE_bin, qE_neg, qE_not, qE_and, qE_or, qE_cmp, qE_chain, qE_ife, qE_ix, qE_slc, qE_rev, qE_tup, qE_lst, qE_call, qE_bi, qE_isi, qE_meth, qE_lc, qE_smeth, qE_get2, qEs_nil, qEs_cons, qAll_nil, qAll_cons, qO_no, qO_some, qI_seq, qI_range1, qI_range2, qI_range3, qI_zip, qI_enum, qI_rev, qT_name, qT_tup, qT_sub, qTs_nil, qTs_cons, qS_asg, qS_par, qS_aug, qS_ife, qS_for, qS_while, qS_ret, qS_retN, qS_drop, qS_pass, qS_brk, qS_cont, qS_raise, qS_try, qS_pick, qSs_nil, qSs_cons, dv_int, dv_bl, dv_str, dv_non, List.getElem?_cons_zero, List.getElem?_cons_succ, List.set_cons_zero, List.set_cons_succ, List.length_cons, List.length_nil, Nat.reduceAdd, Nat.reduceLT, if_true, fin_rt, fin_nx, at_0, at_1, at_2, at_3, itemV_ref, itemV_tup, cmp_eq_int, cmp_ne_int, cmp_lt_int, cmp_le_int, cmp_gt_int, cmp_ge_int, bin_add, bin_sub, bi_int_int, e, rg]
    rfl) h1
  have n0 : (0 : Int) - 2 ^ j = -(2 ^ j) := Int.zero_sub _
  simp -implicitDefEqProofs -dsimp only [↓bind_K, ↓out_K, ↓then_K, ↓optR_K, ↓cond_K, ↓forL_K, ↓lcL_K, ↓whileL_K, ↓catch_K, ↓catchK_nx, ↓catchK_rt, ↓catchK_exc, unset_rt, hush_rt, hush_nx, hush_ct, fin_exc, ↓bindK_ok, ↓outK_ok, ↓bindK_exc, ↓outK_exc, ↓thenK_nx, ↓thenK_rt, ↓thenK_exc, ↓thenK_bk, ↓thenK_ct, ↓optRK_some, ↓quiet_ok, ↓condK_t, ↓condK_f, ↓truth_bl, qE_slot, qE_isx, qE_k, qE_glob, qE_bin, qE_neg, qE_not, qE_and, qE_or, qE_cmp, qE_chain, qE_ife, qE_ix, qE_slc, qE_rev, qE_tup, qE_lst, qE_call, qE_bi, qE_isi, qE_meth, qE_lc, qE_smeth, qE_get2, qEs_nil, qEs_cons, qAll_nil, qAll_cons, qO_no, qO_some, qI_seq, qI_range1, qI_range2, qI_range3, qI_zip, qI_enum, qI_rev, qT_name, qT_tup, qT_sub, qTs_nil, qTs_cons, qS_asg, qS_par, qS_aug, qS_ife, qS_for, qS_while, qS_ret, qS_retN, qS_drop, qS_pass, qS_brk, qS_cont, qS_raise, qS_try, qS_pick, qSs_nil, qSs_cons, dv_int, dv_bl, dv_str, dv_non, List.getElem?_cons_zero, List.getElem?_cons_succ, List.set_cons_zero, List.set_cons_succ, List.length_cons, List.length_nil, Nat.reduceAdd, Nat.reduceLT, if_true, fin_rt, fin_nx, at_0, at_1, at_2, at_3, itemV_ref, itemV_tup, cmp_eq_int, cmp_ne_int, cmp_lt_int, cmp_le_int, cmp_gt_int, cmp_ge_int, bin_add, bin_sub, bi_int_int, pr, call_21, b21, ↓c1, n0, z2]
/-- x / scale, rounded -/
def Rd (x y p q : Int) : Int := (2 * (x * q) + y * p) / (2 * (y * p))
variable {x y z : Int} {j : Nat}
theorem fr300 (a : Fr 300 p q) : Fr 400 p q := ⟨a.sp.mono (by decide), a.sq.mono (by decide), a.pos⟩
theorem mpos {a b : Int} (h : 0 < a) (h2 : 0 < b) : 0 < a * b := Int.mul_pos h h2
theorem rd_near (a : Fr 300 p q) (hp : 0 < p) (b : Fr 300 x y) : callAt Dt Gt subt (k + 1) 4 [pr (top (x * q) (y * p)) (bot (x * q) (y * p))] s = .ok (.int (Rd x y p q)) s := by
  have hd := mpos b.pos hp
  have e := nearest_ok (k := k) (s := s) (fr_made (m := 1000) (n := x * q) (d := y * p) (by omega) ((b.sp.mul a.sq).mono (by decide)) ((b.sq.mul a.sp).mono (by decide)))
  rw [near_red hd] at e
  exact e
theorem rd_lnear (a : Fr 300 p q) (hp : 0 < p) (b : Fr 300 x y) : callAt Dt Gt subt (k + 1) 19 [pr (top (x * q) (y * p)) (bot (x * q) (y * p))] s = .ok (.int (Rd x y p q)) s := by
  have hd := mpos b.pos hp
  have e := near_ok (k := k) (s := s) (fr_made (m := 1000) (n := x * q) (d := y * p) (by omega) ((b.sp.mul a.sq).mono (by decide)) ((b.sq.mul a.sp).mono (by decide)))
  rw [near_red hd] at e
  exact e
theorem code_ok (a : Fr 300 p q) (hp : 0 < p) (b : Fr 300 x y) (h1 : 2 ≤ j) (h2 : j ≤ 11) : callAt Dt Gt subt (k + 3) 8 [.tup [pr p q, .int z], .int ((j + 1 : Nat) : Int), pr x y] s = .ok (.int (lim (Rd x y p q + z) (-(2 ^ j)) (2 ^ j - 1))) s := by
  have c1 := fun s => bits_ok (k := k + 1) (s := s) (b := ((j + 1 : Nat) : Int)) (by omega) (by omega)
  have c2 := fun s => range_ok (k := k + 1) (s := s) (j := j) (by omega)
  have c3 := fun s => over_ok (k := k) (s := s) (fr300 b) (fr300 a) (by omega)
  have c4 := fun s => rd_near (k := k + 1) (s := s) a hp b
  have c5 := fun s n => limit_ok (k := k + 1) (s := s) (n := n) (lo := -(2 ^ j)) (hi := 2 ^ j - 1)
  unfold pr at c2 c3 c4 ⊢
  simp -implicitDefEqProofs -dsimp only [↓bind_K, ↓out_K, ↓then_K, ↓optR_K, ↓cond_K, ↓forL_K, ↓lcL_K, ↓whileL_K, ↓catch_K, ↓catchK_nx, ↓catchK_rt, ↓catchK_exc, unset_rt, hush_rt, hush_nx, hush_ct, fin_exc, ↓bindK_ok, ↓outK_ok, ↓bindK_exc, ↓outK_exc, ↓thenK_nx, ↓thenK_rt, ↓thenK_exc, ↓thenK_bk, ↓thenK_ct, ↓optRK_some, ↓quiet_ok, ↓condK_t, ↓condK_f, ↓truth_bl, qE_slot, qE_isx, qE_k, qE_glob, qE_bin, qE_neg, qE_not, qE_and, qE_or, qE_cmp, qE_chain, qE_ife, qE_ix, qE_slc, qE_rev, qE_tup, qE_lst, qE_call, qE_bi, qE_isi, qE_meth, qE_lc, qE_smeth, qE_get2, qEs_nil, qEs_cons, qAll_nil, qAll_cons, qO_no, qO_some, qI_seq, qI_range1, qI_range2, qI_range3, qI_zip, qI_enum, qI_rev, qT_name, qT_tup, qT_sub, qTs_nil, qTs_cons, qS_asg, qS_par, qS_aug, qS_ife, qS_for, qS_while, qS_ret, qS_retN, qS_drop, qS_pass, qS_brk, qS_cont, qS_raise, qS_try, qS_pick, qSs_nil, qSs_cons, dv_int, dv_bl, dv_str, dv_non, List.getElem?_cons_zero, List.getElem?_cons_succ, List.set_cons_zero, List.set_cons_succ, List.length_cons, List.length_nil, Nat.reduceAdd, Nat.reduceLT, if_true, fin_rt, fin_nx, at_0, at_1, at_2, at_3, itemV_ref, itemV_tup, cmp_eq_int, cmp_ne_int, cmp_lt_int, cmp_le_int, cmp_gt_int, cmp_ge_int, bin_add, bin_sub, bi_int_int, call_8, b8, c1, c2, c3, c4, c5]
theorem coded_ok (a : Fr 300 p q) (hp : 0 < p) (b : Fr 300 x y) (h1 : 2 ≤ j) (h2 : j ≤ 11) : callAt Dt Gt subt (k + 4) 24 [.tup [pr p q, .int z], .int ((j + 1 : Nat) : Int), pr x y] s = .ok (.int (lim (Rd x y p q + z) (-(2 ^ j)) (2 ^ j - 1))) s := by
  have c := fun s => code_ok (k := k) (s := s) (z := z) a hp b h1 h2
  unfold pr at c ⊢
  simp -implicitDefEqProofs -dsimp only [↓bind_K, ↓out_K, ↓then_K, ↓optR_K, ↓cond_K, ↓forL_K, ↓lcL_K, ↓whileL_K, ↓catch_K, ↓catchK_nx, ↓catchK_rt, ↓catchK_exc, unset_rt, hush_rt, hush_nx, hush_ct, fin_exc, ↓bindK_ok, ↓outK_ok, ↓bindK_exc, ↓outK_exc, ↓thenK_nx, ↓thenK_rt, ↓thenK_exc, ↓thenK_bk, ↓thenK_ct, ↓optRK_some, ↓quiet_ok, ↓condK_t, ↓condK_f, ↓truth_bl, qE_slot, qE_isx, qE_k, qE_glob, qE_bin, qE_neg, qE_not, qE_and, qE_or, qE_cmp, qE_chain, qE_ife, qE_ix, qE_slc, qE_rev, qE_tup, qE_lst, qE_call, qE_bi, qE_isi, qE_meth, qE_lc, qE_smeth, qE_get2, qEs_nil, qEs_cons, qAll_nil, qAll_cons, qO_no, qO_some, qI_seq, qI_range1, qI_range2, qI_range3, qI_zip, qI_enum, qI_rev, qT_name, qT_tup, qT_sub, qTs_nil, qTs_cons, qS_asg, qS_par, qS_aug, qS_ife, qS_for, qS_while, qS_ret, qS_retN, qS_drop, qS_pass, qS_brk, qS_cont, qS_raise, qS_try, qS_pick, qSs_nil, qSs_cons, dv_int, dv_bl, dv_str, dv_non, List.getElem?_cons_zero, List.getElem?_cons_succ, List.set_cons_zero, List.set_cons_succ, List.length_cons, List.length_nil, Nat.reduceAdd, Nat.reduceLT, if_true, fin_rt, fin_nx, at_0, at_1, at_2, at_3, itemV_ref, itemV_tup, cmp_eq_int, cmp_ne_int, cmp_lt_int, cmp_le_int, cmp_gt_int, cmp_ge_int, bin_add, bin_sub, bi_int_int, call_24, b24, b24l0, b24l1, c, cmpV]
theorem coded_bad {b : Int} (h : ∀ s, callAt Dt Gt subt (k + 2) 6 [.int b] s = .exc 2 s) {u v : List DV} : callAt Dt Gt subt (k + 4) 24 [.tup u, .int b, .tup v] s = .ok .non s := by
  have c : ∀ s, callAt Dt Gt subt (k + 3) 8 [.tup u, .int b, .tup v] s = .exc 2 s := fun s => by
    simp -implicitDefEqProofs -dsimp only [↓bind_K, ↓out_K, ↓then_K, ↓optR_K, ↓cond_K, ↓forL_K, ↓lcL_K, ↓whileL_K, ↓catch_K, ↓catchK_nx, ↓catchK_rt, ↓catchK_exc, unset_rt, hush_rt, hush_nx, hush_ct, fin_exc, ↓bindK_ok, ↓outK_ok, ↓bindK_exc, ↓outK_exc, ↓thenK_nx, ↓thenK_rt, ↓thenK_exc, ↓thenK_bk, ↓thenK_ct, ↓optRK_some, ↓quiet_ok, ↓condK_t, ↓condK_f, ↓truth_bl, qE_slot, qE_isx, qE_k, qE_glob, qE_bin, qE_neg, qE_not, qE_and, qE_or, qE_cmp, qE_chain, qE_ife, qE_ix, qE_slc, qE_rev, qE_tup, qE_lst, qE_call, qE_bi, qE_isi, qE_meth, qE_lc, qE_smeth, qE_get2, qEs_nil, qEs_cons, qAll_nil, qAll_cons, qO_no, qO_some, qI_seq, qI_range1, qI_range2, qI_range3, qI_zip, qI_enum, qI_rev, qT_name, qT_tup, qT_sub, qTs_nil, qTs_cons, qS_asg, qS_par, qS_aug, qS_ife, qS_for, qS_while, qS_ret, qS_retN, qS_drop, qS_pass, qS_brk, qS_cont, qS_raise, qS_try, qS_pick, qSs_nil, qSs_cons, dv_int, dv_bl, dv_str, dv_non, List.getElem?_cons_zero, List.getElem?_cons_succ, List.set_cons_zero, List.set_cons_succ, List.length_cons, List.length_nil, Nat.reduceAdd, Nat.reduceLT, if_true, fin_rt, fin_nx, at_0, at_1, at_2, at_3, itemV_ref, itemV_tup, cmp_eq_int, cmp_ne_int, cmp_lt_int, cmp_le_int, cmp_gt_int, cmp_ge_int, bin_add, bin_sub, bi_int_int, call_8, b8, h]
  simp -implicitDefEqProofs -dsimp only [↓bind_K, ↓out_K, ↓then_K, ↓optR_K, ↓cond_K, ↓forL_K, ↓lcL_K, ↓whileL_K, ↓catch_K, ↓catchK_nx, ↓catchK_rt, ↓catchK_exc, unset_rt, hush_rt, hush_nx, hush_ct, fin_exc, ↓bindK_ok, ↓outK_ok, ↓bindK_exc, ↓outK_exc, ↓thenK_nx, ↓thenK_rt, ↓thenK_exc, ↓thenK_bk, ↓thenK_ct, ↓optRK_some, ↓quiet_ok, ↓condK_t, ↓condK_f, ↓truth_bl, qE_slot, qE_isx, qE_k, qE_glob, qE_bin, qE_neg, qE_not, qE_and, qE_or, qE_cmp, qE_chain, qE_ife, qE_ix, qE_slc, qE_rev, qE_tup, qE_lst, qE_call, qE_bi, qE_isi, qE_meth, qE_lc, qE_smeth, qE_get2, qEs_nil, qEs_cons, qAll_nil, qAll_cons, qO_no, qO_some, qI_seq, qI_range1, qI_range2, qI_range3, qI_zip, qI_enum, qI_rev, qT_name, qT_tup, qT_sub, qTs_nil, qTs_cons, qS_asg, qS_par, qS_aug, qS_ife, qS_for, qS_while, qS_ret, qS_retN, qS_drop, qS_pass, qS_brk, qS_cont, qS_raise, qS_try, qS_pick, qSs_nil, qSs_cons, dv_int, dv_bl, dv_str, dv_non, List.getElem?_cons_zero, List.getElem?_cons_succ, List.set_cons_zero, List.set_cons_succ, List.length_cons, List.length_nil, Nat.reduceAdd, Nat.reduceLT, if_true, fin_rt, fin_nx, at_0, at_1, at_2, at_3, itemV_ref, itemV_tup, cmp_eq_int, cmp_ne_int, cmp_lt_int, cmp_le_int, cmp_gt_int, cmp_ge_int, bin_add, bin_sub, bi_int_int, call_24, b24, b24l0, b24l1, c, sub_2_0, sub_2_2]
theorem lim_is {n lo hi : Int} (h : lo ≤ hi) {s : Store} : (biV .min2 [.int hi, .int n] s).bind (fun v s => biV .max2 [.int lo, v] s) = .ok (.int (lim n lo hi)) s := by
  unfold lim
  show biV .max2 [.int lo, .int (if n < hi then n else hi)] s = _
  show Res.ok (DV.int (if (if n < hi then n else hi) > lo then (if n < hi then n else hi) else lo)) s = _
  congr 2
  split <;> split <;> (try split) <;> omega
theorem min_ok {n hi : Int} : biV .min2 [.int hi, .int n] s = .ok (.int (if n < hi then n else hi)) s := rfl
theorem max_ok {n lo hi : Int} (h : lo ≤ hi) : biV .max2 [.int lo, .int (if n < hi then n else hi)] s = .ok (.int (lim n lo hi)) s := lim_is h
/-- what a code means -/
theorem means_ok (a : Fr 300 p q) {c : Int} (hc : Sm 30 (c - z)) : callAt Dt Gt subt (k + 3) 9 [.tup [pr p q, .int z], .int c] s = .ok (pr (top (p * (c - z)) q) (bot (p * (c - z)) q)) s := by
  have c1 := fun s => times_ok (k := k) (s := s) (fr300 a) (p' := c - z) (q' := 1) ⟨hc.mono (by decide), by unfold Sm; decide, by decide⟩
  simp only [Int.mul_one] at c1
  have z2 : (2 ≤ sizeLine) = True := eq_true (by decide)
  unfold pr at c1 ⊢
  simp -implicitDefEqProofs -dsimp only [↓bind_K, ↓out_K, ↓then_K, ↓optR_K, ↓cond_K, ↓forL_K, ↓lcL_K, ↓whileL_K, ↓catch_K, ↓catchK_nx, ↓catchK_rt, ↓catchK_exc, unset_rt, hush_rt, hush_nx, hush_ct, fin_exc, ↓bindK_ok, ↓outK_ok, ↓bindK_exc, ↓outK_exc, ↓thenK_nx, ↓thenK_rt, ↓thenK_exc, ↓thenK_bk, ↓thenK_ct, ↓optRK_some, ↓quiet_ok, ↓condK_t, ↓condK_f, ↓truth_bl, qE_slot, qE_isx, qE_k, qE_glob, qE_bin, qE_neg, qE_not, qE_and, qE_or, qE_cmp, qE_chain, qE_ife, qE_ix, qE_slc, qE_rev, qE_tup, qE_lst, qE_call, qE_bi, qE_isi, qE_meth, qE_lc, qE_smeth, qE_get2, qEs_nil, qEs_cons, qAll_nil, qAll_cons, qO_no, qO_some, qI_seq, qI_range1, qI_range2, qI_range3, qI_zip, qI_enum, qI_rev, qT_name, qT_tup, qT_sub, qTs_nil, qTs_cons, qS_asg, qS_par, qS_aug, qS_ife, qS_for, qS_while, qS_ret, qS_retN, qS_drop, qS_pass, qS_brk, qS_cont, qS_raise, qS_try, qS_pick, qSs_nil, qSs_cons, dv_int, dv_bl, dv_str, dv_non, List.getElem?_cons_zero, List.getElem?_cons_succ, List.set_cons_zero, List.set_cons_succ, List.length_cons, List.length_nil, Nat.reduceAdd, Nat.reduceLT, if_true, fin_rt, fin_nx, at_0, at_1, at_2, at_3, itemV_ref, itemV_tup, cmp_eq_int, cmp_ne_int, cmp_lt_int, cmp_le_int, cmp_gt_int, cmp_ge_int, bin_add, bin_sub, bi_int_int, call_9, b9, c1, z2]
theorem lmeans_ok (a : Fr 300 p q) {c : Int} (hc : Sm 30 (c - z)) : callAt Dt Gt subt (k + 3) 22 [.tup [pr p q, .int z], .int c] s = .ok (pr (top (p * (c - z)) q) (bot (p * (c - z)) q)) s := by
  have c1 := fun s => frac_ok (k := k) (s := s) (n := p * (c - z)) (d := q) (by have := a.pos; omega) a.sq (by decide) (by decide)
  unfold pr at c1 ⊢
  simp -implicitDefEqProofs -dsimp only [↓bind_K, ↓out_K, ↓then_K, ↓optR_K, ↓cond_K, ↓forL_K, ↓lcL_K, ↓whileL_K, ↓catch_K, ↓catchK_nx, ↓catchK_rt, ↓catchK_exc, unset_rt, hush_rt, hush_nx, hush_ct, fin_exc, ↓bindK_ok, ↓outK_ok, ↓bindK_exc, ↓outK_exc, ↓thenK_nx, ↓thenK_rt, ↓thenK_exc, ↓thenK_bk, ↓thenK_ct, ↓optRK_some, ↓quiet_ok, ↓condK_t, ↓condK_f, ↓truth_bl, qE_slot, qE_isx, qE_k, qE_glob, qE_bin, qE_neg, qE_not, qE_and, qE_or, qE_cmp, qE_chain, qE_ife, qE_ix, qE_slc, qE_rev, qE_tup, qE_lst, qE_call, qE_bi, qE_isi, qE_meth, qE_lc, qE_smeth, qE_get2, qEs_nil, qEs_cons, qAll_nil, qAll_cons, qO_no, qO_some, qI_seq, qI_range1, qI_range2, qI_range3, qI_zip, qI_enum, qI_rev, qT_name, qT_tup, qT_sub, qTs_nil, qTs_cons, qS_asg, qS_par, qS_aug, qS_ife, qS_for, qS_while, qS_ret, qS_retN, qS_drop, qS_pass, qS_brk, qS_cont, qS_raise, qS_try, qS_pick, qSs_nil, qSs_cons, dv_int, dv_bl, dv_str, dv_non, List.getElem?_cons_zero, List.getElem?_cons_succ, List.set_cons_zero, List.set_cons_succ, List.length_cons, List.length_nil, Nat.reduceAdd, Nat.reduceLT, if_true, fin_rt, fin_nx, at_0, at_1, at_2, at_3, itemV_ref, itemV_tup, cmp_eq_int, cmp_ne_int, cmp_lt_int, cmp_le_int, cmp_gt_int, cmp_ge_int, bin_add, bin_sub, bi_int_int, call_22, b22, c1, bin_mul (okM a.sp hc)]
/-- the gap -/
theorem lgap_ok {b0 b1 : Int} (b : Fr 300 x y) (c : Fr 400 b0 b1) : callAt Dt Gt subt (k + 4) 17 [pr x y, pr b0 b1] s = .ok (pr ((top (x * b1 + (0 - b0) * y) (y * b1)).natAbs : Int) (bot (x * b1 + (0 - b0) * y) (y * b1))) s := by
  have hd := mpos b.pos c.pos
  have n0 : Sm 401 (0 - b0) := by rw [Int.zero_sub]; exact c.sp.neg.mono (by decide)
  have c1 := fun s => frac_ok (k := k) (s := s) (n := x * b1 + (0 - b0) * y) (d := y * b1) (by omega) (b.sq.mul c.sq) (by decide) (by decide)
  have c2 : ∀ s, callAt Dt Gt subt (k + 3) 16 [pr x y, pr (0 - b0) b1] s = .ok (pr (top (x * b1 + (0 - b0) * y) (y * b1)) (bot (x * b1 + (0 - b0) * y) (y * b1))) s := fun s => by
    unfold pr at *
    simp -implicitDefEqProofs -dsimp only [↓bind_K, ↓out_K, ↓then_K, ↓optR_K, ↓cond_K, ↓forL_K, ↓lcL_K, ↓whileL_K, ↓catch_K, ↓catchK_nx, ↓catchK_rt, ↓catchK_exc, unset_rt, hush_rt, hush_nx, hush_ct, fin_exc, ↓bindK_ok, ↓outK_ok, ↓bindK_exc, ↓outK_exc, ↓thenK_nx, ↓thenK_rt, ↓thenK_exc, ↓thenK_bk, ↓thenK_ct, ↓optRK_some, ↓quiet_ok, ↓condK_t, ↓condK_f, ↓truth_bl, qE_slot, qE_isx, qE_k, qE_glob, qE_bin, qE_neg, qE_not, qE_and, qE_or, qE_cmp, qE_chain, qE_ife, qE_ix, qE_slc, qE_rev, qE_tup, qE_lst, qE_call, qE_bi, qE_isi, qE_meth, qE_lc, qE_smeth, qE_get2, qEs_nil, qEs_cons, qAll_nil, qAll_cons, qO_no, qO_some, qI_seq, qI_range1, qI_range2, qI_range3, qI_zip, qI_enum, qI_rev, qT_name, qT_tup, qT_sub, qTs_nil, qTs_cons, qS_asg, qS_par, qS_aug, qS_ife, qS_for, qS_while, qS_ret, qS_retN, qS_drop, qS_pass, qS_brk, qS_cont, qS_raise, qS_try, qS_pick, qSs_nil, qSs_cons, dv_int, dv_bl, dv_str, dv_non, List.getElem?_cons_zero, List.getElem?_cons_succ, List.set_cons_zero, List.set_cons_succ, List.length_cons, List.length_nil, Nat.reduceAdd, Nat.reduceLT, if_true, fin_rt, fin_nx, at_0, at_1, at_2, at_3, itemV_ref, itemV_tup, cmp_eq_int, cmp_ne_int, cmp_lt_int, cmp_le_int, cmp_gt_int, cmp_ge_int, bin_add, bin_sub, bi_int_int, call_16, b16, bin_mul (okM b.sp c.sq), bin_mul (okM n0 b.sq), bin_mul (okM b.sq c.sq), c1]
  have z2 : (2 ≤ sizeLine) = True := eq_true (by decide)
  unfold pr at *
  simp -implicitDefEqProofs -dsimp only [↓bind_K, ↓out_K, ↓then_K, ↓optR_K, ↓cond_K, ↓forL_K, ↓lcL_K, ↓whileL_K, ↓catch_K, ↓catchK_nx, ↓catchK_rt, ↓catchK_exc, unset_rt, hush_rt, hush_nx, hush_ct, fin_exc, ↓bindK_ok, ↓outK_ok, ↓bindK_exc, ↓outK_exc, ↓thenK_nx, ↓thenK_rt, ↓thenK_exc, ↓thenK_bk, ↓thenK_ct, ↓optRK_some, ↓quiet_ok, ↓condK_t, ↓condK_f, ↓truth_bl, qE_slot, qE_isx, qE_k, qE_glob, qE_bin, qE_neg, qE_not, qE_and, qE_or, qE_cmp, qE_chain, qE_ife, qE_ix, qE_slc, qE_rev, qE_tup, qE_lst, qE_call, qE_bi, qE_isi, qE_meth, qE_lc, qE_smeth, qE_get2, qEs_nil, qEs_cons, qAll_nil, qAll_cons, qO_no, qO_some, qI_seq, qI_range1, qI_range2, qI_range3, qI_zip, qI_enum, qI_rev, qT_name, qT_tup, qT_sub, qTs_nil, qTs_cons, qS_asg, qS_par, qS_aug, qS_ife, qS_for, qS_while, qS_ret, qS_retN, qS_drop, qS_pass, qS_brk, qS_cont, qS_raise, qS_try, qS_pick, qSs_nil, qSs_cons, dv_int, dv_bl, dv_str, dv_non, List.getElem?_cons_zero, List.getElem?_cons_succ, List.set_cons_zero, List.set_cons_succ, List.length_cons, List.length_nil, Nat.reduceAdd, Nat.reduceLT, if_true, fin_rt, fin_nx, at_0, at_1, at_2, at_3, itemV_ref, itemV_tup, cmp_eq_int, cmp_ne_int, cmp_lt_int, cmp_le_int, cmp_gt_int, cmp_ge_int, bin_add, bin_sub, bi_int_int, call_17, b17, c2, z2, abs_nat]
/-- the nearest code is at most half a scale away -/
theorem gap_le (hp : 0 < p) (hq : 0 < q) (hy : 0 < y) : 2 * ((top (x * bot (p * Rd x y p q) q + (0 - top (p * Rd x y p q) q) * y) (y * bot (p * Rd x y p q) q)).natAbs : Int) * q ≤ p * bot (x * bot (p * Rd x y p q) q + (0 - top (p * Rd x y p q) q) * y) (y * bot (p * Rd x y p q) q) := by
  have hd := mpos hy hp
  have f1 := Int.ediv_mul_le (2 * (x * q) + y * p) (show 2 * (y * p) ≠ 0 by omega)
  have f2 := Int.lt_ediv_add_one_mul_self (2 * (x * q) + y * p) (show 0 < 2 * (y * p) by omega)
  have hR : Rd x y p q = (2 * (x * q) + y * p) / (2 * (y * p)) := rfl
  rw [← hR] at f1 f2
  generalize Rd x y p q = R at *
  have e1 := mul_top (n := p * R) (d := q) (by omega)
  have g1 := bot_pos (n := p * R) (d := q) (by omega)
  generalize top (p * R) q = t at *
  generalize bot (p * R) q = u at *
  have e2 := mul_top (n := x * u + (0 - t) * y) (d := y * u) (by have := mpos hy g1; omega)
  have g2 := bot_pos (n := x * u + (0 - t) * y) (d := y * u) (by have := mpos hy g1; omega)
  generalize top (x * u + (0 - t) * y) (y * u) = c0 at *
  generalize bot (x * u + (0 - t) * y) (y * u) = c1 at *
  -- c0 * (y * u) * q = (x * q - p * R * y) * u * c1
  have k1 : (c0 * q) * (y * u) = ((x * q - p * R * y) * c1) * u := by
    have : (c0 * q) * (y * u) = (c0 * (y * u)) * q := by ac_rfl
    rw [this, e2]
    have : (x * u + (0 - t) * y) * c1 * q = (x * q * u - (t * q) * y) * c1 := by
      rw [Int.zero_sub]
      simp only [Int.add_mul, Int.sub_mul, Int.neg_mul, Int.sub_eq_add_neg]
      congr 1
      · ac_rfl
      · congr 1
        ac_rfl
    rw [this, e1]
    simp only [Int.sub_mul]
    congr 1 <;> ac_rfl
  have k2 : (c0 * q) * y = (x * q - p * R * y) * c1 := by
    have h : ((c0 * q) * y) * u = ((x * q - p * R * y) * c1) * u := by rw [← k1]; ac_rfl
    exact Int.eq_of_mul_eq_mul_right (by omega) h
  -- |2 (x q - p R y)| ≤ y p
  have b1 : 2 * (x * q - p * R * y) ≤ y * p := by
    have : (R + 1) * (2 * (y * p)) = 2 * (p * R * y) + 2 * (y * p) := by
      rw [Int.add_mul, Int.one_mul]
      congr 1
      ac_rfl
    omega
  have b2 : -(y * p) ≤ 2 * (x * q - p * R * y) := by
    have : R * (2 * (y * p)) = 2 * (p * R * y) := by ac_rfl
    omega
  have m1 : 2 * ((c0 * q) * y) ≤ (p * c1) * y := by
    rw [k2]
    have h := Int.mul_le_mul_of_nonneg_right b1 (Int.le_of_lt g2)
    have e : 2 * (x * q - p * R * y) * c1 = 2 * ((x * q - p * R * y) * c1) := Int.mul_assoc _ _ _
    have e' : y * p * c1 = p * c1 * y := by ac_rfl
    omega
  have m2 : -((p * c1) * y) ≤ 2 * ((c0 * q) * y) := by
    rw [k2]
    have h := Int.mul_le_mul_of_nonneg_right b2 (Int.le_of_lt g2)
    have e : 2 * (x * q - p * R * y) * c1 = 2 * ((x * q - p * R * y) * c1) := Int.mul_assoc _ _ _
    have e' : -(y * p) * c1 = -(p * c1 * y) := by rw [Int.neg_mul]; congr 1; ac_rfl
    omega
  have r1 : 2 * (c0 * q) ≤ p * c1 := by
    refine Int.le_of_mul_le_mul_right ?_ hy
    have : 2 * (c0 * q) * y = 2 * ((c0 * q) * y) := Int.mul_assoc _ _ _
    omega
  have r2 : -(p * c1) ≤ 2 * (c0 * q) := by
    refine Int.le_of_mul_le_mul_right ?_ hy
    have : 2 * (c0 * q) * y = 2 * ((c0 * q) * y) := Int.mul_assoc _ _ _
    have : -(p * c1) * y = -((p * c1) * y) := Int.neg_mul _ _
    omega
  have r3 : 2 * (c0.natAbs : Int) * q = 2 * (((c0 * q).natAbs : Nat) : Int) := by
    rw [Int.natAbs_mul, Int.natCast_mul, Int.mul_assoc]
    congr 2
    omega
  rw [r3]
  omega
end
section
variable {k : Nat} {s : Store} {p q : Int} {d : Nat}
theorem pow4 {s : Store} : binV .pow (.int 10) (.int 4) s = .ok (.int 10000) s := by
  simp only [binV, binI]
  rw [if_pos (by decide)]
  rfl
theorem pow6 {s : Store} : binV .pow (.int 10) (.int 6) s = .ok (.int 1000000) s := by
  simp only [binV, binI]
  rw [if_pos (by decide)]
  rfl
theorem pow9 {s : Store} : binV .pow (.int 10) (.int 9) s = .ok (.int 1000000000) s := by
  simp only [binV, binI]
  rw [if_pos (by decide)]
  rfl
theorem pow12 {s : Store} : binV .pow (.int 10) (.int 12) s = .ok (.int 1000000000000) s := by
  simp only [binV, binI]
  rw [if_pos (by decide)]
  rfl
theorem pow60 {s : Store} : binV .pow (.int 10) (.int 60) s = .ok (.int 1000000000000000000000000000000000000000000000000000000000000) s := by
  simp only [binV, binI]
  rw [if_pos (by decide)]
  rfl
theorem signed_ok {most : Int} (h : Dr s d) (h0 : 0 ≤ most) (hs : Sm 140 most) : ∃ r s', callAt Dt Gt subt (k + 2) 12 [.ref d, .int most] s = .ok (.int r) s' ∧ r.natAbs ≤ most.natAbs ∧ Dr s' d ∧ (∀ n, n ≠ d → s'[n]? = s[n]?) ∧ s'.length = s.length := by
  have l : (2 * most + 1).natAbs.log2 < 9000 := by
    have : Sm 142 (2 * most + 1) := by
      unfold Sm at *
      have e : (2 : Nat) ^ 142 = 4 * 2 ^ 140 := by rw [show 142 = 2 + 140 from rfl, Nat.pow_add]
      omega
    exact Nat.lt_trans (this.log2 (by decide)) (by decide)
  obtain ⟨r, s1, e, r0, r1, D1, k1, n1⟩ := take_ok (k := k) (many := 2 * most + 1) h (by omega) l
  refine ⟨r - most, s1, ?_, by omega, D1, k1, n1⟩
  simp -implicitDefEqProofs -dsimp only [↓bind_K, ↓out_K, ↓then_K, ↓optR_K, ↓cond_K, ↓forL_K, ↓lcL_K, ↓whileL_K, ↓catch_K, ↓catchK_nx, ↓catchK_rt, ↓catchK_exc, unset_rt, hush_rt, hush_nx, hush_ct, fin_exc, ↓bindK_ok, ↓outK_ok, ↓bindK_exc, ↓outK_exc, ↓thenK_nx, ↓thenK_rt, ↓thenK_exc, ↓thenK_bk, ↓thenK_ct, ↓optRK_some, ↓quiet_ok, ↓condK_t, ↓condK_f, ↓truth_bl, qE_slot, qE_isx, qE_k, qE_glob, qE_bin, qE_neg, qE_not, qE_and, qE_or, qE_cmp, qE_chain, qE_ife, qE_ix, qE_slc, qE_rev, qE_tup, qE_lst, qE_call, qE_bi, qE_isi, qE_meth, qE_lc, qE_smeth, qE_get2, qEs_nil, qEs_cons, qAll_nil, qAll_cons, qO_no, qO_some, qI_seq, qI_range1, qI_range2, qI_range3, qI_zip, qI_enum, qI_rev, qT_name, qT_tup, qT_sub, qTs_nil, qTs_cons, qS_asg, qS_par, qS_aug, qS_ife, qS_for, qS_while, qS_ret, qS_retN, qS_drop, qS_pass, qS_brk, qS_cont, qS_raise, qS_try, qS_pick, qSs_nil, qSs_cons, dv_int, dv_bl, dv_str, dv_non, List.getElem?_cons_zero, List.getElem?_cons_succ, List.set_cons_zero, List.set_cons_succ, List.length_cons, List.length_nil, Nat.reduceAdd, Nat.reduceLT, if_true, fin_rt, fin_nx, at_0, at_1, at_2, at_3, itemV_ref, itemV_tup, cmp_eq_int, cmp_ne_int, cmp_lt_int, cmp_le_int, cmp_gt_int, cmp_ge_int, bin_add, bin_sub, bi_int_int, call_12, b12, bin_mul (okM two_sm hs), e]
theorem top_pos {n d : Int} (hn : 0 < n) (hd : 0 < d) : 0 < top n d := by
  have e := mul_top (n := n) (d := d) (by omega)
  have g := bot_pos (n := n) (d := d) (by omega)
  have h := mpos hn g
  by_cases c : 0 < top n d
  · exact c
  · have : top n d * d ≤ 0 := Int.mul_nonpos_of_nonpos_of_nonneg (by omega) (by omega)
    omega
theorem sm_lt {n : Nat} {x y : Int} (h : Sm n y) (h0 : 0 ≤ x) (h1 : x ≤ y) : Sm n x := h.le (by omega)
theorem one_sm : Sm 300 1 := by unfold Sm; decide
/-- a fraction is drawn -/
theorem drawn_ok (h : Dr s d) : ∃ p q s', callAt Dt Gt subt (k + 3) 25 [.ref d] s = .ok (pr p q) s' ∧ Fr 300 p q ∧ 0 < p ∧ Dr s' d ∧ (∀ n, n ≠ d → s'[n]? = s[n]?) ∧ s'.length = s.length := by
  have z2 : (2 ≤ sizeLine) = True := eq_true (by decide)
  have z4 : (4 ≤ sizeLine) = True := eq_true (by decide)
  obtain ⟨r, s1, e1, r0, r1, D1, k1, n1⟩ := take_ok (k := k + 1) (many := 7) h (by decide) (by decide)
  by_cases h0 : r = 0
  · obtain ⟨u, s2, e2, u0, u1, D2, k2, n2⟩ := take_ok (k := k + 1) (many := 18) D1 (by decide) (by decide)
    obtain ⟨t, rfl⟩ : ∃ t : Nat, u = (t : Int) := ⟨u.toNat, by omega⟩
    have sh := shl_nat (x := 1) (t := t) (s := s2) (by decide) (by omega)
    rw [Int.one_mul] at sh
    have q0 : (r == 0) = true := beq_iff_eq.mpr h0
    refine ⟨2 ^ t, 1, s2, ?_, ⟨(pow_sm (by omega)).mono (by decide), one_sm, by decide⟩, Int.pow_pos (by decide), D2, fun n hn => (k2 n hn).trans (k1 n hn), n2.trans n1⟩
    simp -implicitDefEqProofs -dsimp only [↓bind_K, ↓out_K, ↓then_K, ↓optR_K, ↓cond_K, ↓forL_K, ↓lcL_K, ↓whileL_K, ↓catch_K, ↓catchK_nx, ↓catchK_rt, ↓catchK_exc, unset_rt, hush_rt, hush_nx, hush_ct, fin_exc, ↓bindK_ok, ↓outK_ok, ↓bindK_exc, ↓outK_exc, ↓thenK_nx, ↓thenK_rt, ↓thenK_exc, ↓thenK_bk, ↓thenK_ct, ↓optRK_some, ↓quiet_ok, ↓condK_t, ↓condK_f, ↓truth_bl, qE_slot, qE_isx, qE_k, qE_glob, qE_bin, qE_neg, qE_not, qE_and, qE_or, qE_cmp, qE_chain, qE_ife, qE_ix, qE_slc, qE_rev, qE_tup, qE_lst, qE_call, qE_bi, qE_isi, qE_meth, qE_lc, qE_smeth, qE_get2, qEs_nil, qEs_cons, qAll_nil, qAll_cons, qO_no, qO_some, qI_seq, qI_range1, qI_range2, qI_range3, qI_zip, qI_enum, qI_rev, qT_name, qT_tup, qT_sub, qTs_nil, qTs_cons, qS_asg, qS_par, qS_aug, qS_ife, qS_for, qS_while, qS_ret, qS_retN, qS_drop, qS_pass, qS_brk, qS_cont, qS_raise, qS_try, qS_pick, qSs_nil, qSs_cons, dv_int, dv_bl, dv_str, dv_non, List.getElem?_cons_zero, List.getElem?_cons_succ, List.set_cons_zero, List.set_cons_succ, List.length_cons, List.length_nil, Nat.reduceAdd, Nat.reduceLT, if_true, fin_rt, fin_nx, at_0, at_1, at_2, at_3, itemV_ref, itemV_tup, cmp_eq_int, cmp_ne_int, cmp_lt_int, cmp_le_int, cmp_gt_int, cmp_ge_int, bin_add, bin_sub, bi_int_int, pr, call_25, b25, e1, q0, e2, sh, z2]
  have q0 : (r == 0) = false := beq_eq_false_iff_ne.mpr h0
  by_cases h1 : r = 1
  · obtain ⟨u, s2, e2, u0, u1, D2, k2, n2⟩ := take_ok (k := k + 1) (many := 36) D1 (by decide) (by decide)
    obtain ⟨t, rfl⟩ : ∃ t : Nat, u = (t : Int) := ⟨u.toNat, by omega⟩
    have sh := shl_nat (x := 1) (t := t) (s := s2) (by decide) (by omega)
    rw [Int.one_mul] at sh
    have q1 : (r == 1) = true := beq_iff_eq.mpr h1
    refine ⟨1, 2 ^ t, s2, ?_, ⟨one_sm, (pow_sm (by omega)).mono (by decide), Int.pow_pos (by decide)⟩, by decide, D2, fun n hn => (k2 n hn).trans (k1 n hn), n2.trans n1⟩
    simp -implicitDefEqProofs -dsimp only [↓bind_K, ↓out_K, ↓then_K, ↓optR_K, ↓cond_K, ↓forL_K, ↓lcL_K, ↓whileL_K, ↓catch_K, ↓catchK_nx, ↓catchK_rt, ↓catchK_exc, unset_rt, hush_rt, hush_nx, hush_ct, fin_exc, ↓bindK_ok, ↓outK_ok, ↓bindK_exc, ↓outK_exc, ↓thenK_nx, ↓thenK_rt, ↓thenK_exc, ↓thenK_bk, ↓thenK_ct, ↓optRK_some, ↓quiet_ok, ↓condK_t, ↓condK_f, ↓truth_bl, qE_slot, qE_isx, qE_k, qE_glob, qE_bin, qE_neg, qE_not, qE_and, qE_or, qE_cmp, qE_chain, qE_ife, qE_ix, qE_slc, qE_rev, qE_tup, qE_lst, qE_call, qE_bi, qE_isi, qE_meth, qE_lc, qE_smeth, qE_get2, qEs_nil, qEs_cons, qAll_nil, qAll_cons, qO_no, qO_some, qI_seq, qI_range1, qI_range2, qI_range3, qI_zip, qI_enum, qI_rev, qT_name, qT_tup, qT_sub, qTs_nil, qTs_cons, qS_asg, qS_par, qS_aug, qS_ife, qS_for, qS_while, qS_ret, qS_retN, qS_drop, qS_pass, qS_brk, qS_cont, qS_raise, qS_try, qS_pick, qSs_nil, qSs_cons, dv_int, dv_bl, dv_str, dv_non, List.getElem?_cons_zero, List.getElem?_cons_succ, List.set_cons_zero, List.set_cons_succ, List.length_cons, List.length_nil, Nat.reduceAdd, Nat.reduceLT, if_true, fin_rt, fin_nx, at_0, at_1, at_2, at_3, itemV_ref, itemV_tup, cmp_eq_int, cmp_ne_int, cmp_lt_int, cmp_le_int, cmp_gt_int, cmp_ge_int, bin_add, bin_sub, bi_int_int, pr, call_25, b25, e1, q0, q1, e2, sh, z2]
  have q1 : (r == 1) = false := beq_eq_false_iff_ne.mpr h1
  by_cases h2 : r = 2
  · obtain ⟨u, s2, e2, u0, u1, D2, k2, n2⟩ := take_ok (k := k + 1) (many := 4) D1 (by decide) (by decide)
    obtain ⟨v, s3, e3, v0, v1, D3, k3, n3⟩ := take_ok (k := k + 1) (many := 3) D2 (by decide) (by decide)
    have q2 : (r == 2) = true := beq_iff_eq.mpr h2
    have s1 : Sm 300 (65534 + u) := sm_lt (y := 70000) (by unfold Sm; decide) (by omega) (by omega)
    have s2 : Sm 300 (1 + v) := sm_lt (y := 10) (by unfold Sm; decide) (by omega) (by omega)
    have f := fun s => frac_ok (k := k) (s := s) (n := 65534 + u) (d := 1 + v) (by omega) s2 (by decide) (by decide)
    refine ⟨_, _, s3, ?_, fr_made (by omega) s1 s2, top_pos (by omega) (by omega), D3, fun n hn => (k3 n hn).trans ((k2 n hn).trans (k1 n hn)), n3.trans (n2.trans n1)⟩
    simp -implicitDefEqProofs -dsimp only [↓bind_K, ↓out_K, ↓then_K, ↓optR_K, ↓cond_K, ↓forL_K, ↓lcL_K, ↓whileL_K, ↓catch_K, ↓catchK_nx, ↓catchK_rt, ↓catchK_exc, unset_rt, hush_rt, hush_nx, hush_ct, fin_exc, ↓bindK_ok, ↓outK_ok, ↓bindK_exc, ↓outK_exc, ↓thenK_nx, ↓thenK_rt, ↓thenK_exc, ↓thenK_bk, ↓thenK_ct, ↓optRK_some, ↓quiet_ok, ↓condK_t, ↓condK_f, ↓truth_bl, qE_slot, qE_isx, qE_k, qE_glob, qE_bin, qE_neg, qE_not, qE_and, qE_or, qE_cmp, qE_chain, qE_ife, qE_ix, qE_slc, qE_rev, qE_tup, qE_lst, qE_call, qE_bi, qE_isi, qE_meth, qE_lc, qE_smeth, qE_get2, qEs_nil, qEs_cons, qAll_nil, qAll_cons, qO_no, qO_some, qI_seq, qI_range1, qI_range2, qI_range3, qI_zip, qI_enum, qI_rev, qT_name, qT_tup, qT_sub, qTs_nil, qTs_cons, qS_asg, qS_par, qS_aug, qS_ife, qS_for, qS_while, qS_ret, qS_retN, qS_drop, qS_pass, qS_brk, qS_cont, qS_raise, qS_try, qS_pick, qSs_nil, qSs_cons, dv_int, dv_bl, dv_str, dv_non, List.getElem?_cons_zero, List.getElem?_cons_succ, List.set_cons_zero, List.set_cons_succ, List.length_cons, List.length_nil, Nat.reduceAdd, Nat.reduceLT, if_true, fin_rt, fin_nx, at_0, at_1, at_2, at_3, itemV_ref, itemV_tup, cmp_eq_int, cmp_ne_int, cmp_lt_int, cmp_le_int, cmp_gt_int, cmp_ge_int, bin_add, bin_sub, bi_int_int, pr, call_25, b25, e1, q0, q1, q2, e2, e3, f]
  have q2 : (r == 2) = false := beq_eq_false_iff_ne.mpr h2
  obtain ⟨most, ha, hm, hs⟩ : ∃ most, L2.atI [DV.int 20, .int 1000000, .int 1000000000000, .int 1000000000000000000000000000000000000000000000000000000000000] (r - 3) = some (.int most) ∧ 0 < most ∧ Sm 200 most := by
    have : r = 3 ∨ r = 4 ∨ r = 5 ∨ r = 6 := by omega
    rcases this with rfl | rfl | rfl | rfl
    · exact ⟨20, at_0, by decide, by unfold Sm; decide⟩
    · exact ⟨1000000, at_1, by decide, by unfold Sm; decide⟩
    · exact ⟨1000000000000, at_2, by decide, by unfold Sm; decide⟩
    · exact ⟨1000000000000000000000000000000000000000000000000000000000000, at_3, by decide, by unfold Sm; decide⟩
  have l : most.natAbs.log2 < 9000 := Nat.lt_trans (hs.log2 (by decide)) (by decide)
  obtain ⟨u, s2, e2, u0, u1, D2, k2, n2⟩ := take_ok (k := k + 1) D1 hm l
  obtain ⟨v, s3, e3, v0, v1, D3, k3, n3⟩ := take_ok (k := k + 1) D2 hm l
  have su : Sm 300 (1 + u) := sm_lt (hs.mono (by decide)) (by omega) (by omega)
  have sv : Sm 300 (1 + v) := sm_lt (hs.mono (by decide)) (by omega) (by omega)
  have f := fun s => frac_ok (k := k) (s := s) (n := 1 + u) (d := 1 + v) (by omega) sv (by decide) (by decide)
  refine ⟨_, _, s3, ?_, fr_made (by omega) su sv, top_pos (by omega) (by omega), D3, fun n hn => (k3 n hn).trans ((k2 n hn).trans (k1 n hn)), n3.trans (n2.trans n1)⟩
  simp -implicitDefEqProofs -dsimp only [↓bind_K, ↓out_K, ↓then_K, ↓optR_K, ↓cond_K, ↓forL_K, ↓lcL_K, ↓whileL_K, ↓catch_K, ↓catchK_nx, ↓catchK_rt, ↓catchK_exc, unset_rt, hush_rt, hush_nx, hush_ct, fin_exc, ↓bindK_ok, ↓outK_ok, ↓bindK_exc, ↓outK_exc, ↓thenK_nx, ↓thenK_rt, ↓thenK_exc, ↓thenK_bk, ↓thenK_ct, ↓optRK_some, ↓quiet_ok, ↓condK_t, ↓condK_f, ↓truth_bl, qE_slot, qE_isx, qE_k, qE_glob, qE_bin, qE_neg, qE_not, qE_and, qE_or, qE_cmp, qE_chain, qE_ife, qE_ix, qE_slc, qE_rev, qE_tup, qE_lst, qE_call, qE_bi, qE_isi, qE_meth, qE_lc, qE_smeth, qE_get2, qEs_nil, qEs_cons, qAll_nil, qAll_cons, qO_no, qO_some, qI_seq, qI_range1, qI_range2, qI_range3, qI_zip, qI_enum, qI_rev, qT_name, qT_tup, qT_sub, qTs_nil, qTs_cons, qS_asg, qS_par, qS_aug, qS_ife, qS_for, qS_while, qS_ret, qS_retN, qS_drop, qS_pass, qS_brk, qS_cont, qS_raise, qS_try, qS_pick, qSs_nil, qSs_cons, dv_int, dv_bl, dv_str, dv_non, List.getElem?_cons_zero, List.getElem?_cons_succ, List.set_cons_zero, List.set_cons_succ, List.length_cons, List.length_nil, Nat.reduceAdd, Nat.reduceLT, if_true, fin_rt, fin_nx, at_0, at_1, at_2, at_3, itemV_ref, itemV_tup, cmp_eq_int, cmp_ne_int, cmp_lt_int, cmp_le_int, cmp_gt_int, cmp_ge_int, bin_add, bin_sub, bi_int_int, pr, call_25, b25, e1, q0, q1, q2, pow6, pow12, pow60, z4, ha, e2, e3, f]
theorem isNot_non {s : Store} : cmpV .isNot .non .non s = .ok false s := rfl
theorem isNot_tup {s : Store} {xs : List DV} : cmpV .isNot (.tup xs) .non s = .ok true s := rfl
theorem is_non {s : Store} : cmpV .is .non .non s = .ok true s := rfl
theorem ne_non {s : Store} : cmpV .ne .non .non s = .ok false s := rfl
theorem dvM_or : dvM p q = .non ∨ ∃ m u, dvM p q = .tup [.int m, .int u] := by
  unfold dvM
  split
  · exact .inl rfl
  · exact .inr ⟨_, _, rfl⟩
noncomputable def T1 (k : Nat) : DV → Ip.Loc → Store → Out := fun x r s => (evT (callAt Dt Gt subt (k + 4)) Gt subt (.name 2) x r s).out r fun r s => evSs (callAt Dt Gt subt (k + 4)) Gt subt b26l1 r s
noncomputable def T0 (k : Nat) : DV → Ip.Loc → Store → Out := fun x r s => (evT (callAt Dt Gt subt (k + 4)) Gt subt (.name 2) x r s).out r fun r s => evSs (callAt Dt Gt subt (k + 4)) Gt subt b26l0 r s
theorem turn1 (h : Dr s d) {x : DV} {w0 w2 w3 w4 w5 w6 w7 w8 w9 w10 w11 w12 : Option DV} : ∃ w2' w3' w4' s', T1 k x [w0, some (.ref d), w2, w3, w4, w5, w6, w7, w8, w9, w10, w11, w12] s = .nx [w0, some (.ref d), w2', w3', w4', w5, w6, w7, w8, w9, w10, w11, w12] s' ∧ Dr s' d := by
  obtain ⟨p, q, s1, e1, a, hp, D1, k1, n1⟩ := drawn_ok (k := k + 1) h
  have e2 := fun s => told_ok (k := k) (s := s) a
  have e3 := fun s => lmult_ok (k := k + 2) (s := s) a
  refine ⟨some x, some (pr p q), some (dvM p q), s1, ?_, D1⟩
  rcases dvM_or (p := p) (q := q) with hd | ⟨m, u, hd⟩
  · rw [hd] at e2 e3 ⊢
    unfold pr at e1 e2 e3 ⊢
    simp -implicitDefEqProofs -dsimp only [↓bind_K, ↓out_K, ↓then_K, ↓optR_K, ↓cond_K, ↓forL_K, ↓lcL_K, ↓whileL_K, ↓catch_K, ↓catchK_nx, ↓catchK_rt, ↓catchK_exc, unset_rt, hush_rt, hush_nx, hush_ct, fin_exc, ↓bindK_ok, ↓outK_ok, ↓bindK_exc, ↓outK_exc, ↓thenK_nx, ↓thenK_rt, ↓thenK_exc, ↓thenK_bk, ↓thenK_ct, ↓optRK_some, ↓quiet_ok, ↓condK_t, ↓condK_f, ↓truth_bl, qE_slot, qE_isx, qE_k, qE_glob, qE_bin, qE_neg, qE_not, qE_and, qE_or, qE_cmp, qE_chain, qE_ife, qE_ix, qE_slc, qE_rev, qE_tup, qE_lst, qE_call, qE_bi, qE_isi, qE_meth, qE_lc, qE_smeth, qE_get2, qEs_nil, qEs_cons, qAll_nil, qAll_cons, qO_no, qO_some, qI_seq, qI_range1, qI_range2, qI_range3, qI_zip, qI_enum, qI_rev, qT_name, qT_tup, qT_sub, qTs_nil, qTs_cons, qS_asg, qS_par, qS_aug, qS_ife, qS_for, qS_while, qS_ret, qS_retN, qS_drop, qS_pass, qS_brk, qS_cont, qS_raise, qS_try, qS_pick, qSs_nil, qSs_cons, dv_int, dv_bl, dv_str, dv_non, List.getElem?_cons_zero, List.getElem?_cons_succ, List.set_cons_zero, List.set_cons_succ, List.length_cons, List.length_nil, Nat.reduceAdd, Nat.reduceLT, if_true, fin_rt, fin_nx, at_0, at_1, at_2, at_3, itemV_ref, itemV_tup, cmp_eq_int, cmp_ne_int, cmp_lt_int, cmp_le_int, cmp_gt_int, cmp_ge_int, bin_add, bin_sub, bi_int_int, T1, b26l1, e1, e2, e3, ne_non, isNot_non]
  · rw [hd] at e2 e3 ⊢
    unfold pr at e1 e2 e3 ⊢
    simp -implicitDefEqProofs -dsimp only [↓bind_K, ↓out_K, ↓then_K, ↓optR_K, ↓cond_K, ↓forL_K, ↓lcL_K, ↓whileL_K, ↓catch_K, ↓catchK_nx, ↓catchK_rt, ↓catchK_exc, unset_rt, hush_rt, hush_nx, hush_ct, fin_exc, ↓bindK_ok, ↓outK_ok, ↓bindK_exc, ↓outK_exc, ↓thenK_nx, ↓thenK_rt, ↓thenK_exc, ↓thenK_bk, ↓thenK_ct, ↓optRK_some, ↓quiet_ok, ↓condK_t, ↓condK_f, ↓truth_bl, qE_slot, qE_isx, qE_k, qE_glob, qE_bin, qE_neg, qE_not, qE_and, qE_or, qE_cmp, qE_chain, qE_ife, qE_ix, qE_slc, qE_rev, qE_tup, qE_lst, qE_call, qE_bi, qE_isi, qE_meth, qE_lc, qE_smeth, qE_get2, qEs_nil, qEs_cons, qAll_nil, qAll_cons, qO_no, qO_some, qI_seq, qI_range1, qI_range2, qI_range3, qI_zip, qI_enum, qI_rev, qT_name, qT_tup, qT_sub, qTs_nil, qTs_cons, qS_asg, qS_par, qS_aug, qS_ife, qS_for, qS_while, qS_ret, qS_retN, qS_drop, qS_pass, qS_brk, qS_cont, qS_raise, qS_try, qS_pick, qSs_nil, qSs_cons, dv_int, dv_bl, dv_str, dv_non, List.getElem?_cons_zero, List.getElem?_cons_succ, List.set_cons_zero, List.set_cons_succ, List.length_cons, List.length_nil, Nat.reduceAdd, Nat.reduceLT, if_true, fin_rt, fin_nx, at_0, at_1, at_2, at_3, itemV_ref, itemV_tup, cmp_eq_int, cmp_ne_int, cmp_lt_int, cmp_le_int, cmp_gt_int, cmp_ge_int, bin_add, bin_sub, bi_int_int, T1, b26l1, e1, e2, e3, cmp_pair, isNot_tup, beq_self_eq_true, Bool.and_true, Bool.not_true, clIs, int_ok]
variable {x y z : Int} {j : Nat}
theorem pow_le11 (h : j ≤ 11) : (2 : Int) ^ j ≤ 2048 := by
  have : 2 ^ j ≤ 2 ^ 11 := Nat.pow_le_pow_right (by decide) h
  have e : ((2 ^ j : Nat) : Int) = (2 : Int) ^ j := Int.natCast_pow 2 j
  omega
theorem pow_one_le : 1 ≤ (2 : Int) ^ j := Int.pow_pos (by decide)
theorem lim_bd {n lo hi : Int} (h : lo ≤ hi) : lo ≤ lim n lo hi ∧ lim n lo hi ≤ hi := by
  unfold lim
  split
  · omega
  · split <;> omega
theorem turn0 (h : Dr s d) (a : Fr 300 p q) (hp : 0 < p) (h1 : 2 ≤ j) (h2 : j ≤ 11) (z1 : -(2 ^ j) ≤ z) (z2 : z ≤ 2 ^ j - 1) {i : DV} {w0 w2 w3 w4 w9 w10 w11 w12 : Option DV} :
    ∃ w2' w9' w10' w11' w12' s', T0 k i [w0, some (.ref d), w2, w3, w4, some (.int ((j + 1 : Nat) : Int)), some (.int (-(2 ^ j))), some (.int (2 ^ j - 1)), some (.tup [.tup [.int p, .int q], .int z]), w9, w10, w11, w12] s =
      .nx [w0, some (.ref d), w2', w3, w4, some (.int ((j + 1 : Nat) : Int)), some (.int (-(2 ^ j))), some (.int (2 ^ j - 1)), some (.tup [.tup [.int p, .int q], .int z]), w9', w10', w11', w12'] s' ∧ Dr s' d := by
  obtain ⟨r, s1, e1, r0, r1, D1, k1, n1⟩ := take_ok (k := k + 3) (many := 3) h (by decide) (by decide)
  obtain ⟨most, ha, hm, hs⟩ : ∃ most, L2.atI [DV.int 9, .int 10000, .int 1000000000] r = some (.int most) ∧ 0 < most ∧ Sm 40 most := by
    have : r = 0 ∨ r = 1 ∨ r = 2 := by omega
    rcases this with rfl | rfl | rfl
    · exact ⟨9, at_0, by decide, by unfold Sm; decide⟩
    · exact ⟨10000, at_1, by decide, by unfold Sm; decide⟩
    · exact ⟨1000000000, at_2, by decide, by unfold Sm; decide⟩
  obtain ⟨u, s2, e2, u1, D2, k2, n2⟩ := signed_ok (k := k + 2) D1 (Int.le_of_lt hm) (hs.mono (by decide))
  obtain ⟨v, s3, e3, v0, v1, D3, k3, n3⟩ := take_ok (k := k + 3) (many := 5) D2 (by decide) (by decide)
  have sv : Sm 300 (1 + v) := sm_lt (y := 10) (by unfold Sm; decide) (by omega) (by omega)
  have e4 := fun s => frac_ok (k := k + 2) (s := s) (n := u) (d := 1 + v) (by omega) sv (by decide) (by decide)
  have b := fr_made (m := 300) (n := u) (d := 1 + v) (by omega) ((hs.le u1).mono (by decide)) sv
  generalize top u (1 + v) = x at *
  generalize bot u (1 + v) = y at *
  have e5 := fun s => lover_ok (k := k + 1) (s := s) (fr300 b) (fr300 a) (by omega)
  have e6 := fun s => rd_lnear (k := k + 3) (s := s) a hp b
  have e7 := fun s => coded_ok (k := k) (s := s) (z := z) a hp b h1 h2
  have hl := pow_le11 h2
  have hl0 := pow_one_le (j := j)
  have lohi : -(2 ^ j) ≤ (2 : Int) ^ j - 1 := by omega
  have e8 := fun s => max_ok (s := s) (n := Rd x y p q + z) lohi
  obtain ⟨c0, c1⟩ := lim_bd (n := Rd x y p q + z) lohi
  have hC : Sm 30 (lim (Rd x y p q + z) (-(2 ^ j)) (2 ^ j - 1) - z) := by
    unfold Sm
    have : (2 : Nat) ^ 30 = 1073741824 := by decide
    omega
  have e9 := fun s => means_ok (k := k + 1) (s := s) (z := z) a hC
  have e10 := fun s => lmeans_ok (k := k + 1) (s := s) (z := z) a hC
  have y3 : (3 ≤ sizeLine) = True := eq_true (by decide)
  have e11 : ∀ c : Int, lim (Rd x y p q + z) (-(2 ^ j)) (2 ^ j - 1) = Rd x y p q + z → ∀ s, callAt Dt Gt subt (k + 4) 17 [pr x y, pr (top (p * (lim (Rd x y p q + z) (-(2 ^ j)) (2 ^ j - 1) - z)) q) (bot (p * (lim (Rd x y p q + z) (-(2 ^ j)) (2 ^ j - 1) - z)) q)] s = _ := fun _ _ s => lgap_ok (k := k) (s := s) b (fr_made (m := 400) (by have := a.pos; omega) ((a.sp.mul hC).mono (by decide)) (a.sq.mono (by decide)))
  by_cases hc : lim (Rd x y p q + z) (-(2 ^ j)) (2 ^ j - 1) = Rd x y p q + z
  · have e11 := e11 0 hc
    have g := gap_le (x := x) (y := y) hp a.pos b.pos
    have eq1 : lim (Rd x y p q + z) (-(2 ^ j)) (2 ^ j - 1) - z = Rd x y p q := by omega
    have fr2 := fr_made (m := 400) (n := p * Rd x y p q) (d := q) (by have := a.pos; omega) (by rw [← eq1]; exact (a.sp.mul hC).mono (by decide)) (a.sq.mono (by decide))
    rw [hc] at e7 e8 e9 e10 e11
    rw [show Rd x y p q + z - z = Rd x y p q by omega] at e9 e10 e11
    have n0 : Sm 401 (0 - top (p * Rd x y p q) q) := by rw [Int.zero_sub]; exact fr2.sp.neg.mono (by decide)
    have fr3 := fr_made (m := 802) (n := x * bot (p * Rd x y p q) q + (0 - top (p * Rd x y p q) q) * y) (d := y * bot (p * Rd x y p q) q) (by have := mpos b.pos fr2.pos; omega) (((b.sp.mul fr2.sq).mono (m := 801) (by decide)).add ((n0.mul b.sq).mono (by decide))) ((b.sq.mul fr2.sq).mono (by decide))
    generalize top (x * bot (p * Rd x y p q) q + (0 - top (p * Rd x y p q) q) * y) (y * bot (p * Rd x y p q) q) = g0 at *
    generalize bot (x * bot (p * Rd x y p q) q + (0 - top (p * Rd x y p q) q) * y) (y * bot (p * Rd x y p q) q) = g1 at *
    have m1 : ∀ s, binV .mul (.int 2) (.int (g0.natAbs : Int)) s = .ok (.int (2 * (g0.natAbs : Int))) s := fun s => bin_mul (mulOk_l (by decide))
    have s0 : Sm 802 (g0.natAbs : Int) := fr3.sp.le (by omega)
    have m2 : ∀ s, binV .mul (.int (2 * (g0.natAbs : Int))) (.int q) s = .ok (.int (2 * (g0.natAbs : Int) * q)) s := fun s => bin_mul (okM (two_sm.mul s0) a.sq)
    have m3 : ∀ s, binV .mul (.int p) (.int g1) s = .ok (.int (p * g1)) s := fun s => bin_mul (okM a.sp fr3.sq)
    have dg : decide (p * g1 < 2 * (g0.natAbs : Int) * q) = false := decide_eq_false (by omega)
    refine ⟨some i, some (.tup [.int x, .int y]), some (.int (Rd x y p q + z)), some (.int (Rd x y p q + z)), some (.tup [.int (g0.natAbs : Int), .int g1]), s3, ?_, D3⟩
    unfold pr at *
    simp -implicitDefEqProofs -dsimp only [↓bind_K, ↓out_K, ↓then_K, ↓optR_K, ↓cond_K, ↓forL_K, ↓lcL_K, ↓whileL_K, ↓catch_K, ↓catchK_nx, ↓catchK_rt, ↓catchK_exc, unset_rt, hush_rt, hush_nx, hush_ct, fin_exc, ↓bindK_ok, ↓outK_ok, ↓bindK_exc, ↓outK_exc, ↓thenK_nx, ↓thenK_rt, ↓thenK_exc, ↓thenK_bk, ↓thenK_ct, ↓optRK_some, ↓quiet_ok, ↓condK_t, ↓condK_f, ↓truth_bl, qE_slot, qE_isx, qE_k, qE_glob, qE_bin, qE_neg, qE_not, qE_and, qE_or, qE_cmp, qE_chain, qE_ife, qE_ix, qE_slc, qE_rev, qE_tup, qE_lst, qE_call, qE_bi, qE_isi, qE_meth, qE_lc, qE_smeth, qE_get2, qEs_nil, qEs_cons, qAll_nil, qAll_cons, qO_no, qO_some, qI_seq, qI_range1, qI_range2, qI_range3, qI_zip, qI_enum, qI_rev, qT_name, qT_tup, qT_sub, qTs_nil, qTs_cons, qS_asg, qS_par, qS_aug, qS_ife, qS_for, qS_while, qS_ret, qS_retN, qS_drop, qS_pass, qS_brk, qS_cont, qS_raise, qS_try, qS_pick, qSs_nil, qSs_cons, dv_int, dv_bl, dv_str, dv_non, List.getElem?_cons_zero, List.getElem?_cons_succ, List.set_cons_zero, List.set_cons_succ, List.length_cons, List.length_nil, Nat.reduceAdd, Nat.reduceLT, if_true, fin_rt, fin_nx, at_0, at_1, at_2, at_3, itemV_ref, itemV_tup, cmp_eq_int, cmp_ne_int, cmp_lt_int, cmp_le_int, cmp_gt_int, cmp_ge_int, bin_add, bin_sub, bi_int_int, T0, b26l0, e1, pow4, pow9, y3, ha, e2, e3, e4, e5, e6, e7, int_ok, Bool.not_true, min_ok, e8, beq_self_eq_true, e9, e10, cmp_pair, Bool.and_true, e11, m1, m2, m3, dg]
  · have qc : (lim (Rd x y p q + z) (-(2 ^ j)) (2 ^ j - 1) == Rd x y p q + z) = false := beq_eq_false_iff_ne.mpr hc
    refine ⟨some i, some (.tup [.int x, .int y]), some (.int (Rd x y p q + z)), some (.int (lim (Rd x y p q + z) (-(2 ^ j)) (2 ^ j - 1))), w12, s3, ?_, D3⟩
    unfold pr at *
    simp -implicitDefEqProofs -dsimp only [↓bind_K, ↓out_K, ↓then_K, ↓optR_K, ↓cond_K, ↓forL_K, ↓lcL_K, ↓whileL_K, ↓catch_K, ↓catchK_nx, ↓catchK_rt, ↓catchK_exc, unset_rt, hush_rt, hush_nx, hush_ct, fin_exc, ↓bindK_ok, ↓outK_ok, ↓bindK_exc, ↓outK_exc, ↓thenK_nx, ↓thenK_rt, ↓thenK_exc, ↓thenK_bk, ↓thenK_ct, ↓optRK_some, ↓quiet_ok, ↓condK_t, ↓condK_f, ↓truth_bl, qE_slot, qE_isx, qE_k, qE_glob, qE_bin, qE_neg, qE_not, qE_and, qE_or, qE_cmp, qE_chain, qE_ife, qE_ix, qE_slc, qE_rev, qE_tup, qE_lst, qE_call, qE_bi, qE_isi, qE_meth, qE_lc, qE_smeth, qE_get2, qEs_nil, qEs_cons, qAll_nil, qAll_cons, qO_no, qO_some, qI_seq, qI_range1, qI_range2, qI_range3, qI_zip, qI_enum, qI_rev, qT_name, qT_tup, qT_sub, qTs_nil, qTs_cons, qS_asg, qS_par, qS_aug, qS_ife, qS_for, qS_while, qS_ret, qS_retN, qS_drop, qS_pass, qS_brk, qS_cont, qS_raise, qS_try, qS_pick, qSs_nil, qSs_cons, dv_int, dv_bl, dv_str, dv_non, List.getElem?_cons_zero, List.getElem?_cons_succ, List.set_cons_zero, List.set_cons_succ, List.length_cons, List.length_nil, Nat.reduceAdd, Nat.reduceLT, if_true, fin_rt, fin_nx, at_0, at_1, at_2, at_3, itemV_ref, itemV_tup, cmp_eq_int, cmp_ne_int, cmp_lt_int, cmp_le_int, cmp_gt_int, cmp_ge_int, bin_add, bin_sub, bi_int_int, T0, b26l0, e1, pow4, pow9, y3, ha, e2, e3, e4, e5, e6, e7, int_ok, Bool.not_true, min_ok, e8, beq_self_eq_true, e9, e10, cmp_pair, Bool.and_true, qc]
end
section
variable {k : Nat}
theorem rng4 : (List.range (4 : Int).toNat).map (fun (i : Nat) => DV.int (0 + (i : Int))) = [.int (0 + ((0 : Nat) : Int)), .int (0 + ((1 : Nat) : Int)), .int (0 + ((2 : Nat) : Int)), .int (0 + ((3 : Nat) : Int))] := rfl
theorem law_go {ns : List Int} : ∃ s', callAt Dt Gt subt (k + 5) 26 [.ref 0] [.frz (ns.map DV.int)] = .ok (.bl true) s' := by
  obtain ⟨seed, hb⟩ := begin_ok (k := k + 3) (ns := ns)
  obtain ⟨S0, hS0⟩ : ∃ S : Store, S = [.frz (ns.map DV.int), .lst (ns.map DV.int), .lst [.ref 1, .int 0, .int 0, .int seed]] := ⟨_, rfl⟩
  have D0 : Dr S0 2 := by rw [hS0]; exact ⟨1, ns, 0, 0, seed, rfl, rfl, Int.le_refl 0, Int.le_refl 0, by decide⟩
  rw [← hS0] at hb
  clear hS0
  have rg : (-(2 ^ 62) ≤ (4 : Int) ∧ (4 : Int) < 2 ^ 62) = True := eq_true (by omega)
  have y2 : (2 ≤ sizeLine) = True := eq_true (by decide)
  have key1 := for_word (f := .free) (body := T1 k) (all := (List.range (4 : Int).toNat).map fun (i : Nat) => DV.int (0 + (i : Int))) (r := [some (.ref 0), some (.ref 2), none, none, none, none, none, none, none, none, none, none, none]) (s := S0)
    (fun d r s' => Dr s' 2 ∧ ∃ w2 w3 w4, r = [some (.ref 0), some (.ref 2), w2, w3, w4, none, none, none, none, none, none, none, none])
    ⟨D0, none, none, none, rfl⟩ (fun _ _ _ _ => free_ok)
    (fun d y e r s' he h => by
      obtain ⟨hD, w2, w3, w4, rfl⟩ := h
      obtain ⟨w2', w3', w4', s1, e1, D1⟩ := turn1 (k := k) hD (x := y)
      exact ⟨_, s1, .inl e1, D1, w2', w3', w4', rfl⟩)
  obtain ⟨r1, s1, h1, D1, w2, w3, w4, rfl⟩ := key1
  have c1 : evS (callAt Dt Gt subt (k + 4)) Gt subt (.for_ (.name 2) (.range1 (.k (.int 4))) b26l1) [some (.ref 0), some (.ref 2), none, none, none, none, none, none, none, none, none, none, none] S0 = _ := evS_for (by
    simp -implicitDefEqProofs -dsimp only [↓bind_K, ↓out_K, ↓then_K, ↓optR_K, ↓cond_K, ↓forL_K, ↓lcL_K, ↓whileL_K, ↓catch_K, ↓catchK_nx, ↓catchK_rt, ↓catchK_exc, unset_rt, hush_rt, hush_nx, hush_ct, fin_exc, ↓bindK_ok, ↓outK_ok, ↓bindK_exc, ↓outK_exc, ↓thenK_nx, ↓thenK_rt, ↓thenK_exc, ↓thenK_bk, ↓thenK_ct, ↓optRK_some, ↓quiet_ok, ↓condK_t, ↓condK_f, ↓truth_bl, qE_slot, qE_isx, qE_k, qE_glob, qE_bin, qE_neg, qE_not, qE_and, qE_or, qE_cmp, qE_chain, qE_ife, qE_ix, qE_slc, qE_rev, qE_tup, qE_lst, qE_call, qE_bi, qE_isi, qE_meth, qE_lc, qE_smeth, qE_get2, qEs_nil, qEs_cons, qAll_nil, qAll_cons, qO_no, qO_some, qI_seq, qI_range1, qI_range2, qI_range3, qI_zip, qI_enum, qI_rev, qT_name, qT_tup, qT_sub, qTs_nil, qTs_cons, qS_asg, qS_par, qS_aug, qS_ife, qS_for, qS_while, qS_ret, qS_retN, qS_drop, qS_pass, qS_brk, qS_cont, qS_raise, qS_try, qS_pick, qSs_nil, qSs_cons, dv_int, dv_bl, dv_str, dv_non, List.getElem?_cons_zero, List.getElem?_cons_succ, List.set_cons_zero, List.set_cons_succ, List.length_cons, List.length_nil, Nat.reduceAdd, Nat.reduceLT, if_true, fin_rt, fin_nx, at_0, at_1, at_2, at_3, itemV_ref, itemV_tup, cmp_eq_int, cmp_ne_int, cmp_lt_int, cmp_le_int, cmp_gt_int, cmp_ge_int, bin_add, bin_sub, bi_int_int, rg]) h1
  obtain ⟨r, s2, e2, r0, r2, D2, k2, n2⟩ := take_ok (k := k + 3) (many := 10) D1 (by decide) (by decide)
  obtain ⟨j, hj⟩ : ∃ j : Nat, 3 + r = ((j + 1 : Nat) : Int) := ⟨(2 + r).toNat, by omega⟩
  have j1 : 2 ≤ j := by omega
  have j2 : j ≤ 11 := by omega
  have e3 := fun s => ends_ok (k := k + 3) (s := s) (j := j) (by omega)
  obtain ⟨p, q, s3, e4, a, hp, D3, k3, n3⟩ := drawn_ok (k := k + 1) D2
  have hl := pow_le11 j2
  have hl0 := pow_one_le (j := j)
  obtain ⟨z, s4, e5, z0, z1, D4, k4, n4⟩ := take_ok (k := k + 3) (many := 2 ^ j - 1 - -(2 ^ j) + 1) D3 (by omega) (by
    have : Sm 20 ((2 : Int) ^ j - 1 - -(2 ^ j) + 1) := sm_lt (y := 5000) (by unfold Sm; decide) (by omega) (by omega)
    exact Nat.lt_trans (this.log2 (by decide)) (by decide))
  have key0 := for_word (f := .free) (body := T0 k) (all := (List.range (4 : Int).toNat).map fun (i : Nat) => DV.int (0 + (i : Int))) (r := [some (.ref 0), some (.ref 2), w2, w3, w4, some (.int ((j + 1 : Nat) : Int)), some (.int (-(2 ^ j))), some (.int (2 ^ j - 1)), some (.tup [.tup [.int p, .int q], .int (-(2 ^ j) + z)]), none, none, none, none]) (s := s4)
    (fun d r s' => Dr s' 2 ∧ ∃ w2 w9 w10 w11 w12, r = [some (.ref 0), some (.ref 2), w2, w3, w4, some (.int ((j + 1 : Nat) : Int)), some (.int (-(2 ^ j))), some (.int (2 ^ j - 1)), some (.tup [.tup [.int p, .int q], .int (-(2 ^ j) + z)]), w9, w10, w11, w12])
    ⟨D4, _, _, _, _, _, rfl⟩ (fun _ _ _ _ => free_ok)
    (fun d y e r s' he h => by
      obtain ⟨hD, w2, w9, w10, w11, w12, rfl⟩ := h
      obtain ⟨w2', w9', w10', w11', w12', s1, e1, D1⟩ := turn0 (k := k) (z := -(2 ^ j) + z) hD a hp j1 j2 (by omega) (by omega) (i := y)
      exact ⟨_, s1, .inl e1, D1, _, _, _, _, _, rfl⟩)
  obtain ⟨r5, s5, h5, D5, w2', w9, w10, w11, w12, rfl⟩ := key0
  have c0 : evS (callAt Dt Gt subt (k + 4)) Gt subt (.for_ (.name 2) (.range1 (.k (.int 4))) b26l0) [some (.ref 0), some (.ref 2), w2, w3, w4, some (.int ((j + 1 : Nat) : Int)), some (.int (-(2 ^ j))), some (.int (2 ^ j - 1)), some (.tup [.tup [.int p, .int q], .int (-(2 ^ j) + z)]), none, none, none, none] s4 = _ := evS_for (by
    simp -implicitDefEqProofs -dsimp only [↓bind_K, ↓out_K, ↓then_K, ↓optR_K, ↓cond_K, ↓forL_K, ↓lcL_K, ↓whileL_K, ↓catch_K, ↓catchK_nx, ↓catchK_rt, ↓catchK_exc, unset_rt, hush_rt, hush_nx, hush_ct, fin_exc, ↓bindK_ok, ↓outK_ok, ↓bindK_exc, ↓outK_exc, ↓thenK_nx, ↓thenK_rt, ↓thenK_exc, ↓thenK_bk, ↓thenK_ct, ↓optRK_some, ↓quiet_ok, ↓condK_t, ↓condK_f, ↓truth_bl, qE_slot, qE_isx, qE_k, qE_glob, qE_bin, qE_neg, qE_not, qE_and, qE_or, qE_cmp, qE_chain, qE_ife, qE_ix, qE_slc, qE_rev, qE_tup, qE_lst, qE_call, qE_bi, qE_isi, qE_meth, qE_lc, qE_smeth, qE_get2, qEs_nil, qEs_cons, qAll_nil, qAll_cons, qO_no, qO_some, qI_seq, qI_range1, qI_range2, qI_range3, qI_zip, qI_enum, qI_rev, qT_name, qT_tup, qT_sub, qTs_nil, qTs_cons, qS_asg, qS_par, qS_aug, qS_ife, qS_for, qS_while, qS_ret, qS_retN, qS_drop, qS_pass, qS_brk, qS_cont, qS_raise, qS_try, qS_pick, qSs_nil, qSs_cons, dv_int, dv_bl, dv_str, dv_non, List.getElem?_cons_zero, List.getElem?_cons_succ, List.set_cons_zero, List.set_cons_succ, List.length_cons, List.length_nil, Nat.reduceAdd, Nat.reduceLT, if_true, fin_rt, fin_nx, at_0, at_1, at_2, at_3, itemV_ref, itemV_tup, cmp_eq_int, cmp_ne_int, cmp_lt_int, cmp_le_int, cmp_gt_int, cmp_ge_int, bin_add, bin_sub, bi_int_int, rg]) h5
  have b2 := fun s => coded_bad (k := k) (s := s) (u := [.tup [.int p, .int q], .int (-(2 ^ j) + z)]) (v := [.int 1, .int 1]) (fun s => bits_2 (k := k + 1) (s := s))
  have b13 := fun s => coded_bad (k := k) (s := s) (u := [.tup [.int p, .int q], .int (-(2 ^ j) + z)]) (v := [.int 1, .int 1]) (fun s => bits_13 (k := k + 1) (s := s))
  refine ⟨s5, ?_⟩
  unfold pr at *
  simp -implicitDefEqProofs -dsimp only [↓bind_K, ↓out_K, ↓then_K, ↓optR_K, ↓cond_K, ↓forL_K, ↓lcL_K, ↓whileL_K, ↓catch_K, ↓catchK_nx, ↓catchK_rt, ↓catchK_exc, unset_rt, hush_rt, hush_nx, hush_ct, fin_exc, ↓bindK_ok, ↓outK_ok, ↓bindK_exc, ↓outK_exc, ↓thenK_nx, ↓thenK_rt, ↓thenK_exc, ↓thenK_bk, ↓thenK_ct, ↓optRK_some, ↓quiet_ok, ↓condK_t, ↓condK_f, ↓truth_bl, qE_slot, qE_isx, qE_k, qE_glob, qE_bin, qE_neg, qE_not, qE_and, qE_or, qE_cmp, qE_chain, qE_ife, qE_ix, qE_slc, qE_rev, qE_tup, qE_lst, qE_call, qE_bi, qE_isi, qE_meth, qE_lc, qE_smeth, qE_get2, qEs_nil, qEs_cons, qAll_nil, qAll_cons, qO_no, qO_some, qI_seq, qI_range1, qI_range2, qI_range3, qI_zip, qI_enum, qI_rev, qT_name, qT_tup, qT_sub, qTs_nil, qTs_cons, qS_asg, qS_par, qS_aug, qS_ife, qS_for, qS_while, qS_ret, qS_retN, qS_drop, qS_pass, qS_brk, qS_cont, qS_raise, qS_try, qS_pick, qSs_nil, qSs_cons, dv_int, dv_bl, dv_str, dv_non, List.getElem?_cons_zero, List.getElem?_cons_succ, List.set_cons_zero, List.set_cons_succ, List.length_cons, List.length_nil, Nat.reduceAdd, Nat.reduceLT, if_true, fin_rt, fin_nx, at_0, at_1, at_2, at_3, itemV_ref, itemV_tup, cmp_eq_int, cmp_ne_int, cmp_lt_int, cmp_le_int, cmp_gt_int, cmp_ge_int, bin_add, bin_sub, bi_int_int, call_26, b26, hb, ↓c1, e2, hj, e3, e4, e5, ↓c0, y2, b2, b13, is_non]
theorem law_run : ∀ ns : List Int, ns.length ≤ 63 → ∃ s', callAt Dt Gt subt 60 26 [.ref 0] [.frz (ns.map DV.int)] = .ok (.bl true) s' := fun ns _ => law_go (k := 55)
end
end Lw
end PtLk62N
set_option Elab.async false
set_option linter.all false
set_option maxRecDepth 100000
set_option maxHeartbeats 4000000
open PySem PySem.W PyProof.Rows
set_option maxHeartbeats 0 in
theorem PySem.Challenge.cw_tensorworks_k62_multipliers_and_codes_holds : PySem.Challenge.rw_tensorworks_k62_multipliers_and_codes.Holds := by
  w_on; o_law; k_head; (case hw => w_witness2)
  k_fill
  refine L2.walk_of (l := PySem.Challenge.rw_tensorworks_k62_multipliers_and_codes) (n := 63) (k := 60) (x := "script") (CX := fun w => L2.CX PySem.Challenge.rw_tensorworks_k62_multipliers_and_codes.prog w) (sp := fun w => Ip.spO (Ip.callAt Lw.Dt Lw.Gt Lw.subt 60) _ 26 1) rfl (by decide) rfl ⟨rfl, by decide, by decide⟩ (fun w h Y => PySem.W.kIn_of Y) ?F (fun _ _ a ns hl ho hS => Ip.law_spO hl ho hS (Lw.law_run ns hl)) (fun _ _ _ _ _ h => Ip.cx_none h)
  case F =>
    intro w mg fa h KX G hmg
    refine' Lw.end_of KX G hmg ?a0 ?l0 ?c0 ?k0 ?a1 ?l1 ?c1 ?k1 ?a2 ?l2 ?c2 ?k2 ?a3 ?l3 ?c3 ?k3 ?a4 ?l4 ?c4 ?k4 ?a5 ?l5 ?c5 ?k5 ?a6 ?l6 ?c6 ?k6 ?a7 ?l7 ?c7 ?k7 ?a8 ?l8 ?c8 ?k8 ?a9 ?l9 ?c9 ?k9 ?a10 ?l10 ?c10 ?k10 ?a11 ?l11 ?c11 ?k11 ?a12 ?l12 ?c12 ?k12 ?a13 ?l13 ?c13 ?k13 ?a14 ?l14 ?c14 ?k14 ?a15 ?l15 ?c15 ?k15 ?a16 ?l16 ?c16 ?k16 ?a17 ?l17 ?c17 ?k17 ?a18 ?l18 ?c18 ?k18 ?a19 ?l19 ?c19 ?k19 ?a20 ?l20 ?c20 ?k20 ?a21 ?l21 ?c21 ?k21 ?a22 ?l22 ?c22 ?k22 ?a23 ?l23 ?c23 ?k23 ?a24 ?l24 ?c24 ?k24 ?a25 ?l25 ?c25 ?k25 ?a26 ?l26 ?c26 ?k26 ?z_abs ?z_bool ?z_int ?z_isinstance ?z_len ?z_list ?z_max ?z_min ?z_range ?z_tuple ?y_gcd ?x_FACTOR_LIMIT ?x_FEWEST_BITS ?x_MOST_BITS ?x_SHIFT_LIMIT ?eg0 ?ek0 ?ee0 ?eb0 ?et0 ?ev0 ?ea0 ?ec0 ?ed0 ?ef0 ?em0 ?eg1 ?ek1 ?ee1 ?eb1 ?et1 ?ev1 ?ea1 ?ec1 ?ed1 ?ef1 ?em1 ?eg2 ?ek2 ?ee2 ?eb2 ?et2 ?ev2 ?ea2 ?ec2 ?ed2 ?ef2 ?em2 ?eg3 ?ek3 ?ee3 ?eb3 ?et3 ?ev3 ?ea3 ?ec3 ?ed3 ?ef3 ?em3 ?es_0_0 ?es_0_1 ?es_0_2 ?es_0_3 ?es_1_0 ?es_1_1 ?es_1_2 ?es_1_3 ?es_2_0 ?es_2_1 ?es_2_2 ?es_2_3 ?es_3_0 ?es_3_1 ?es_3_2 ?es_3_3 ?en ?eu
    (case a0 => k_is); (case l0 => k_is); (case c0 => k_is); (case k0 => k_is); (case a1 => k_is); (case l1 => k_is); (case c1 => k_is); (case k1 => k_is); (case a2 => k_is); (case l2 => k_is); (case c2 => k_is); (case k2 => k_is); (case a3 => k_is); (case l3 => k_is); (case c3 => k_is); (case k3 => k_is); (case a4 => k_is); (case l4 => k_is); (case c4 => k_is); (case k4 => k_is); (case a5 => k_is); (case l5 => k_is); (case c5 => k_is); (case k5 => k_is); (case a6 => k_is); (case l6 => k_is); (case c6 => k_is); (case k6 => k_is); (case a7 => k_is); (case l7 => k_is); (case c7 => k_is); (case k7 => k_is); (case a8 => k_is); (case l8 => k_is); (case c8 => k_is); (case k8 => k_is); (case a9 => k_is); (case l9 => k_is); (case c9 => k_is); (case k9 => k_is); (case a10 => k_is); (case l10 => k_is); (case c10 => k_is); (case k10 => k_is); (case a11 => k_is); (case l11 => k_is); (case c11 => k_is); (case k11 => k_is); (case a12 => k_is); (case l12 => k_is); (case c12 => k_is); (case k12 => k_is); (case a13 => k_is); (case l13 => k_is); (case c13 => k_is); (case k13 => k_is); (case a14 => k_is); (case l14 => k_is); (case c14 => k_is); (case k14 => k_is); (case a15 => k_is); (case l15 => k_is); (case c15 => k_is); (case k15 => k_is); (case a16 => k_is); (case l16 => k_is); (case c16 => k_is); (case k16 => k_is); (case a17 => k_is); (case l17 => k_is); (case c17 => k_is); (case k17 => k_is); (case a18 => k_is); (case l18 => k_is); (case c18 => k_is); (case k18 => k_is); (case a19 => k_is); (case l19 => k_is); (case c19 => k_is); (case k19 => k_is); (case a20 => k_is); (case l20 => k_is); (case c20 => k_is); (case k20 => k_is); (case a21 => k_is); (case l21 => k_is); (case c21 => k_is); (case k21 => k_is); (case a22 => k_is); (case l22 => k_is); (case c22 => k_is); (case k22 => k_is); (case a23 => k_is); (case l23 => k_is); (case c23 => k_is); (case k23 => k_is); (case a24 => k_is); (case l24 => k_is); (case c24 => k_is); (case k24 => k_is); (case a25 => k_is); (case l25 => k_is); (case c25 => k_is); (case k25 => k_is); (case a26 => k_is); (case l26 => k_is); (case c26 => k_is); (case k26 => k_is); (case z_abs => k_is); (case z_bool => k_is); (case z_int => k_is); (case z_isinstance => k_is); (case z_len => k_is); (case z_list => k_is); (case z_max => k_is); (case z_min => k_is); (case z_range => k_is); (case z_tuple => k_is); (case y_gcd => k_is); (case x_FACTOR_LIMIT => k_is); (case x_FEWEST_BITS => k_is); (case x_MOST_BITS => k_is); (case x_SHIFT_LIMIT => k_is); (case eg0 => k_is); (case ek0 => k_is); (case ee0 => k_exc); (case eb0 => k_is); (case et0 => k_is); (case ev0 => k_is); (case ea0 => k_is); (case ec0 => k_is); (case ed0 => k_is); (case ef0 => k_is); (case em0 => k_is); (case eg1 => k_is); (case ek1 => k_is); (case ee1 => k_exc); (case eb1 => k_is); (case et1 => k_is); (case ev1 => k_is); (case ea1 => k_is); (case ec1 => k_is); (case ed1 => k_is); (case ef1 => k_is); (case em1 => k_is); (case eg2 => k_is); (case ek2 => k_is); (case ee2 => k_exc); (case eb2 => k_is); (case et2 => k_is); (case ev2 => k_is); (case ea2 => k_is); (case ec2 => k_is); (case ed2 => k_is); (case ef2 => k_is); (case em2 => k_is); (case eg3 => k_is); (case ek3 => k_is); (case ee3 => k_exc); (case eb3 => k_is); (case et3 => k_is); (case ev3 => k_is); (case ea3 => k_is); (case ec3 => k_is); (case ed3 => k_is); (case ef3 => k_is); (case em3 => k_is); (case es_0_0 => k_is); (case es_0_1 => k_is); (case es_0_2 => k_is); (case es_0_3 => k_is); (case es_1_0 => k_is); (case es_1_1 => k_is); (case es_1_2 => k_is); (case es_1_3 => k_is); (case es_2_0 => k_is); (case es_2_1 => k_is); (case es_2_2 => k_is); (case es_2_3 => k_is); (case es_3_0 => k_is); (case es_3_1 => k_is); (case es_3_2 => k_is); (case es_3_3 => k_is); (case en => k_is); (case eu => k_is)
