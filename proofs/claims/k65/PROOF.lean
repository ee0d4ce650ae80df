import PyProof.Rows.All
import Wide.All
import OpenK.AllK
import Wide.FinOn
import HandS.ForMost
import HandS.ForExc
import HandS.TupAny
import HandS.TupMul
import HandS.Conv
import HandS.Style
import KE.KDictPairs
import HandS.Flow
import HandS.TryMany
import HandS.ExcValue
import HandS.IsInst
import HandS.Defaults
import HandS.Deep
import HandS.EndBits
import HandS.Iter
import HandS.Comp
import HandS.Star
import HandS.Text
import HandS.Small
import KE.KExcHand
import HandS.ExcIs
import HandS.Strs
import HandS.RaiseMore
import HandS.More
import HandS.HeadHook3
import HandS.CallLocal
import PyProof.DictUpdate
import KE.GoesZip
import KE.GoesMore
import KE.GoesEnum
import HandS.MakeKw
import HandS.MakeKwOnly
import PyProof.ReprLen
import PySem.Challenge.RW_stairwright_k65_codes_looked_at
set_option Elab.async false
set_option linter.all false
set_option maxRecDepth 100000
set_option maxHeartbeats 4000000
/-! tuples whose object has no dict of its own -/
namespace Zz
open PySem PySem.Spec PyProof.Rows L2
/-- a tuple, its object known to be plain -/
def PlT (K : PySem.W.Frag) (F : Hp) (a : Addr) (xs : List V) : Prop :=
  (∃ o, F a = some (.frz o (.tup xs)) ∧ o.dict = none) ∨
  ∃ (o : Obj) (its : Array Value) (n : Nat), K.lookup a = some o ∧ o.dict = none ∧ o.cls = .type "tuple" ∧ o.data = .seq its n ∧ its.size ≤ sizeLine ∧ Vals xs its.toList
theorem PlT.sq {K : PySem.W.Frag} {F : Hp} {a : Addr} {xs : List V} (h : PlT K F a xs) : SqT K F a xs := by
  rcases h with ⟨o, h, _⟩ | ⟨o, its, n, h, _, r⟩
  · exact .inl (.inr ⟨o, h⟩)
  · exact .inr ⟨o, its, n, h, r⟩
section
variable {X : Cx} {pins : List (Addr × Obj)} {σ : L2.St} {H : Hp} {s : Shared} {xs : List V} {its : List Value} {Q : VK}
/-- a new plain tuple -/
theorem plain_new (I : Inv X pins σ H s) (r : Vals xs its) (hz : xs.length ≤ sizeLine) (q : ∀ p ob, H p = none → ob.dict = none → Q (.ref p) (upd H p (.frz ob (.tup xs)))) {tk : Nat} :
    EP X pins σ Q (.ref s.heap.objs.size) { s with heap := s.heap.push { cls := .type "tuple", data := .seq its.toArray }, toks := tk } := by
  have free := I.hok.fresh (Nat.le_refl s.heap.objs.size)
  have I' := I.laid (t' := tk) (o := .frz { cls := .type "tuple", data := .seq its.toArray } (.tup xs)) (h' := s.heap.push { cls := .type "tuple", data := .seq its.toArray }) (fun b ob q => Heap.get?_push_of_some _ q) (Nat.le_refl _)
    ⟨Heap.get?_push_size _ rfl, hz, its, r, IsTup.new _ _⟩
  exact ⟨.ref _, _, I', rfl, q _ _ free rfl⟩
abbrev kNewT (xs : List V) (H : Hp) (Q : VK) : Prop := ∀ p ob, H p = none → ob.dict = none → Q (.ref p) (upd H p (.frz ob (.tup xs)))
/-- (a, b, ..) -/
theorem pe_tupP {es : List Expr} {t : TA} {x1} {pos : Pos} (h : PA X es t) : PE X (.Tuple es x1 pos) (fun σ H Q => t σ H fun xs H1 => xs.length ≤ sizeLine ∧ kNewT xs H1 Q) :=
  ⟨fun pn st sg Hh Qq I0 hq => wpAny_Tuple_spliced (thn (h.run pos pn st sg Hh _ I0 hq) fun us s1 ⟨ys, H1, I1, r, z, q⟩ =>
    ⟨r.length ▸ z, plain_new I1 r z q⟩)⟩
/-- tuple(x) -/
theorem call_tupleP : CallR X (.type "tuple") (fun vs H Q => ∃ p xs, vs = [.ref p] ∧ ((SqL X.K H p xs ∧ kNewT xs H Q) ∨ (SqT X.K H p xs ∧ Q (.ref p) H))) := by
  intro pn st sg Hh vs us Qq I0 r h
  obtain ⟨p, ys, rfl, h⟩ := h
  obtain ⟨u, rfl, ru⟩ := vals1 r
  cases ru
  rcases h with ⟨hs, q⟩ | ⟨hs, q⟩
  · obtain ⟨its, rv, pl, hz⟩ := I0.list hs
    exact call_tuple_list pl.isList (fun h' hk => plain_new (I0.kept (t' := st.toks) hk) rv hz q) (by rw [List.size_toArray, ← rv.length]; exact hz)
  · obtain ⟨its, rv, pl, hz⟩ := I0.tuple hs
    exact call_tuple_tup pl ⟨.ref p, Hh, I0, rfl, q⟩
/-- t + u -/
theorem op_catP : OpR X (binaryOp .Add) (fun x y H Q => ∃ a b xs ys, x = .ref a ∧ y = .ref b ∧ SqT X.K H a xs ∧ SqT X.K H b ys ∧ xs.length + ys.length ≤ sizeLine ∧
    (xs = [] → Q (.ref b) H) ∧ (xs ≠ [] → ys = [] → Q (.ref a) H) ∧ (xs ≠ [] → ys ≠ [] → kNewT (xs ++ ys) H Q)) := by
  intro pn st sg Hh x y v u Qq I0 rx ry h
  obtain ⟨a, b, xs, ys, rfl, rfl, ha, hb, hz, q0, q1, q2⟩ := h
  cases rx
  cases ry
  obtain ⟨is1, r1, p1, _⟩ := I0.tuple ha
  obtain ⟨is2, r2, p2, _⟩ := I0.tuple hb
  by_cases hx : xs = []
  · subst hx
    cases r1
    exact cat_tup0 p1 p2 ⟨.ref b, Hh, I0, rfl, q0 rfl⟩
  · refine HT.cat_tup p1 p2 (fun e => hx (r1.nil_iff.mp e)) (fun e => ⟨.ref a, Hh, I0, rfl, q1 hx (r2.nil_iff.mp e)⟩) (fun e => ?_) (by rw [← r1.length, ← r2.length]; exact hz)
    exact plain_new I0 (r1.append r2) (by rw [List.length_append]; exact hz) (q2 hx fun w => e (r2.nil_iff.mpr w))
/-- t * k -/
theorem op_repP : OpR X (binaryOp .Mult) (fun x y H Q => ∃ l k xs, x = .ref l ∧ y = .int k ∧ SqT X.K H l xs ∧ xs ≠ [] ∧ 2 ≤ k ∧ k ≤ 1000 ∧ xs.length ≤ 1000 ∧ kNewT (List.replicate k.toNat xs).flatten H Q) := by
  intro pn st sg Hh x y v u Qq I0 rx ry h
  obtain ⟨l, k, xs, rfl, rfl, hT, hne, h1, h2, hz, q⟩ := h
  cases rx
  obtain ⟨t, rfl⟩ := ry
  obtain ⟨its, r, ⟨⟨cls, dd, data, sl⟩, ho, hc, n, hd⟩, hs⟩ := I0.tuple hT
  simp only at hc hd
  subst hc hd
  have ln : its.length = xs.length := r.length.symm
  have ne : its ≠ [] := fun e => hne (List.eq_nil_of_length_eq_zero (by rw [← ln, e]; rfl))
  have full : its.toArray.isEmpty = false := by
    cases its with
    | nil => exact absurd rfl ne
    | cons a b => rfl
  have sz : its.toArray.size = xs.length := by rw [List.size_toArray, ln]
  have hm : ((its.toArray.size : Nat) : Int) * k ≤ 1000000 := by
    rw [sz]
    have a1 : ((xs.length : Nat) : Int) * k ≤ 1000 * k := Int.mul_le_mul_of_nonneg_right (by omega) (by omega)
    omega
  have few : k.toNat * xs.length ≤ 1000 * 1000 := Nat.mul_le_mul (by omega) hz
  have long : (List.replicate k.toNat its).flatten.length ≤ sizeLine := by
    rw [PyProof.Rows.lm_len_rep_flat, ln, sizeLine_eq]
    omega
  have c0 : (decide (k < -(2 ^ 63)) || decide (k ≥ 2 ^ 63)) = false := by
    rw [decide_eq_false (by omega), decide_eq_false (by omega)] <;> rfl
  have c1 : (its.toArray.isEmpty || k == 1) = false := by
    rw [full, Bool.false_or]
    exact beq_eq_false_iff_ne.mpr (by omega)
  have c2 : (decide (k ≤ 0) || its.toArray.isEmpty) = false := by
    rw [full, Bool.or_false]
    exact decide_eq_false (by omega)
  have c4 : Builtin.Tuple.tupleTooMany (((its.toArray.size : Nat) : Int) * k) = false := by
    unfold Builtin.Tuple.tupleTooMany
    rw [sizeLine_eq]
    exact decide_eq_false (by omega)
  have ty : st.TypeIs (.ref l) "tuple" := ⟨_, ho, rfl⟩
  refine wpAny_binaryOp_repeat_ref (T := "tuple") (U := "int") (by decide) ⟨_, ho, rfl⟩ (fun s' => typeIs_int s' k t) noFill_tuple_mul F.fills_int_mul F.slot_int_rmul repeat_tuple F.slot_int_index.lookup
    (call_meets F.slot_int_rmul (typeIs_int _ k t) F.entry_int_rmul (F.args_int_rmul_2 _ _) (int_rmul_tuple k t l its.toArray n dd sl)
      ⟨ho, rfl, ty, call_meets PySem.F.slot_tuple_mul ty F.entry_tuple_mul (F.args_tuple_mul_2 _ _) (tuple_mulW l its.toArray n dd sl k t c0 c1 c2 (by omega) c4 (by rw [size_rep, List.size_toArray]; exact long)) ⟨ho, ?_⟩⟩)
  rw [size_rep]
  exact plain_new I0 (r.rep k.toNat) (by rw [PyProof.Rows.lm_len_rep_flat, sizeLine_eq]; omega) q
/-- t[lo:hi] -/
theorem sl_tupP : SlR X (fun x lo hi H Q => ∃ a xs, x = .ref a ∧ SqT X.K H a xs ∧
    (HT.sIx xs.length 0 lo = 0 ∧ HT.sIx xs.length xs.length hi = xs.length → Q (.ref a) H) ∧ (¬ (HT.sIx xs.length 0 lo = 0 ∧ HT.sIx xs.length xs.length hi = xs.length) → kNewT (cutV xs lo hi) H Q)) := by
  intro pn st sg Hh x v vl vu lo hi sl Qq I0 rx hs pl pu h
  obtain ⟨a, xs, rfl, hx, q1, q2⟩ := h
  cases rx
  obtain ⟨its, r, ht, hz⟩ := I0.tuple hx
  have ln : its.toArray.size = xs.length := by rw [List.size_toArray]; exact r.length.symm
  refine ⟨"tuple", _, PyProof.Rows.slot_tuple_getitem.lookup, ht.typeIs, ?_⟩
  by_cases hw : HT.sIx xs.length 0 lo = 0 ∧ HT.sIx xs.length xs.length hi = xs.length
  · exact getItem_tuple_whole ht hs pl pu (by rw [ln]; exact hw) ⟨.ref a, Hh, I0, rfl, q1 hw⟩
  · refine HT.getItem_tuple_cut ht hs pl pu (by rw [ln]; exact hw) ?_ (by rw [ln]; exact hz)
    rw [ln]
    exact plain_new I0 ((r.drop _).take _) (Nat.le_trans (cutV_length xs lo hi) hz) (q2 hw)
/-- tuple(range(a, b)) -/
theorem pe_tupRgP {e : Expr} {te : L2.St → Hp → (Int → Int → Hp → Prop) → Prop} {p pos : Pos} (hc : X.calm = true) (hg : Gl X "tuple") (hm : X.mg "tuple" = none) (he : PRg X e te) (na : starEach [e] X.env = (false, eval e X.env) :: starEach [] X.env := by rfl) :
    PE X (.Call (.Name "tuple" p) [e] [] pos) (fun σ H Q => te σ H fun a b H1 => RgOk a b ∧ kNewT (rgV a b) H1 Q) := by
  refine ⟨fun pn st sg Hh Qq I0 h => Call_ (ld_blt I0 hg hm boot_tuple (PyProof.Rows.callWith_type1 (args_cons (thn (he pn st sg Hh _ I0 h) fun x s1 ⟨r, a, b, t, u, v, H1, ex, hr, I1, ok, q⟩ => args_nil ?_) na) na))⟩
  subst ex
  obtain ⟨b1, b2, b3, b4, b5⟩ := ok
  refine call_tuple_range (n := (b - a).toNat) (I1.ok.hd hc) hr (small_one b1 b2 b3 b4) (rangeSize_nat a b) b5 fun h' tk acc hk hi => ?_
  have I2 : Inv X pn sg H1 { s1 with heap := h', toks := tk } := I1.kept hk
  have z := plain_new (its := acc.toList) (tk := tk) I2 (vals_rg hi) (by rw [rgV_length, sizeLine_eq]; omega) q
  rw [Array.toArray_toList] at z
  exact z
end
end Zz
set_option maxRecDepth 100000
set_option maxHeartbeats 4000000
/-! dict(t) of a plain tuple of pairs, t[::-1] -/
namespace Zz
open PySem PySem.Spec PyProof.Rows L2
section
variable {X : Cx} {pins : List (Addr × Obj)} {σ : L2.St} {H : Hp} {s : Shared}
theorem PlT.at_ {a : Addr} {xs : List V} (I : Inv X pins σ H s) (h : PlT X.K H a xs) : ∃ its : List Value, Vals xs its ∧ PlainSeq "tuple" s.heap a its.toArray ∧ xs.length ≤ sizeLine := by
  rcases h with ⟨o, h, hd⟩ | ⟨o, its, n, hk, hd, hc, hs, hz, r⟩
  · obtain ⟨e, z, its, r, o', e', c, n, d⟩ := I.hok a _ h
    rw [e] at e'
    cases e'
    exact ⟨its, r, ⟨o, n, e, c, hd, d⟩, z⟩
  · refine ⟨its.toList, r, ⟨o, n, I.kIn a o hk, hc, hd, by simpa using hs⟩, ?_⟩
    have e := r.length
    simp only [Array.length_toList] at e
    omega
theorem pairs_told (I : Inv X pins σ H s) : ∀ {ps : List Addr} {kvs : List (Key × V)}, Paired (fun p kv => SqT X.K H p [kV kv.1, kv.2]) ps kvs →
    ∃ (prs : List (Key × Value)) (psv : List (Value × Value)), KV kvs prs ∧ prs.length = ps.length ∧ psv.length = ps.length ∧
      ∀ (j : Nat) (u v : Value), psv[j]? = some (u, v) → ∃ k b, prs[j]? = some (k, v) ∧ ps[j]? = some b ∧ keyIs k u = true ∧ IsTup s.heap b #[u, v]
  | _, _, .nil => ⟨[], [], .nil, rfl, rfl, fun j u v e => by simp at e⟩
  | _, _, .cons (a := p) (b := kv) h t => by
    obtain ⟨prs, psv, r, hl, hl2, hp⟩ := pairs_told I t
    obtain ⟨its, rv, ht, _⟩ := I.tuple h
    obtain ⟨u, y, ei, ru, ry⟩ := vals2 rv
    subst ei
    refine ⟨(kv.1, y) :: prs, (u, y) :: psv, .cons ⟨rfl, ry⟩ r, by simp [hl], by simp [hl2], fun j u' v' e => ?_⟩
    cases j with
    | zero =>
      have e' : (u, y) = (u', v') := Option.some.inj e
      cases e'
      exact ⟨kv.1, p, rfl, rfl, kV_is (P := X.prog) (w := X.w) ru, ht⟩
    | succ j =>
      obtain ⟨k, b, e1, e2, e3⟩ := hp j u' v' (by simpa using e)
      exact ⟨k, b, by simpa using e1, by simpa using e2, e3⟩
/-- dict(t) of a plain tuple of pairs -/
theorem call_dictTP (hcalm : X.calm = true) : CallR X (.type "dict") (fun vs H Q => ∃ (a : Addr) (ps : List Addr) (kvs : List (Key × V)), vs = [.ref a] ∧ PlT X.K H a (ps.map V.ref) ∧ Paired (fun p kv => SqT X.K H p [kV kv.1, kv.2]) ps kvs ∧
    ∀ p, H p = none → Q (.ref p) (upd H p (.dK (mergeK [] kvs)))) := by
  intro pn st sg Hh vs us Qq I0 r h
  obtain ⟨a, ps, kvs, rfl, hq, hp, q⟩ := h
  obtain ⟨u, rfl, ru⟩ := vals1 r
  cases ru
  obtain ⟨its, rv, pl, hz⟩ := hq.at_ I0
  have ei := refs_at rv
  subst ei
  obtain ⟨prs, psv, rel, hl, hl2, hpr⟩ := pairs_told I0 hp
  rw [List.length_map] at hz
  let Ts : Nat → Addr := fun j => (ps[j]?).getD 0
  have items : PairItems st.heap (ps.map Value.ref).toArray Ts psv := by
    refine ⟨by simp [hl2], fun j k v e => ?_⟩
    obtain ⟨k', b, e1, e2, e3, e4⟩ := hpr j k v e
    have et : Ts j = b := by show (ps[j]?).getD 0 = b; rw [e2]; rfl
    rw [et]
    exact ⟨by simp [e2], .inl e4⟩
  have have_ : PairsHave (mixKind X.prog X.w) psv.length (PairRel psv) prs := by
    refine ⟨by rw [hl, hl2], fun i key v e => ?_⟩
    obtain ⟨k', b, e1, e2, e3, e4⟩ := hpr i key v e
    exact ⟨k', e1, e3⟩
  refine PySem.call_dict_pairs (knd := mixKind X.prog X.w) (PairArg.tuple a (ps.map Value.ref).toArray Ts psv) (I0.ok.hd hcalm) ⟨pl, items⟩ have_ (by rw [hl2]; exact hz) fun h' tk hd' k => ?_
  have hm : (st.heap.objs.size == sysModules) = false := beq_eq_false_iff_ne.mpr (Nat.ne_of_gt I0.big)
  have hlen : (mergeK [] kvs).length ≤ sizeLine := by
    refine Nat.le_trans (length_mergeK kvs []) ?_
    rw [List.length_nil, Nat.zero_add, rel.length, hl]
    exact hz
  exact ⟨.ref st.heap.objs.size, _, I0.laid (t' := tk) (o := .dK (mergeK [] kvs)) (fun b o e => k b o (by simp) e) (Nat.le_refl _) ⟨hlen, hm, merged [] prs, KV.merge rel .nil, hd'⟩, rfl, q _ (I0.hok.fresh (Nat.le_refl _))⟩
end
/-! ### t[::-1] -/
section
variable {prog : Program} {w : World} {A : Around} {E : Value → Shared → Prop} {s : Shared}
theorem adjust_back (n : Nat) : Builtin.Slice.sliceAdjust none none (-1) (n : Int) = ((n : Int) - 1, -1) := by
  unfold Builtin.Slice.sliceAdjust
  simp
theorem places_back (n : Nat) : Builtin.Slice.slicePlaces ((n : Int) - 1) (-1) (-1) = n := by
  unfold Builtin.Slice.slicePlaces
  have h1 : ¬ ((-1 : Int) > 0) := by decide
  simp only [h1, if_false]
  split
  · rw [show (- -1 : Int) = 1 by decide, Int.ediv_one]
    omega
  · omega
theorem pick_back (xs : Array Value) : ((List.range xs.size).filterMap fun (m : Nat) => xs[(((xs.size : Int) - 1) + (m : Int) * (-1)).toNat]?).toArray = xs.toList.reverse.toArray := by
  have e : (fun (m : Nat) => xs[(((xs.size : Int) - 1) + (m : Int) * (-1)).toNat]?) = (xs[·]?) ∘ fun m => xs.size - 1 - m := by
    funext m
    have : (((xs.size : Int) - 1) + (m : Int) * (-1)).toNat = xs.size - 1 - m := by omega
    show xs[(((xs.size : Int) - 1) + (m : Int) * (-1)).toNat]? = xs[xs.size - 1 - m]?
    rw [this]
  rw [e, ← List.filterMap_map, PySem.W.krv_range, List.filterMap_reverse, PySem.W.krv_all]
theorem sliced_back {sl : Addr} {k : Tok} {n : Nat} {Q : Int × Int × Nat → Shared → Prop} (hs : s.heap.IsSliceOf sl .none .none (.int (-1) k)) (h : Q ((n : Int) - 1, -1, n) s) :
    wpAny (model prog w) A (Builtin.Slice.sliceApplied (.ref sl) (pure (n : Int))) Q E s := by
  obtain ⟨os, hos, hcs, hds⟩ := id hs
  unfold Builtin.Slice.sliceApplied Builtin.Slice.sliceFields
  refine wpAny_bind (wpAny_bind (wpAny_field hos hds (x := .none) rfl (wpAny_bind (wpAny_field hos hds (x := .none) rfl (wpAny_bind (wpAny_field hos hds (x := .int (-1) k) rfl (wpAny_pure ?_)))))))
  refine wpAny_bind (slicePart_int ?_)
  show wpAny _ _ (if ((-1 : Int) == 0) = true then _ else _) _ _ s
  rw [if_neg (by decide)]
  refine wpAny_bind (slicePart_none (wpAny_bind (slicePart_none (wpAny_bind (wpAny_pure ?_)))))
  show wpAny _ _ (match Builtin.Slice.sliceAdjust none none (-1) (n : Int) with | (lo, hi) => pure (lo, (-1 : Int), Builtin.Slice.slicePlaces lo hi (-1))) _ _ s
  rw [adjust_back]
  show wpAny _ _ (pure ((n : Int) - 1, (-1 : Int), Builtin.Slice.slicePlaces ((n : Int) - 1) (-1) (-1))) _ _ s
  rw [places_back]
  exact wpAny_pure h
theorem getItem_tuple_back {t sl : Addr} {items : Array Value} {k : Tok} {Q : Value → Shared → Prop} (ht : IsTup s.heap t items) (hs : s.heap.IsSliceOf sl .none .none (.int (-1) k))
    (h : Q (.ref s.heap.objs.size) { s with heap := s.heap.push { cls := .type "tuple", data := .seq items.toList.reverse.toArray } }) (hsz : items.size ≤ sizeLine) : wpAny (model prog w) A (getItem (.ref t) (.ref sl)) Q E s := by
  have fits : sizeOk (.seq items.toList.reverse.toArray) := by
    show items.toList.reverse.toArray.size ≤ sizeLine
    simpa using hsz
  obtain ⟨os, hos, hcs, hds⟩ := id hs
  have tS : s.TypeIs (.ref sl) "slice" := ⟨os, hos, hcs⟩
  unfold getItem
  try with_reducible refine wpAny_holding ?_
  first | refine wpAny_bind (wpAny_pure ?_) | skip
  refine wpAny_bind (wpAny_sequenceKey ht.typeIs (by decide) ?_)
  refine wpAny_bind (wpAny_callSpecial?_slot (name := Str.ofString "__getitem__") ht.typeIs PyProof.Rows.slot_tuple_getitem
    (wpAny_call_entry PyProof.Rows.slot_tuple_getitem ht.typeIs entry_tuple_getitem ?_ (args_tuple_getitem _ _)))
  show wpAny _ _ (Builtin.Tuple.tupleItemsOf (.ref t) >>= _) _ _ s
  refine wpAny_bind (tupleItemsOf_ ht ?_)
  refine wpAny_bind (wpAny_typeOf tS ?_)
  rw [if_pos (by decide)]
  refine wpAny_bind (sliced_back hs ?_)
  show wpAny _ _ (if ((((items.size : Int) - 1) == 0 && (-1 : Int) == 1 && items.size == items.size) = true) then _ else _) _ _ s
  rw [if_neg (by simp), pick_back]
  first
    | exact wpAny_bind (m := Builtin.Tuple.tupleExact _) (wpAny_newObj_type (wpAny_pure ⟨_, rfl, wpAny_pure h⟩) fits)
    | exact wpAny_bind (m := Builtin.Tuple.tupleExact _) (wpAny_newObj_type (wpAny_bind (wpAny_pure (wpAny_pure ⟨_, rfl, wpAny_pure h⟩))) fits)
    | exact wpAny_bind (wpAny_bind (m := Builtin.Tuple.tupleExact _) (wpAny_newObj_type (wpAny_pure (wpAny_pure ⟨_, rfl, wpAny_pure h⟩)) fits))
    | exact wpAny_bind (wpAny_bind (m := Builtin.Tuple.tupleExact _) (wpAny_newObj_type (wpAny_pure ⟨_, rfl, wpAny_pure h⟩) fits))
end
section
variable {X : Cx}
theorem pe_rev {e : Expr} {te : TE} {k : Nat} {p1 p2 p3 pos : Pos} (he : PE X e te) : PE X (.Subscript e (.Slice none none (some (.UnaryOp .USub (.Constant (.int 1) k p1) p2)) p3) pos)
    (fun σ H Q => te σ H fun x H1 => (∃ a xs, x = .ref a ∧ SqT X.K H1 a xs ∧ kNewT xs.reverse H1 Q) ∨ (∃ a xs, x = .ref a ∧ SqL X.K H1 a xs ∧ ∀ p, H1 p = none → Q (.ref p) (upd H1 p (.lst xs.reverse)))) := by
  refine ⟨fun pn st sg Hh Qq I0 h => ?_⟩
  refine Subscript_ (thn (he.run pn st sg Hh _ I0 h) fun v s1 ⟨x, H1, I1, r1, q1⟩ => ?_)
  obtain ⟨a, rfl⟩ : ∃ a, x = .ref a := by rcases q1 with ⟨a, _, rfl, _⟩ | ⟨a, _, rfl, _⟩ <;> exact ⟨a, rfl⟩
  cases r1
  have step : PO X (some (.UnaryOp .USub (.Constant (.int 1) k p1) p2)) (tPart (tUn (rU fun i => .int (-i)) (tC (.int 1)))) := po_some (pe_un un_neg pe_int)
  refine wpAny_Slice (thn (po_none.run pn s1 sg H1 (fun o H2 => o = none ∧ H2 = H1) I1 ⟨rfl, rfl⟩) fun vl s2 ⟨l, H2, I2, pl, el, e2⟩ => ?_)
  subst el e2
  refine thn (po_none.run pn s2 sg H2 (fun o H3 => o = none ∧ H3 = H2) I2 ⟨rfl, rfl⟩) fun vu s3 ⟨u, H3, I3, pu, eu, e3⟩ => ?_
  subst eu e3
  refine thn (step.run pn s3 sg H3 (fun o H4 => o = some (-1) ∧ H4 = H3) I3 ⟨1, rfl, -1, rfl, rfl, rfl⟩) fun vs s4 ⟨o, H4, I4, ps, eo, e4⟩ => ?_
  subst eo e4
  cases pl
  cases pu
  obtain ⟨tk, rfl⟩ : ∃ tk, vs = .int (-1) tk := by cases ps; exact ⟨_, rfl⟩
  have I5 : Inv X pn sg H4 { s4 with heap := s4.heap.push { cls := .type "slice", data := .fields #[.none, .none, .int (-1) tk] } } := I4.kept (t' := s4.toks) fun b ob q => Heap.get?_push_of_some _ q
  show wpAny (model X.prog X.w) X.A (subscriptTail e (.Slice none none (some (.UnaryOp .USub (.Constant (.int 1) k p1) p2)) p3) (.ref a) (.ref s4.heap.objs.size)) (EP X pn sg Qq) X.xe _
  rcases q1 with ⟨a', xs, ea, hx, q⟩ | ⟨a', xs, ea, hx, q⟩
  · cases ea
    obtain ⟨its, r, ht, hz⟩ := I5.tuple hx
    have ln := r.length
    refine tail_any (ops := [.ref a, .ref s4.heap.objs.size]) ht.typeIs (PyProof.Rows.slot_tuple_getitem.lookup) ?_ (by with_unfolding_all rfl)
    refine getItem_tuple_back ht (Heap.IsSliceOf.new _ _ _ _) ?_ (by rw [List.size_toArray]; omega)
    exact plain_new I5 (its := its.reverse) r.reverse (by rw [List.length_reverse]; exact hz) q
  · cases ea
    obtain ⟨its, r, ht, hz⟩ := I5.list hx
    have ln := r.length
    refine tail_any (ops := [.ref a, .ref s4.heap.objs.size]) ht.isList.typeIs (PySem.slot_list_getitem.lookup) ?_ (by with_unfolding_all rfl)
    refine wpAny_getItem_list_slice ht.isList (Heap.IsSliceOf.new _ _ _ _) .none .none ps (by decide) ?_ (by rw [List.size_toArray]; omega)
    rw [PySem.W.krv_pick]
    have J := I5.laid (t' := s4.toks) (o := .lst xs.reverse) (fun b ob q => Heap.get?_push_of_some _ q) (Nat.le_refl _) ⟨by rw [List.length_reverse]; exact hz, _, 0, r.reverse, Heap.get?_push_size _ rfl⟩
    exact ⟨.ref _, _, J, rfl, q _ (I5.hok.fresh (Nat.le_refl _))⟩
end
end Zz
set_option maxRecDepth 100000
set_option maxHeartbeats 4000000
/-! A layer of pure readings over HandS: what a piece of the program yields as a function of plain data. -/
namespace Zz
open PySem PySem.Spec PyProof.Rows L2

abbrev D := PyData

/-! ### the frozen part of the heap, and what data a value there is -/
/-- a dict's key as data -/
def keyD : Key → D
  | .inl i => .int i
  | .inr x => .str x
mutual
inductive Dv (K : PySem.W.Frag) (F : Hp) : V → D → Prop
  | non : Dv K F .non .none
  | bl (b : Bool) : Dv K F (.bl b) (.bool b)
  | int (i : Int) : Dv K F (.int i) (.int i)
  | str (x : Str) : Dv K F (.str x) (.str x)
  | lst {a : Addr} {xs : List V} {ds : List D} : SqL K F a xs → DvAll K F xs ds → Dv K F (.ref a) (.list ds)
  | tup {a : Addr} {xs : List V} {ds : List D} : PlT K F a xs → DvAll K F xs ds → Dv K F (.ref a) (.tuple ds)
  | dct {a : Addr} {ks : List (Key × V)} {kds : List (D × D)} : F a = some (.dK ks) → DvKV K F ks kds → Dv K F (.ref a) (.dict kds)
inductive DvAll (K : PySem.W.Frag) (F : Hp) : List V → List D → Prop
  | nil : DvAll K F [] []
  | cons {v : V} {vs : List V} {d : D} {ds : List D} : Dv K F v d → DvAll K F vs ds → DvAll K F (v :: vs) (d :: ds)
inductive DvKV (K : PySem.W.Frag) (F : Hp) : List (Key × V) → List (D × D) → Prop
  | nil : DvKV K F [] []
  | cons {k : Key} {v : V} {r : List (Key × V)} {d : D} {s : List (D × D)} : Dv K F v d → DvKV K F r s → DvKV K F ((k, v) :: r) ((keyD k, d) :: s)
end

section
variable {K : PySem.W.Frag} {F F' : Hp}
theorem seqL (e : Same F F') {a : Addr} {xs : List V} (h : SqL K F a xs) : SqL K F' a xs := e.seq h
theorem seqT (e : Same F F') {a : Addr} {xs : List V} (h : SqT K F a xs) : SqT K F' a xs := by
  rcases h with (h | ⟨o, h⟩) | h
  · exact .inl (.inl (e _ _ h))
  · exact .inl (.inr ⟨o, e _ _ h⟩)
  · exact .inr h
theorem plT (e : Same F F') {a : Addr} {xs : List V} (h : PlT K F a xs) : PlT K F' a xs := by
  rcases h with ⟨o, h, d⟩ | h
  · exact .inl ⟨o, e _ _ h, d⟩
  · exact .inr h
mutual
theorem Dv.mono (e : Same F F') : ∀ {d : D} {v : V}, Dv K F v d → Dv K F' v d
  | .none, _, h => by cases h; exact .non
  | .bool _, _, h => by cases h; exact .bl _
  | .int _, _, h => by cases h; exact .int _
  | .str _, _, h => by cases h; exact .str _
  | .list _, _, h => by cases h with | lst h1 h2 => exact .lst (seqL e h1) (DvAll.mono e h2)
  | .tuple _, _, h => by cases h with | tup h1 h2 => exact .tup (plT e h1) (DvAll.mono e h2)
  | .dict _, _, h => by cases h with | dct h1 h2 => exact .dct (e _ _ h1) (DvKV.mono e h2)
theorem DvAll.mono (e : Same F F') : ∀ {ds : List D} {vs : List V}, DvAll K F vs ds → DvAll K F' vs ds
  | [], _, h => by cases h; exact .nil
  | _ :: _, _, h => by cases h with | cons h1 h2 => exact .cons (Dv.mono e h1) (DvAll.mono e h2)
theorem DvKV.mono (e : Same F F') : ∀ {ds : List (D × D)} {vs : List (Key × V)}, DvKV K F vs ds → DvKV K F' vs ds
  | [], _, h => by cases h; exact .nil
  | _ :: _, _, h => by cases h with | cons h1 h2 => exact .cons (Dv.mono e h1) (DvKV.mono e h2)
end
theorem DvAll.length : ∀ {vs : List V} {ds : List D}, DvAll K F vs ds → vs.length = ds.length
  | _, _, .nil => rfl
  | _, _, .cons _ t => by rw [List.length_cons, List.length_cons, DvAll.length t]
theorem DvAll.get : ∀ {vs : List V} {ds : List D} {i : Nat} {d : D}, DvAll K F vs ds → ds[i]? = some d → ∃ v, vs[i]? = some v ∧ Dv K F v d
  | _, _, _, _, .nil, h => by simp at h
  | _, _, 0, _, .cons r _, h => by simp at h; subst h; exact ⟨_, rfl, r⟩
  | _, _, i + 1, _, .cons _ t, h => by
    obtain ⟨v, e, r⟩ := DvAll.get (i := i) t (by simpa using h)
    exact ⟨v, by simpa using e, r⟩
theorem DvAll.getV : ∀ {vs : List V} {ds : List D} {i : Nat} {v : V}, DvAll K F vs ds → vs[i]? = some v → ∃ d, ds[i]? = some d ∧ Dv K F v d
  | _, _, _, _, .nil, h => by simp at h
  | _, _, 0, _, .cons r _, h => by simp at h; subst h; exact ⟨_, rfl, r⟩
  | _, _, i + 1, _, .cons _ t, h => by
    obtain ⟨v, e, r⟩ := DvAll.getV (i := i) t (by simpa using h)
    exact ⟨v, by simpa using e, r⟩
theorem DvAll.append : ∀ {vs us : List V} {ds es : List D}, DvAll K F vs ds → DvAll K F us es → DvAll K F (vs ++ us) (ds ++ es)
  | _, _, _, _, .nil, s => s
  | _, _, _, _, .cons r t, s => .cons r (DvAll.append t s)
theorem DvAll.take : ∀ {vs : List V} {ds : List D} (n : Nat), DvAll K F vs ds → DvAll K F (vs.take n) (ds.take n)
  | _, _, 0, _ => .nil
  | _, _, _ + 1, .nil => .nil
  | _, _, n + 1, .cons r t => .cons r (DvAll.take n t)
theorem DvAll.drop : ∀ {vs : List V} {ds : List D} (n : Nat), DvAll K F vs ds → DvAll K F (vs.drop n) (ds.drop n)
  | _, _, 0, r => r
  | _, _, _ + 1, .nil => .nil
  | _, _, n + 1, .cons _ t => DvAll.drop n t
theorem DvAll.reverse : ∀ {vs : List V} {ds : List D}, DvAll K F vs ds → DvAll K F vs.reverse ds.reverse
  | _, _, .nil => .nil
  | _, _, .cons r t => by
    rw [List.reverse_cons, List.reverse_cons]
    exact (DvAll.reverse t).append (.cons r .nil)
theorem DvAll.set {v : V} {d : D} (r : Dv K F v d) : ∀ {vs : List V} {ds : List D} (i : Nat), DvAll K F vs ds → DvAll K F (vs.set i v) (ds.set i d)
  | _, _, _, .nil => .nil
  | _, _, 0, .cons _ t => .cons r t
  | _, _, i + 1, .cons q t => .cons q (DvAll.set r i t)
theorem DvAll.rep {vs : List V} {ds : List D} (h : DvAll K F vs ds) : ∀ k : Nat, DvAll K F (List.replicate k vs).flatten (List.replicate k ds).flatten
  | 0 => .nil
  | k + 1 => by
    rw [List.replicate_succ, List.replicate_succ, List.flatten_cons, List.flatten_cons]
    exact h.append (DvAll.rep h k)
end

/-! ### cells: the lists and dicts that the program changes -/
/-- an exception: its class's name, its fields -/
structure Ex where
  cls : Str
  fs : List (Str × D)
inductive Cell where
  | lst (ds : List D)
  | dct (kvs : List (D × D))
  /-- no longer changed -/
  | old (d : D)
  /-- an exception that was caught -/
  | exc (x : Ex)
  /-- an instance of a class of the program, its attributes -/
  | ins (c : Str) (fs : List (Str × D))
def Cell.mut : Cell → Bool
  | .lst _ => true
  | .dct _ => true
  | .old _ => false
  | .exc _ => false
  | .ins _ _ => true
/-- a caught exception's object -/
def ExcO (cls : Value) (d : Option Addr) (a : Addr) : HO := .ext fun h => ∃ (oe : Obj) (vs : Array Value), h.get? a = some oe ∧ Zc cls d oe ∧ oe.data = .fields vs
/-- fields as they stand in an exception's own dict -/
def FsOk (K : PySem.W.Frag) (F : Hp) (fs : List (Str × D)) (d : Option Addr) : Prop :=
  match fs with
  | [] => d = none
  | _ :: _ => ∃ a gs, d = some a ∧ F a = some (.xd gs) ∧ Paired (fun (p : Str × V) (q : Str × D) => p.1 = q.1 ∧ Dv K F p.2 q.2) gs fs
theorem FsOk.mono {K : PySem.W.Frag} {F F' : Hp} (e : Same F F') {fs : List (Str × D)} {d : Option Addr} (h : FsOk K F fs d) : FsOk K F' fs d := by
  cases fs with
  | nil => exact h
  | cons f r =>
    obtain ⟨a, gs, h1, h2, h3⟩ := h
    exact ⟨a, gs, h1, e _ _ h2, Paired.mapP h3 fun _ _ z => ⟨z.1, z.2.mono e⟩⟩
/-- the world: the addresses of the cells, what is in them, the heap -/
structure Wd where
  α : List Addr
  S : List Cell
  H : Hp
/-- the addresses of cells that may change -/
def Wd.muts (w : Wd) : List Addr := ((w.α.zip w.S).filter (·.2.mut)).map (·.1)
/-- the frozen part -/
def Wd.F (w : Wd) : Hp := fun b => if b ∈ w.muts then none else w.H b
def CellOk (K : PySem.W.Frag) (mg : Str → Option Value) (F H : Hp) (a : Addr) : Cell → Prop
  | .lst ds => ∃ xs, H a = some (.lst xs) ∧ DvAll K F xs ds
  | .dct kvs => ∃ ks, H a = some (.dK ks) ∧ DvKV K F ks kvs
  | .old d => Dv K F (.ref a) d
  | .exc x => ∃ C d, mg x.cls = some (.ref C) ∧ F a = some (ExcO (.ref C) d a) ∧ FsOk K F x.fs d
  | .ins c fs => ∃ C dx gs, mg c = some (.ref C) ∧ H a = some (.ins C dx gs) ∧ Paired (fun (p : Str × V) (q : Str × D) => p.1 = q.1 ∧ Dv K F p.2 q.2) gs fs
structure Rep (K : PySem.W.Frag) (mg : Str → Option Value) (w : Wd) : Prop where
  len : w.α.length = w.S.length
  nd : w.α.Nodup
  al : ∀ a ∈ w.α, ∃ o, w.H a = some o
  at_ : ∀ (l : Nat) (a : Addr) (c : Cell), w.α[l]? = some a → w.S[l]? = some c → CellOk K mg w.F w.H a c
/-- a later world -/
structure Ext (w w' : Wd) : Prop where
  pre : w.α <+: w'.α
  same : Same w.F w'.F
theorem Ext.refl (w : Wd) : Ext w w := ⟨List.prefix_refl _, Same.refl _⟩
theorem Ext.trans {a b c : Wd} (h : Ext a b) (g : Ext b c) : Ext a c := ⟨h.pre.trans g.pre, h.same.trans g.same⟩
theorem Ext.at_ {w w' : Wd} (e : Ext w w') {l : Nat} {a : Addr} (h : w.α[l]? = some a) : w'.α[l]? = some a := by
  obtain ⟨t, ht⟩ := e.pre
  rw [← ht, List.getElem?_append_left (List.getElem?_eq_some_iff.mp h).1]
  exact h
/-- what the program's values are to us -/
inductive Val where
  | d (x : D)
  | c (l : Nat)
  /-- a def of the module -/
  | f (x : Str)
def RV (K : PySem.W.Frag) (w : Wd) (v : V) : Val → Prop
  | .d x => Dv K w.F v x
  | .c l => ∃ a, w.α[l]? = some a ∧ v = .ref a
  | .f x => ∃ a, v = .ref a ∧ PySem.W.nsIn K mainGlobals x = some (some (.ref a))
theorem RV.mono {K : PySem.W.Frag} {w w' : Wd} (e : Ext w w') {v : V} : ∀ {x : Val}, RV K w v x → RV K w' v x
  | .d _, h => Dv.mono e.same h
  | .c _, ⟨a, h, r⟩ => ⟨a, e.at_ h, r⟩
  | .f _, h => h
def RVs (K : PySem.W.Frag) (w : Wd) : List V → List Val → Prop := Paired (RV K w)
theorem RVs.mono {K : PySem.W.Frag} {w w' : Wd} (e : Ext w w') {vs : List V} {xs : List Val} (h : RVs K w vs xs) : RVs K w' vs xs := Paired.mapP h fun _ _ r => r.mono e
theorem RVs.length {K : PySem.W.Frag} {w : Wd} {vs : List V} {xs : List Val} (h : RVs K w vs xs) : vs.length = xs.length := Paired.length h
/-- the frame's names -/
abbrev Env' := List (Option Val)
structure RE (K : PySem.W.Frag) (w : Wd) (σ : L2.St) (ρ : Env') : Prop where
  len : σ.length = ρ.length
  at_ : ∀ (i : Nat) (x : Val), ρ[i]? = some (some x) → ∃ v, σ[i]? = some (some v) ∧ RV K w v x
theorem RE.mono {K : PySem.W.Frag} {w w' : Wd} (e : Ext w w') {σ : L2.St} {ρ : Env'} (h : RE K w σ ρ) : RE K w' σ ρ :=
  ⟨h.len, fun i x q => let ⟨v, a, r⟩ := h.at_ i x q; ⟨v, a, r.mono e⟩⟩
theorem RE.set {K : PySem.W.Frag} {w : Wd} {σ : L2.St} {ρ : Env'} (h : RE K w σ ρ) {v : V} {x : Val} (r : RV K w v x) (i : Nat) : RE K w (σ.set i (some v)) (ρ.set i (some x)) := by
  refine ⟨by rw [List.length_set, List.length_set]; exact h.len, fun j y q => ?_⟩
  by_cases hj : i = j
  · subst hj
    by_cases hl : i < ρ.length
    · rw [List.getElem?_set_self hl] at q
      cases q
      exact ⟨v, List.getElem?_set_self (by rw [h.len]; exact hl), r⟩
    · rw [List.getElem?_eq_none (by rw [List.length_set]; omega)] at q
      cases q
  · rw [List.getElem?_set_ne hj] at q
    obtain ⟨u, a, b⟩ := h.at_ j y q
    exact ⟨u, by rw [List.getElem?_set_ne hj]; exact a, b⟩
theorem RE.del {K : PySem.W.Frag} {w : Wd} {σ : L2.St} {ρ : Env'} (h : RE K w σ ρ) (i : Nat) (o : Option V) : RE K w (σ.set i o) (ρ.set i none) := by
  refine ⟨by rw [List.length_set, List.length_set]; exact h.len, fun j y q => ?_⟩
  by_cases hj : i = j
  · subst hj
    by_cases hl : i < ρ.length
    · rw [List.getElem?_set_self hl] at q; cases q
    · rw [List.getElem?_eq_none (by rw [List.length_set]; omega)] at q; cases q
  · rw [List.getElem?_set_ne hj] at q
    obtain ⟨u, a, b⟩ := h.at_ j y q
    exact ⟨u, by rw [List.getElem?_set_ne hj]; exact a, b⟩

/-! ### what a piece yields: stuck (nothing is promised), a value, an exception -/
inductive Res (A : Type) where
  | st
  | ok (a : A) (S : List Cell)
  | ex (x : Ex) (S : List Cell)
abbrev M (A : Type) := List Cell → Res A
def M.ret {A : Type} (a : A) : M A := fun S => .ok a S
def M.st {A : Type} : M A := fun _ => .st
def Res.bind {A B : Type} (r : Res A) (k : A → M B) : Res B := match r with
  | .st => .st
  | .ok a S => k a S
  | .ex x S => .ex x S
def M.bind {A B : Type} (m : M A) (k : A → M B) : M B := fun S => (m S).bind k

/-- an exception in the air -/
def RX (K : PySem.W.Frag) (mg : Str → Option Value) (w : Wd) (cls : Value) (d : Option Addr) (x : Ex) : Prop :=
  ∃ C, mg x.cls = some (.ref C) ∧ cls = .ref C ∧ FsOk K w.F x.fs d
/-- what is wanted behind a piece that yields r, from the world w on -/
def After {A B : Type} (K : PySem.W.Frag) (mg : Str → Option Value) (rel : Wd → B → A → Prop) (w : Wd) (r : Res A) (Q : B → Hp → Prop) (X : XK) : Prop :=
  match r with
  | .st => False
  | .ok a S => ∀ α H b, Ext w ⟨α, S, H⟩ → Rep K mg ⟨α, S, H⟩ → rel ⟨α, S, H⟩ b a → Q b H
  | .ex x S => ∀ α H cls d, Ext w ⟨α, S, H⟩ → Rep K mg ⟨α, S, H⟩ → RX K mg ⟨α, S, H⟩ cls d x → X cls d H
section
variable {K : PySem.W.Frag} {mg : Str → Option Value} {A A' B B' : Type} {rel : Wd → B → A → Prop} {rel' : Wd → B' → A' → Prop} {w w' : Wd}
theorem After.later {r : Res A} {Q : B → Hp → Prop} {X : XK} (h : After K mg rel w r Q X) (e : Ext w w') : After K mg rel w' r Q X := by
  cases r with
  | st => exact h
  | ok a S => exact fun α H b e' => h α H b (e.trans e')
  | ex x S => exact fun α H c d e' => h α H c d (e.trans e')
theorem After.imp {r : Res A} {Q Q' : B → Hp → Prop} {X X' : XK} (h : After K mg rel w r Q X) (hq : ∀ b H, Q b H → Q' b H) (hx : ∀ c d H, X c d H → X' c d H) : After K mg rel w r Q' X' := by
  cases r with
  | st => exact h
  | ok a S => exact fun α H b e1 e2 e3 => hq _ _ (h α H b e1 e2 e3)
  | ex x S => exact fun α H c d e1 e2 e3 => hx _ _ _ (h α H c d e1 e2 e3)
/-- the first part, then the second -/
theorem After.split {r : Res A} {k : A → M A'} {Q : B' → Hp → Prop} {X : XK} (h : After K mg rel' w (r.bind k) Q X) :
    After K mg rel w r (fun b H => ∃ α S a, Ext w ⟨α, S, H⟩ ∧ Rep K mg ⟨α, S, H⟩ ∧ rel ⟨α, S, H⟩ b a ∧ After K mg rel' ⟨α, S, H⟩ (k a S) Q X) X := by
  cases r with
  | st => exact h
  | ok a S => exact fun α H b e1 e2 e3 => ⟨α, S, a, e1, e2, e3, After.later h e1⟩
  | ex x S => exact h
end
/-- the reading of an expression that yields f -/
def tD (K : PySem.W.Frag) (mg : Str → Option Value) (W : WX) (f : Env' → M Val) : TE := fun σ H Q =>
  ∃ α S ρ, Rep K mg ⟨α, S, H⟩ ∧ RE K ⟨α, S, H⟩ σ ρ ∧ After K mg (RV K) ⟨α, S, H⟩ (f ρ S) Q (fun c d H' => W c d σ H')
/-- of an argument list -/
def tDs (K : PySem.W.Frag) (mg : Str → Option Value) (W : WX) (f : Env' → M (List Val)) : TA := fun σ H Q =>
  ∃ α S ρ, Rep K mg ⟨α, S, H⟩ ∧ RE K ⟨α, S, H⟩ σ ρ ∧ After K mg (RVs K) ⟨α, S, H⟩ (f ρ S) Q (fun c d H' => W c d σ H')
/-- of a test -/
def tDt (K : PySem.W.Frag) (mg : Str → Option Value) (W : WX) (f : Env' → M Bool) : TT := fun σ H Q =>
  ∃ α S ρ, Rep K mg ⟨α, S, H⟩ ∧ RE K ⟨α, S, H⟩ σ ρ ∧ After K mg (fun _ b a => b = a) ⟨α, S, H⟩ (f ρ S) Q (fun c d H' => W c d σ H')
section
variable {X : Cx} {e : Expr} {es : List Expr} {t t' : TE} {ta ta' : TA} {tt tt' : TT}
theorem PE.imp (h : PE X e t) (k : ∀ σ H Q, t' σ H Q → t σ H Q) : PE X e t' := ⟨fun pins s σ H Q I q => h.run pins s σ H Q I (k σ H Q q)⟩
theorem PA.imp (h : PA X es ta) (k : ∀ σ H Q, ta' σ H Q → ta σ H Q) : PA X es ta' := ⟨fun pos pins s σ H Q I q => h.run pos pins s σ H Q I (k σ H Q q)⟩
theorem PT.imp (h : PT X e tt) (k : ∀ σ H Q, tt' σ H Q → tt σ H Q) : PT X e tt' := ⟨fun pins s σ H Q I q => h.run pins s σ H Q I (k σ H Q q)⟩
theorem PW.imp (h : PW X e tt) (k : ∀ σ H Q, tt' σ H Q → tt σ H Q) : PW X e tt' := ⟨fun wh pins s σ H Q I q => h.run wh pins s σ H Q I (k σ H Q q)⟩
end
/-- pieces: an expression, an argument list, a test that yield f -/
abbrev ED (X : Cx) (W : WX) (e : Expr) (f : Env' → M Val) : Prop := PE X e (tD X.K X.mg W f)
abbrev AD (X : Cx) (W : WX) (es : List Expr) (f : Env' → M (List Val)) : Prop := PA X es (tDs X.K X.mg W f)
abbrev TDt (X : Cx) (W : WX) (e : Expr) (f : Env' → M Bool) : Prop := PT X e (tDt X.K X.mg W f)
abbrev WDt (X : Cx) (W : WX) (e : Expr) (f : Env' → M Bool) : Prop := PW X e (tDt X.K X.mg W f)
end Zz
set_option maxRecDepth 100000
set_option maxHeartbeats 4000000
namespace Zz
open PySem PySem.Spec PyProof.Rows L2
section
variable {K : PySem.W.Frag} {mg : Str → Option Value} {w w' : Wd}
theorem Wd.F_same (w : Wd) : Same w.F w.H := fun b o h => by
  unfold Wd.F at h
  split at h
  · cases h
  · exact h
theorem Wd.F_of {w : Wd} {b : Addr} {o : HO} (h : w.H b = some o) (hm : b ∉ w.muts) : w.F b = some o := by
  unfold Wd.F
  rw [if_neg hm]
  exact h
theorem mem_muts {w : Wd} {b : Addr} (hl : w.α.length = w.S.length) : b ∈ w.muts ↔ ∃ (l : Nat) (c : Cell), w.α[l]? = some b ∧ w.S[l]? = some c ∧ c.mut = true := by
  unfold Wd.muts
  constructor
  · intro h
    obtain ⟨p, hp, e⟩ := List.mem_map.mp h
    obtain ⟨h1, h2⟩ := List.mem_filter.mp hp
    obtain ⟨i, hi⟩ := List.mem_iff_getElem?.mp h1
    rw [List.getElem?_zip_eq_some] at hi
    exact ⟨i, p.2, by rw [← e]; exact hi.1, hi.2, h2⟩
  · rintro ⟨l, c, h1, h2, h3⟩
    refine List.mem_map.mpr ⟨(b, c), List.mem_filter.mpr ⟨List.mem_iff_getElem?.mpr ⟨l, List.getElem?_zip_eq_some.mpr ⟨h1, h2⟩⟩, h3⟩, rfl⟩
theorem CellOk.there {F H : Hp} {a : Addr} {c : Cell} (h : CellOk K mg F H a c) (m : c.mut = true) : ∃ o, H a = some o := by
  cases c with
  | lst ds => obtain ⟨xs, h, _⟩ := h; exact ⟨_, h⟩
  | dct ks => obtain ⟨xs, h, _⟩ := h; exact ⟨_, h⟩
  | old d => cases m
  | exc x => cases m
  | ins c fs => obtain ⟨C, dx, gs, _, h, _⟩ := h; exact ⟨_, h⟩
theorem Rep.fresh (R : Rep K mg w) {p : Addr} (hp : w.H p = none) : p ∉ w.muts := fun h => by
  obtain ⟨l, c, h1, h2, h3⟩ := (mem_muts R.len).mp h
  obtain ⟨o, e⟩ := (R.at_ l p c h1 h2).there h3
  rw [hp] at e; cases e
theorem CellOk.mono {F F' H H' : Hp} {a : Addr} {c : Cell} (h : CellOk K mg F H a c) (e : Same F F') (ha : c.mut = true → H' a = H a) : CellOk K mg F' H' a c := by
  cases c with
  | lst ds => obtain ⟨xs, h, g⟩ := h; exact ⟨xs, by rw [ha rfl]; exact h, g.mono e⟩
  | dct ks => obtain ⟨xs, h, g⟩ := h; exact ⟨xs, by rw [ha rfl]; exact h, g.mono e⟩
  | old d => exact Dv.mono e h
  | exc x => obtain ⟨C, d, h1, h2, h3⟩ := h; exact ⟨C, d, h1, e _ _ h2, h3.mono e⟩
  | ins c fs => obtain ⟨C, dx, gs, h1, h2, h3⟩ := h; exact ⟨C, dx, gs, h1, by rw [ha rfl]; exact h2, Paired.mapP h3 fun _ _ z => ⟨z.1, z.2.mono e⟩⟩
/-- the same cells in another heap -/
theorem Rep.heap (R : Rep K mg w) {H' : Hp} (e : Same w.F (Wd.F ⟨w.α, w.S, H'⟩)) (k : ∀ a, a ∈ w.muts → H' a = w.H a) : Rep K mg ⟨w.α, w.S, H'⟩ ∧ Ext w ⟨w.α, w.S, H'⟩ :=
  ⟨⟨R.len, R.nd, fun a ha => by
    obtain ⟨o, ho⟩ := R.al a ha
    by_cases hm : a ∈ w.muts
    · exact ⟨o, (k a hm).trans ho⟩
    · exact ⟨o, Wd.F_same _ _ _ (e _ _ (Wd.F_of ho hm))⟩, fun l a c h1 h2 => (R.at_ l a c h1 h2).mono e fun m => k a ((mem_muts R.len).mpr ⟨l, c, h1, h2, m⟩)⟩, List.prefix_refl _, e⟩
/-- a new object -/
theorem Rep.new (R : Rep K mg w) {p : Addr} (hp : w.H p = none) (o : HO) :
    Rep K mg ⟨w.α, w.S, upd w.H p o⟩ ∧ Ext w ⟨w.α, w.S, upd w.H p o⟩ ∧ Wd.F ⟨w.α, w.S, upd w.H p o⟩ p = some o := by
  have hm := R.fresh hp
  have e : Same w.F (Wd.F ⟨w.α, w.S, upd w.H p o⟩) := fun b u h => by
    unfold Wd.F at h ⊢
    show (if b ∈ w.muts then none else upd w.H p o b) = some u
    split at h
    · cases h
    · rename_i hb
      rw [if_neg hb, upd_ne (ne_of_none h hp)]
      exact h
  obtain ⟨r1, r2⟩ := R.heap (H' := upd w.H p o) e fun a ha => upd_ne fun z => hm (z ▸ ha)
  refine ⟨r1, r2, ?_⟩
  unfold Wd.F
  show (if p ∈ w.muts then none else upd w.H p o p) = some o
  rw [if_neg hm, upd_same]
theorem muts_snoc {α : List Addr} {S : List Cell} {H : Hp} {p : Addr} {c : Cell} (hl : α.length = S.length) : Wd.muts ⟨α ++ [p], S ++ [c], H⟩ = Wd.muts ⟨α, S, H⟩ ++ (if c.mut = true then [p] else []) := by
  unfold Wd.muts
  show (((α ++ [p]).zip (S ++ [c])).filter (·.2.mut)).map (·.1) = _
  rw [List.zip_append hl, List.filter_append, List.map_append]
  congr 1
  show (List.filter (fun x : Addr × Cell => x.2.mut) [(p, c)]).map (·.1) = _
  rw [List.filter_cons, List.filter_nil]
  split <;> rfl
/-- a new cell -/
theorem Rep.cell (R : Rep K mg w) {p : Addr} (hp : w.H p = none) {o : HO} {c : Cell} (hc : c.mut = true) (ok : CellOk K mg w.F (upd w.H p o) p c) :
    Rep K mg ⟨w.α ++ [p], w.S ++ [c], upd w.H p o⟩ ∧ Ext w ⟨w.α ++ [p], w.S ++ [c], upd w.H p o⟩ := by
  have hm := R.fresh hp
  have hnot : p ∉ w.α := fun z => by
    obtain ⟨o, e⟩ := R.al p z
    rw [hp] at e; cases e
  have em : Wd.muts ⟨w.α ++ [p], w.S ++ [c], upd w.H p o⟩ = w.muts ++ [p] := by
    rw [muts_snoc R.len, if_pos hc]; rfl
  have e : Same w.F (Wd.F ⟨w.α ++ [p], w.S ++ [c], upd w.H p o⟩) := fun b u h => by
    unfold Wd.F at h ⊢
    rw [em]
    show (if b ∈ w.muts ++ [p] then none else upd w.H p o b) = some u
    split at h
    · cases h
    · rename_i hb
      have hbp := ne_of_none h hp
      rw [if_neg (by simp [hb, hbp]), upd_ne hbp]
      exact h
  refine ⟨⟨by simp [R.len], ?_, fun a ha => ?_, fun l a c' h1 h2 => ?_⟩, List.prefix_append _ _, e⟩
  · exact List.nodup_append.mpr ⟨R.nd, by simp, fun a ha b hb z => by
      have : b = p := by simpa using hb
      subst this; subst z; exact hnot ha⟩
  · rcases List.mem_append.mp ha with ha | ha
    · obtain ⟨u, hu⟩ := R.al a ha
      exact ⟨u, (upd_ne (ne_of_none hu hp)).trans hu⟩
    · have z : a = p := by simpa using ha
      subst z
      exact ⟨o, upd_same⟩
  · by_cases hl : l < w.α.length
    · have h1' : w.α[l]? = some a := by
        have : (w.α ++ [p])[l]? = some a := h1
        rwa [List.getElem?_append_left hl] at this
      have h2' : w.S[l]? = some c' := by
        have : (w.S ++ [c])[l]? = some c' := h2
        rwa [List.getElem?_append_left (by rw [← R.len]; exact hl)] at this
      exact (R.at_ l a c' h1' h2').mono e fun m => upd_ne fun z => hm (by rw [← z]; exact (mem_muts R.len).mpr ⟨l, c', h1', h2', m⟩)
    · have h1' : ([p] : List Addr)[l - w.α.length]? = some a := by
        have : (w.α ++ [p])[l]? = some a := h1
        rwa [List.getElem?_append_right (by omega)] at this
      have h2' : ([c] : List Cell)[l - w.S.length]? = some c' := by
        have : (w.S ++ [c])[l]? = some c' := h2
        rwa [List.getElem?_append_right (by rw [← R.len]; omega)] at this
      obtain ⟨h3, _⟩ := List.getElem?_eq_some_iff.mp h1'
      have hz : l - w.α.length = 0 := by simpa using h3
      have hz2 : l - w.S.length = 0 := by rw [← R.len]; exact hz
      rw [hz] at h1'; rw [hz2] at h2'
      have e1 : p = a := by simpa using h1'
      have e2 : c = c' := by simpa using h2'
      subst e1 e2
      exact ok.mono e fun _ => rfl
theorem muts_set {α : List Addr} {S : List Cell} {H : Hp} {l : Nat} {c c' : Cell} (h : S[l]? = some c) (hm : c'.mut = c.mut) : Wd.muts ⟨α, S.set l c', H⟩ = Wd.muts ⟨α, S, H⟩ := by
  unfold Wd.muts
  show ((α.zip (S.set l c')).filter (·.2.mut)).map (·.1) = ((α.zip S).filter (·.2.mut)).map (·.1)
  induction S generalizing α l with
  | nil => simp at h
  | cons s r ih =>
    cases α with
    | nil => rfl
    | cons a α =>
      cases l with
      | zero =>
        have e : s = c := by simpa using h
        subst e
        show (List.filter _ ((a, c') :: α.zip r)).map _ = (List.filter _ ((a, s) :: α.zip r)).map _
        rw [List.filter_cons, List.filter_cons]
        show (if c'.mut = true then _ else _ : List (Addr × Cell)).map _ = (if s.mut = true then _ else _ : List (Addr × Cell)).map _
        rw [hm]
        split <;> rfl
      | succ l =>
        have := ih (α := α) (l := l) (by simpa using h)
        show (List.filter _ ((a, s) :: α.zip (r.set l c'))).map _ = (List.filter _ ((a, s) :: α.zip r)).map _
        rw [List.filter_cons, List.filter_cons]
        split
        · rw [List.map_cons, List.map_cons, this]
        · exact this
theorem nodup_ixA {N : List Addr} (hN : N.Nodup) {i j : Nat} {x : Addr} (a : N[i]? = some x) (b : N[j]? = some x) : i = j := by
  obtain ⟨h1, e1⟩ := List.getElem?_eq_some_iff.mp a
  obtain ⟨h2, e2⟩ := List.getElem?_eq_some_iff.mp b
  exact (List.getElem_inj hN).mp (e1.trans e2.symm)
/-- a cell is written -/
theorem Rep.write (R : Rep K mg w) {l : Nat} {a : Addr} {c c' : Cell} {o : HO} (h1 : w.α[l]? = some a) (h2 : w.S[l]? = some c) (m : c.mut = true) (m' : c'.mut = true) (ok : CellOk K mg w.F (upd w.H a o) a c') :
    Rep K mg ⟨w.α, w.S.set l c', upd w.H a o⟩ ∧ Ext w ⟨w.α, w.S.set l c', upd w.H a o⟩ := by
  have em : ∀ H, Wd.muts ⟨w.α, w.S.set l c', H⟩ = w.muts := fun H => muts_set (H := H) h2 (m'.trans m.symm)
  have ha : a ∈ w.muts := (mem_muts R.len).mpr ⟨l, c, h1, h2, m⟩
  have e : Same w.F (Wd.F ⟨w.α, w.S.set l c', upd w.H a o⟩) := fun b u h => by
    unfold Wd.F at h ⊢
    rw [em]
    show (if b ∈ w.muts then none else upd w.H a o b) = some u
    split at h
    · cases h
    · rename_i hb
      rw [if_neg hb, upd_ne fun z => hb (by rw [z]; exact ha)]
      exact h
  refine ⟨⟨by simp [R.len], R.nd, fun b hb => ?_, fun j b d g1 g2 => ?_⟩, List.prefix_refl _, e⟩
  · by_cases hba : b = a
    · subst hba; exact ⟨o, upd_same⟩
    · obtain ⟨u, hu⟩ := R.al b hb
      exact ⟨u, (upd_ne hba).trans hu⟩
  by_cases hj : l = j
  · subst hj
    have hl := (List.getElem?_eq_some_iff.mp h2).1
    have g2' : (w.S.set l c')[l]? = some d := g2
    rw [List.getElem?_set_self hl] at g2'
    have e1 : a = b := Option.some.inj (h1.symm.trans g1)
    have e2 : c' = d := Option.some.inj g2'
    subst e1 e2
    exact ok.mono e fun _ => rfl
  · have g2' : w.S[j]? = some d := by
      have : (w.S.set l c')[j]? = some d := g2
      rwa [List.getElem?_set_ne hj] at this
    refine (R.at_ j b d g1 g2').mono e fun _ => upd_ne fun z => hj ?_
    subst z
    exact nodup_ixA R.nd h1 g1
/-- what a value holds just now -/
def rd (S : List Cell) : Val → Option D
  | .d x => some x
  | .c l => match S[l]? with
    | some (.lst ds) => some (.list ds)
    | some (.dct kvs) => some (.dict kvs)
    | some (.old d) => some d
    | _ => none
  | .f _ => none
theorem Rep.rd_ {v : V} {x : Val} {d : D} (R : Rep K mg w) (r : RV K w v x) (h : rd w.S x = some d) : Dv K w.F v d ∨ (∃ l a xs ds, x = .c l ∧ v = .ref a ∧ d = .list ds ∧ w.α[l]? = some a ∧ w.S[l]? = some (.lst ds) ∧ w.H a = some (.lst xs) ∧ DvAll K w.F xs ds) ∨
    (∃ l a ks kds, x = .c l ∧ v = .ref a ∧ d = .dict kds ∧ w.α[l]? = some a ∧ w.S[l]? = some (.dct kds) ∧ w.H a = some (.dK ks) ∧ DvKV K w.F ks kds) := by
  cases x with
  | d y => exact .inl (by have e : y = d := Option.some.inj h; rw [← e]; exact r)
  | f z => cases h
  | c l =>
    obtain ⟨a, ha, rfl⟩ := r
    unfold rd at h
    cases hs : w.S[l]? with
    | none => simp only [hs] at h; cases h
    | some c =>
      cases c with
      | lst ds =>
        simp only [hs] at h; cases h
        obtain ⟨xs, h1, h2⟩ := R.at_ l a _ ha hs
        exact .inr (.inl ⟨l, a, xs, ds, rfl, rfl, rfl, ha, hs, h1, h2⟩)
      | dct ks =>
        simp only [hs] at h; cases h
        obtain ⟨xs, h1, h2⟩ := R.at_ l a _ ha hs
        exact .inr (.inr ⟨l, a, xs, ks, rfl, rfl, rfl, ha, hs, h1, h2⟩)
      | old e =>
        simp only [hs] at h; cases h
        exact .inl (R.at_ l a _ ha hs)
      | exc z => simp only [hs] at h; cases h
      | ins c fs => simp only [hs] at h; cases h
theorem Rep.list {v : V} {x : Val} {ds : List D} (R : Rep K mg w) (r : RV K w v x) (h : rd w.S x = some (.list ds)) : ∃ a xs, v = .ref a ∧ SqL K w.H a xs ∧ DvAll K w.F xs ds := by
  rcases R.rd_ r h with q | ⟨l, a, xs, es, rfl, rfl, e, h1, h2, h3, h4⟩ | ⟨l, a, xs, es, rfl, rfl, e, _⟩
  · cases q with | lst h1 h2 => exact ⟨_, _, rfl, seqL w.F_same h1, h2⟩
  · cases e; exact ⟨a, xs, rfl, SqL.of h3, h4⟩
  · cases e
theorem Rep.tuple {v : V} {x : Val} {ds : List D} (R : Rep K mg w) (r : RV K w v x) (h : rd w.S x = some (.tuple ds)) : ∃ a xs, v = .ref a ∧ SqT K w.H a xs ∧ DvAll K w.F xs ds ∧ Dv K w.F v (.tuple ds) := by
  rcases R.rd_ r h with q | ⟨l, a, xs, es, rfl, rfl, e, h1, h2, h3, h4⟩ | ⟨l, a, xs, es, rfl, rfl, e, _⟩
  · cases q with | tup h1 h2 => exact ⟨_, _, rfl, seqT w.F_same h1.sq, h2, .tup h1 h2⟩
  · cases e
  · cases e
theorem Rep.tupleP {v : V} {x : Val} {ds : List D} (R : Rep K mg w) (r : RV K w v x) (h : rd w.S x = some (.tuple ds)) : ∃ a xs, v = .ref a ∧ PlT K w.H a xs ∧ DvAll K w.F xs ds := by
  obtain ⟨a, xs, rfl, _, _, d⟩ := R.tuple r h
  cases d with | tup h1 h2 => exact ⟨_, _, rfl, plT w.F_same h1, h2⟩
theorem Rep.dict {v : V} {x : Val} {ds : List (D × D)} (R : Rep K mg w) (r : RV K w v x) (h : rd w.S x = some (.dict ds)) : ∃ a ks, v = .ref a ∧ w.H a = some (.dK ks) ∧ DvKV K w.F ks ds := by
  rcases R.rd_ r h with q | ⟨l, a, xs, es, rfl, rfl, e, h1, h2, h3, h4⟩ | ⟨l, a, xs, es, rfl, rfl, e, h1, h2, h3, h4⟩
  · cases q with | dct h1 h2 => exact ⟨_, _, rfl, w.F_same _ _ h1, h2⟩
  · cases e
  · cases e; exact ⟨a, xs, rfl, h3, h4⟩
/-- anything, as data of the whole heap -/
theorem Rep.any {v : V} {x : Val} {d : D} (R : Rep K mg w) (r : RV K w v x) (h : rd w.S x = some d) : Dv K w.H v d := by
  rcases R.rd_ r h with q | ⟨l, a, xs, es, rfl, rfl, rfl, h1, h2, h3, h4⟩ | ⟨l, a, xs, es, rfl, rfl, rfl, h1, h2, h3, h4⟩
  · exact q.mono w.F_same
  · exact .lst (SqL.of h3) (h4.mono w.F_same)
  · exact .dct h3 (h4.mono w.F_same)
theorem Rep.scal {v : V} {x : Val} {d : D} (R : Rep K mg w) (r : RV K w v x) (h : rd w.S x = some d) (hn : ∀ ds, d ≠ .list ds) (hd : ∀ ds, d ≠ .dict ds) : Dv K w.F v d := by
  rcases R.rd_ r h with q | ⟨l, a, xs, es, rfl, rfl, rfl, _⟩ | ⟨l, a, xs, es, rfl, rfl, rfl, _⟩
  · exact q
  · exact absurd rfl (hn es)
  · exact absurd rfl (hd es)
theorem Rep.int {v : V} {x : Val} {i : Int} (R : Rep K mg w) (r : RV K w v x) (h : rd w.S x = some (.int i)) : v = .int i := by
  cases R.scal r h nofun nofun; rfl
theorem Rep.str {v : V} {x : Val} {i : Str} (R : Rep K mg w) (r : RV K w v x) (h : rd w.S x = some (.str i)) : v = .str i := by
  cases R.scal r h nofun nofun; rfl
theorem Rep.bool {v : V} {x : Val} {i : Bool} (R : Rep K mg w) (r : RV K w v x) (h : rd w.S x = some (.bool i)) : v = .bl i := by
  cases R.scal r h nofun nofun; rfl
theorem Rep.none {v : V} {x : Val} (R : Rep K mg w) (r : RV K w v x) (h : rd w.S x = some .none) : v = .non := by
  cases R.scal r h nofun nofun; rfl
/-- a cell that is kept elsewhere is changed no more -/
def frz : Val → M D
  | .d x => M.ret x
  | .c l => fun S => match S[l]? with
    | some (.lst ds) => .ok (.list ds) (S.set l (.old (.list ds)))
    | some (.dct kvs) => .ok (.dict kvs) (S.set l (.old (.dict kvs)))
    | some (.old d) => .ok d S
    | _ => .st
  | .f _ => M.st
theorem muts_off {α : List Addr} {S : List Cell} {H H' : Hp} {l : Nat} {c c' : Cell} (hl : α.length = S.length) (h : S[l]? = some c) (hm : c'.mut = false) {b : Addr} (hb : b ∈ Wd.muts ⟨α, S.set l c', H'⟩) : (∃ j, j ≠ l ∧ α[j]? = some b) ∧ b ∈ Wd.muts ⟨α, S, H⟩ := by
  obtain ⟨j, d, h1, h2, h3⟩ := (mem_muts (w := ⟨α, S.set l c', H'⟩) (by simp [hl])).mp hb
  by_cases hj : l = j
  · subst hj
    have h2' : (S.set l c')[l]? = some d := h2
    rw [List.getElem?_set_self (List.getElem?_eq_some_iff.mp h).1] at h2'
    cases h2'
    rw [hm] at h3; cases h3
  · have h2' : (S.set l c')[j]? = some d := h2
    rw [List.getElem?_set_ne hj] at h2'
    exact ⟨⟨j, fun z => hj z.symm, h1⟩, (mem_muts (w := ⟨α, S, H⟩) hl).mpr ⟨j, d, h1, h2', h3⟩⟩
theorem Rep.seal (R : Rep K mg w) {l : Nat} {a : Addr} {c : Cell} {d : D} {o : HO} (h1 : w.α[l]? = some a) (h2 : w.S[l]? = some c) (m : c.mut = true) (ho : w.H a = some o)
    (ok : ∀ F, Same w.F F → F a = some o → Dv K F (.ref a) d) : Rep K mg ⟨w.α, w.S.set l (.old d), w.H⟩ ∧ Ext w ⟨w.α, w.S.set l (.old d), w.H⟩ ∧ Dv K (Wd.F ⟨w.α, w.S.set l (.old d), w.H⟩) (.ref a) d := by
  have off : ∀ {b}, b ∈ Wd.muts ⟨w.α, w.S.set l (.old d), w.H⟩ → b ∈ w.muts ∧ b ≠ a := fun {b} hb => by
    obtain ⟨⟨j, hj, e⟩, q⟩ := muts_off (H := w.H) R.len h2 (c' := .old d) rfl hb
    exact ⟨q, fun z => hj (nodup_ixA R.nd (by rw [z] at e; exact e) h1)⟩
  have e : Same w.F (Wd.F ⟨w.α, w.S.set l (.old d), w.H⟩) := fun b u h => by
    unfold Wd.F at h ⊢
    split at h
    · cases h
    · rename_i hb
      rw [if_neg fun z => hb (off z).1]
      exact h
  have fa : Wd.F ⟨w.α, w.S.set l (.old d), w.H⟩ a = some o := Wd.F_of ho fun z => (off z).2 rfl
  have dv := ok _ e fa
  refine ⟨⟨by simp [R.len], R.nd, R.al, fun j b c' g1 g2 => ?_⟩, ⟨List.prefix_refl _, e⟩, dv⟩
  by_cases hj : l = j
  · subst hj
    have g2' : (w.S.set l (.old d))[l]? = some c' := g2
    rw [List.getElem?_set_self (List.getElem?_eq_some_iff.mp h2).1] at g2'
    cases g2'
    have e1 : a = b := Option.some.inj (h1.symm.trans g1)
    subst e1
    exact dv
  · have g2' : (w.S.set l (.old d))[j]? = some c' := g2
    rw [List.getElem?_set_ne hj] at g2'
    exact (R.at_ j b c' g1 g2').mono e fun _ => rfl
theorem frz_ok {v : V} {x : Val} {A' B' : Type} {rel : Wd → B' → A' → Prop} {k : D → M A'} {Q : B' → Hp → Prop} {X : XK} (R : Rep K mg w) (r : RV K w v x) (h : After K mg rel w ((frz x w.S).bind k) Q X) :
    ∃ S' d, Ext w ⟨w.α, S', w.H⟩ ∧ Rep K mg ⟨w.α, S', w.H⟩ ∧ Dv K (Wd.F ⟨w.α, S', w.H⟩) v d ∧ After K mg rel ⟨w.α, S', w.H⟩ (k d S') Q X := by
  cases x with
  | d y => exact ⟨w.S, y, Ext.refl _, R, r, h⟩
  | f z => exact False.elim h
  | c l =>
    obtain ⟨a, ha, rfl⟩ := r
    unfold frz at h
    cases hs : w.S[l]? with
    | none => simp only [hs] at h; exact False.elim h
    | some c =>
      cases c with
      | lst ds =>
        simp only [hs] at h
        obtain ⟨xs, h1, h2⟩ := R.at_ l a _ ha hs
        obtain ⟨r1, e1, d1⟩ := R.seal (d := .list ds) ha hs rfl h1 fun F e q => .lst (SqL.of q) (h2.mono e)
        exact ⟨_, _, e1, r1, d1, After.later (show After K mg rel w (k (.list ds) (w.S.set l (.old (.list ds)))) Q X from h) e1⟩
      | dct ks =>
        simp only [hs] at h
        obtain ⟨xs, h1, h2⟩ := R.at_ l a _ ha hs
        obtain ⟨r1, e1, d1⟩ := R.seal (d := .dict ks) ha hs rfl h1 fun F e q => .dct q (h2.mono e)
        exact ⟨_, _, e1, r1, d1, After.later (show After K mg rel w (k (.dict ks) (w.S.set l (.old (.dict ks)))) Q X from h) e1⟩
      | old e =>
        simp only [hs] at h
        exact ⟨w.S, e, Ext.refl _, R, R.at_ l a _ ha hs, h⟩
      | exc z => simp only [hs] at h; exact False.elim h
      | ins c fs => simp only [hs] at h; exact False.elim h
end
end Zz
set_option maxRecDepth 100000
set_option maxHeartbeats 4000000
namespace Zz
open PySem PySem.Spec PyProof.Rows L2

/-! ### operators, by data -/
abbrev O2 := D → D → Option D
/-- the world with another heap -/
abbrev Wd.at (w : Wd) (H : Hp) : Wd := ⟨w.α, w.S, H⟩
/-- what is wanted of an answer that is the data c -/
def Ans (K : PySem.W.Frag) (mg : Str → Option Value) (w : Wd) (c : D) (Q : VK) : Prop :=
  ∀ H v, Ext w (w.at H) → Rep K mg (w.at H) → Dv K (w.at H).F v c → Q v H
section
variable {K : PySem.W.Frag} {mg : Str → Option Value} {w : Wd} {c : D} {Q : VK}
theorem Ans.here (q : Ans K mg w c Q) (R : Rep K mg w) {v : V} (h : Dv K w.F v c) : Q v w.H := q w.H v (Ext.refl _) R h
theorem Ans.new (q : Ans K mg w c Q) (R : Rep K mg w) {p : Addr} (hp : w.H p = none) {o : HO} {v : V} (h : ∀ F, Same w.F F → F p = some o → Dv K F v c) : Q v (upd w.H p o) := by
  obtain ⟨r1, r2, r3⟩ := R.new hp o
  exact q _ v r2 r1 (h _ r2.same r3)
/-- a new list, a new tuple -/
theorem Ans.lst {ds : List D} (q : Ans K mg w (.list ds) Q) (R : Rep K mg w) {xs : List V} (h : DvAll K w.F xs ds) {p : Addr} (hp : w.H p = none) : Q (.ref p) (upd w.H p (.lst xs)) :=
  q.new R hp fun F e f => .lst (SqL.of f) (h.mono e)
theorem Ans.tup {ds : List D} (q : Ans K mg w (.tuple ds) Q) (R : Rep K mg w) {xs : List V} (h : DvAll K w.F xs ds) : kNewT xs w.H Q :=
  fun p ob hp hd => q.new R hp fun F e f => .tup (.inl ⟨ob, f, hd⟩) (h.mono e)
end
def r2D (K : PySem.W.Frag) (mg : Str → Option Value) (o : O2) : R2 := fun x y H Q =>
  ∃ w a b da db c, w.H = H ∧ Rep K mg w ∧ RV K w x a ∧ RV K w y b ∧ rd w.S a = some da ∧ rd w.S b = some db ∧ o da db = some c ∧ Ans K mg w c Q
section
variable {X : Cx} {f : Value → Value → Sem Value} {r r' : R2} {o : O2}
theorem OpR.imp (h : OpR X f r) (k : ∀ x y H Q, r' x y H Q → r x y H Q) : OpR X f r' := fun pins s σ H x y v u Q I rx ry q => h pins s σ H x y v u Q I rx ry (k x y H Q q)
theorem IxR.imp (h : IxR X r) (k : ∀ x y H Q, r' x y H Q → r x y H Q) : IxR X r' := fun value slice pins s σ H x y v u Q I rx ry q => h value slice pins s σ H x y v u Q I rx ry (k x y H Q q)
theorem CallR.imp {g : Value} {r r' : List V → Hp → VK → Prop} (h : CallR X g r) (k : ∀ xs H Q, r' xs H Q → r xs H Q) : CallR X g r' := fun pins s σ H xs us Q I rr q => h pins s σ H xs us Q I rr (k xs H Q q)
theorem MtR.imp {id : String} {r r' : V → List V → Hp → VK → Prop} (h : MtR X id r) (k : ∀ x xs H Q, r' x xs H Q → r x xs H Q) : MtR X id r' := fun pins s σ H x xs v us Q I rx rr q => h pins s σ H x xs v us Q I rx rr (k x xs H Q q)
theorem SlR.imp {r r' : V → Option Int → Option Int → Hp → VK → Prop} (h : SlR X r) (k : ∀ x lo hi H Q, r' x lo hi H Q → r x lo hi H Q) : SlR X r' := fun pins s σ H x v vl vu lo hi sl Q I rx hs pl pu q => h pins s σ H x v vl vu lo hi sl Q I rx hs pl pu (k x lo hi H Q q)

/-- a list, whatever holds it -/
theorem op_catL : OpR X (binaryOp .Add) (fun x y H Q => ∃ a b xs zs, x = .ref a ∧ y = .ref b ∧ SqL X.K H a xs ∧ SqL X.K H b zs ∧ xs.length + zs.length ≤ sizeLine ∧ ∀ p, H p = none → Q (.ref p) (upd H p (.lst (xs ++ zs)))) := by
  intro pins s σ H x y v u Q I rx ry h
  obtain ⟨a, b, xs, zs, rfl, rfl, hA, hB, hz, q⟩ := h
  cases rx
  cases ry
  obtain ⟨its, r, ⟨⟨cls, dd, data, sl⟩, n, e, hc, hd, ht⟩, _⟩ := I.list hA
  obtain ⟨its2, r2, ⟨⟨cls2, dd2, data2, sl2⟩, n2, e2, hc2, hd2, ht2⟩, _⟩ := I.list hB
  simp only at hc hd ht hc2 hd2 ht2
  subst hc hd ht hc2 hd2 ht2
  have l1 := r.length
  have l2 := r2.length
  have ea : its.toArray ++ its2.toArray = (its ++ its2).toArray := by simp
  refine concat_meets ⟨_, e, rfl⟩ ⟨_, e2, rfl⟩ noFill_list_add seq_list_add PySem.F.slot_list_add PySem.F.entry_list_add (PySem.F.args_list_add_2 _ _)
    (list_addW a b its.toArray its2.toArray n n2 none none sl sl2 (by simp; omega)) ⟨e, e2, ?_⟩
  rw [ea]
  exact ⟨.ref _, _, I.lnew (t' := s.toks) (r.append r2) (by rw [List.length_append]; omega), rfl, q _ I.fresh⟩

def oAdd : O2 := fun a b => match a, b with
  | .int i, .int j => some (.int (i + j))
  | .str x, .str y => if x.length + y.length ≤ 16777216 then some (.str (x ++ y)) else none
  | .list x, .list y => if x.length + y.length ≤ 16777216 then some (.list (x ++ y)) else none
  | .tuple x, .tuple y => if x.length + y.length ≤ 16777216 then some (.tuple (x ++ y)) else none
  | _, _ => none
theorem od_add : OpR X (binaryOp .Add) (r2D X.K X.mg oAdd) := by
  refine OpR.imp ((op_add (X := X)).or (op_add_str.or (op_catL.or op_catP))) fun x y H Q h => ?_
  obtain ⟨w, a, b, da, db, c, rfl, R, ra, rb, ea, eb, ec, q⟩ := h
  unfold oAdd at ec
  split at ec
  · cases ec
    cases R.int ra ea
    cases R.int rb eb
    exact .inl ⟨_, _, rfl, rfl, q.here R (.int _)⟩
  · split at ec
    · cases ec
      rename_i hz
      cases R.str ra ea
      cases R.str rb eb
      exact .inr (.inl ⟨_, _, rfl, rfl, by rw [sizeLine_eq]; exact hz, q.here R (.str _)⟩)
    · cases ec
  · split at ec
    · cases ec
      rename_i hz
      obtain ⟨p1, xs, rfl, h1, g1⟩ := R.list ra ea
      obtain ⟨p2, ys, rfl, h2, g2⟩ := R.list rb eb
      exact .inr (.inr (.inl ⟨_, _, _, _, rfl, rfl, h1, h2, by rw [sizeLine_eq, g1.length, g2.length]; exact hz, fun p hp => q.lst R (g1.append g2) hp⟩))
    · cases ec
  · split at ec
    · cases ec
      rename_i hz
      obtain ⟨p1, xs, rfl, h1, g1, d1⟩ := R.tuple ra ea
      obtain ⟨p2, ys, rfl, h2, g2, d2⟩ := R.tuple rb eb
      refine .inr (.inr (.inr ⟨_, _, _, _, rfl, rfl, h1, h2, by rw [sizeLine_eq, g1.length, g2.length]; exact hz, fun z => ?_, fun z1 z2 => ?_, fun z1 z2 => q.tup R (g1.append g2)⟩))
      · subst z
        cases g1
        exact q.here R d2
      · subst z2
        cases g2
        rw [List.append_nil] at q
        exact q.here R d1
    · cases ec
  · cases ec
def oSub : O2 := fun a b => match a, b with
  | .int i, .int j => some (.int (i - j))
  | _, _ => none
theorem od_sub : OpR X (binaryOp .Sub) (r2D X.K X.mg oSub) := by
  refine OpR.imp (op_sub (X := X)) fun x y H Q h => ?_
  obtain ⟨w, a, b, da, db, c, rfl, R, ra, rb, ea, eb, ec, q⟩ := h
  unfold oSub at ec
  split at ec
  · cases ec
    cases R.int ra ea
    cases R.int rb eb
    exact ⟨_, _, rfl, rfl, q.here R (.int _)⟩
  · cases ec
/-- small enough for a product -/
def lowI (i : Int) : Bool := decide (-(2 ^ 64) < i) && decide (i < 2 ^ 64)
def repD (n : Nat) (xs : List D) : List D := (List.replicate n xs).flatten
/-- a text over and over -/
def repS (x : Str) (n : Nat) : Str := ⟨(List.replicate n x.cps).foldl (· ++ ·) #[]⟩
theorem op_mulS : OpR X (binaryOp .Mult) (fun x y H Q => ∃ (a : Str) (j : Int), x = .str a ∧ y = .int j ∧ 2 ≤ j ∧ j ≤ 16777216 ∧ 1 ≤ a.length ∧ a.length * j.toNat ≤ 16777216 ∧ (repS a j.toNat).length ≤ 16777216 ∧ Q (.str (repS a j.toNat)) H) := by
  intro pins s σ H x y v u Q I rx ry h
  obtain ⟨a, j, rfl, rfl, h1, h2, h3, h4, h5, q⟩ := h
  obtain ⟨t, rfl⟩ := rx
  obtain ⟨t', rfl⟩ := ry
  have e1 : ¬ j < 1 := by omega
  have e2 : (j == 1 || a.length == 0) = false := by
    simp only [Bool.or_eq_false_iff, beq_eq_false_iff_ne]
    exact ⟨by omega, by omega⟩
  refine PySem.P.mul_str ?_ (fun _ _ => ?_) (fun _ _ => ?_) ?_
  · simp only [Bool.or_eq_false_iff, decide_eq_false_iff_not]
    exact ⟨by omega, by omega⟩
  · have hz : (a.length : Int) * j ≤ 16777216 := by
      have hj : j = (j.toNat : Int) := by omega
      rw [hj, ← Int.natCast_mul]
      exact Int.ofNat_le.mpr h4
    have : (a.length : Int) ≤ (2 ^ 63 - 1) / j := by
      rw [Int.le_ediv_iff_mul_le (by omega)]
      omega
    omega
  · refine decide_eq_false ?_
    rw [sizeLine_eq]
    omega
  · rw [if_neg e1, e2]
    refine ⟨?_, .str (repS a j.toNat), H, I.tok _, ⟨_, rfl⟩, q⟩
    rw [sizeLine_eq]
    exact h5
def oMul : O2 := fun a b => match a, b with
  | .int i, .int j => if lowI i || lowI j then some (.int (i * j)) else none
  | .str x, .int j => if 2 ≤ j ∧ j ≤ 16777216 ∧ 1 ≤ x.length ∧ x.length * j.toNat ≤ 16777216 ∧ (repS x j.toNat).length ≤ 16777216 then some (.str (repS x j.toNat)) else none
  | .tuple x, .int j => if 2 ≤ j ∧ j ≤ 1000 ∧ x.length ≤ 1000 ∧ 1 ≤ x.length then some (.tuple (repD j.toNat x)) else none
  | _, _ => none
theorem od_mul : OpR X (binaryOp .Mult) (r2D X.K X.mg oMul) := by
  refine OpR.imp ((op_mul (X := X)).or (op_repP.or op_mulS)) fun x y H Q h => ?_
  obtain ⟨w, a, b, da, db, c, rfl, R, ra, rb, ea, eb, ec, q⟩ := h
  unfold oMul at ec
  split at ec
  · split at ec
    · cases ec
      rename_i hz
      cases R.int ra ea
      cases R.int rb eb
      refine .inl ⟨_, _, rfl, rfl, ?_, q.here R (.int _)⟩
      unfold lowI at hz
      rcases Bool.or_eq_true_iff.mp hz with z | z
      · exact .inl ⟨of_decide_eq_true (Bool.and_eq_true_iff.mp z).1, of_decide_eq_true (Bool.and_eq_true_iff.mp z).2⟩
      · exact .inr ⟨of_decide_eq_true (Bool.and_eq_true_iff.mp z).1, of_decide_eq_true (Bool.and_eq_true_iff.mp z).2⟩
    · cases ec
  · split at ec
    · cases ec
      rename_i hz
      cases R.str ra ea
      cases R.int rb eb
      exact .inr (.inr ⟨_, _, rfl, rfl, hz.1, hz.2.1, hz.2.2.1, hz.2.2.2.1, hz.2.2.2.2, q.here R (.str _)⟩)
    · cases ec
  · split at ec
    · cases ec
      rename_i hz
      obtain ⟨p1, xs, rfl, h1, g1, d1⟩ := R.tuple ra ea
      cases R.int rb eb
      exact .inr (.inl ⟨_, _, _, rfl, rfl, h1, fun z => (by have z2 := g1.length; rw [z] at z2; have := hz.2.2.2; rw [← z2] at this; exact absurd this (by simp)), hz.1, hz.2.1, by rw [g1.length]; exact hz.2.2.1, q.tup R (g1.rep _)⟩)
    · cases ec
  · cases ec
def oDiv : O2 := fun a b => match a, b with
  | .int i, .int j => if j ≠ 0 ∧ j.natAbs < 1073741824 then some (.int (i.fdiv j)) else none
  | _, _ => none
theorem od_div : OpR X (binaryOp .FloorDiv) (r2D X.K X.mg oDiv) := by
  refine OpR.imp (op_fdivN (X := X)) fun x y H Q h => ?_
  obtain ⟨w, a, b, da, db, c, rfl, R, ra, rb, ea, eb, ec, q⟩ := h
  unfold oDiv at ec
  split at ec
  · split at ec
    · cases ec
      rename_i hz
      cases R.int ra ea
      cases R.int rb eb
      exact ⟨_, _, rfl, rfl, hz, q.here R (.int _)⟩
    · cases ec
  · cases ec
def oMod : O2 := fun a b => match a, b with
  | .int i, .int j => if j ≠ 0 then some (.int (i.fmod j)) else none
  | _, _ => none
theorem od_mod : OpR X (binaryOp .Mod) (r2D X.K X.mg oMod) := by
  refine OpR.imp (op_modN (X := X)) fun x y H Q h => ?_
  obtain ⟨w, a, b, da, db, c, rfl, R, ra, rb, ea, eb, ec, q⟩ := h
  unfold oMod at ec
  split at ec
  · split at ec
    · cases ec
      rename_i hz
      cases R.int ra ea
      cases R.int rb eb
      exact ⟨_, _, rfl, rfl, hz, q.here R (.int _)⟩
    · cases ec
  · cases ec
def oPow : O2 := fun a b => match a, b with
  | .int i, .int j => if 0 ≤ j ∧ j ≤ 1000000 ∧ i.natAbs < 2 ^ 64 then some (.int (i ^ j.toNat)) else none
  | _, _ => none
theorem od_pow : OpR X (binaryOp .Pow) (r2D X.K X.mg oPow) := by
  refine OpR.imp (op_pow (X := X)) fun x y H Q h => ?_
  obtain ⟨w, a, b, da, db, c, rfl, R, ra, rb, ea, eb, ec, q⟩ := h
  unfold oPow at ec
  split at ec
  · split at ec
    · cases ec
      rename_i hz
      cases R.int ra ea
      cases R.int rb eb
      exact ⟨_, _, rfl, rfl, hz, q.here R (.int _)⟩
    · cases ec
  · cases ec
end
end Zz
set_option maxRecDepth 100000
set_option maxHeartbeats 4000000
namespace Zz
open PySem PySem.Spec PyProof.Rows L2
/-! ### comparisons -/
def flatD : D → Bool
  | .none => true
  | .bool _ => true
  | .int _ => true
  | .str _ => true
  | _ => false
section
variable {K : PySem.W.Frag} {F : Hp}
mutual
theorem Dv.dp : ∀ {d : D} {v : V}, d.canLay0 = true → Dv K F v d → Dp K F v d
  | .none, _, _, h => by cases h; exact .non
  | .bool _, _, _, h => by cases h; exact .bl _
  | .int _, _, _, h => by cases h; exact .int _
  | .str _, _, _, h => by cases h; exact .str _
  | .list ds, _, q, h => by cases h with | lst h1 h2 => exact .lst h1 (DvAll.dp (by simpa [PyData.canLay0] using q) h2)
  | .tuple ds, _, q, h => by cases h with | tup h1 h2 => exact .tup h1.sq (DvAll.dp (by simpa [PyData.canLay0] using q) h2)
  | .dict _, _, q, _ => by simp [PyData.canLay0] at q
theorem DvAll.dp : ∀ {ds : List D} {vs : List V}, PyData.canLayAll0 ds = true → DvAll K F vs ds → DpAll K F vs ds
  | [], _, _, h => by cases h; exact .nil
  | d :: ds, _, q, h => by
    rw [PyData.canLayAll0, Bool.and_eq_true] at q
    cases h with | cons h1 h2 => exact .cons (Dv.dp q.1 h1) (DvAll.dp q.2 h2)
end
theorem Dv.flat {v : V} {d : D} (h : Dv K F v d) (f : flatD d = true) : flatV v = true := by cases h <;> first | rfl | cases f
theorem DvAll.flat : ∀ {vs : List V} {ds : List D}, DvAll K F vs ds → ds.all flatD = true → vs.all flatV = true
  | _, _, .nil, _ => rfl
  | _, _, .cons r t, f => by
    rw [List.all_cons, Bool.and_eq_true] at f
    rw [List.all_cons, r.flat f.1, DvAll.flat t f.2]
    rfl
theorem eqV_eqv {x y : V} {a b : D} (hx : Dv K F x a) (hy : Dv K F y b) (fa : flatD a = true) (fb : flatD b = true) : eqV x y = PyData.eqv a b := by
  cases hx <;> first | exact Bool.noConfusion fa | skip
  all_goals (cases hy <;> first | exact Bool.noConfusion fb | (simp [eqV, PyData.eqv]; done))
theorem inV_eqv {x : V} {a : D} (hx : Dv K F x a) (fa : flatD a = true) : ∀ {ys : List V} {bs : List D}, DvAll K F ys bs → bs.all flatD = true → inV x ys = bs.any fun b => PyData.eqv b a
  | _, _, .nil, _ => rfl
  | _, _, .cons r t, f => by
    rw [List.all_cons, Bool.and_eq_true] at f
    have ih := inV_eqv hx fa t f.2
    unfold inV at ih ⊢
    rw [List.any_cons, List.any_cons, eqV_eqv r hx f.1 fa, ih]
end
theorem toSh {d : D} (h : SeqAt.shaped d = true) : d.canLay0 = true := SeqAt.canLay_of_shaped h
/-- == , where it is told -/
def eqD (a b : D) : Option Bool := if flatD a && flatD b then some (PyData.eqv a b) else if SeqAt.shaped a && SeqAt.shaped b then some (PyData.eqv a b) else none
def oEq : O2 := fun a b => (eqD a b).map .bool
def oNe : O2 := fun a b => (eqD a b).map fun k => .bool (!k)
section
variable {X : Cx}
theorem flat_eq {K : PySem.W.Frag} {F : Hp} {x y : V} {a b : D} (hx : Dv K F x a) (hy : Dv K F y b) (fa : flatD a = true) (fb : flatD b = true) :
    (scal x y = true ∧ decide (x = y) = PyData.eqv a b) ∨ (SeqAt.shaped a = true ∧ SeqAt.shaped b = true) := by
  cases hx <;> first | exact Bool.noConfusion fa | skip
  all_goals (cases hy <;> first | exact Bool.noConfusion fb | skip)
  all_goals first
    | (refine .inl ⟨rfl, ?_⟩; simp [PyData.eqv]; done)
    | (refine .inl ⟨rfl, ?_⟩; rw [dec_str]; simp [PyData.eqv]; done)
    | (refine .inl ⟨rfl, ?_⟩; rw [dec_int]; simp [PyData.eqv]; done)
    | (refine .inl ⟨rfl, ?_⟩; rw [dec_bl]; simp [PyData.eqv]; done)
    | exact .inr ⟨by decide, by decide⟩
    | exact .inr ⟨by simp [SeqAt.shaped, PyData.canLay0, PyData.depth], by simp [SeqAt.shaped, PyData.canLay0, PyData.depth]⟩
theorem od_eq (hu : X.A.units + 64 < cLine) : OpR X (compareOp .Eq) (r2D X.K X.mg oEq) := by
  refine OpR.imp ((op_eq (X := X)).or (op_eqD hu)) fun x y H Q h => ?_
  obtain ⟨w, a, b, da, db, c, rfl, R, ra, rb, ea, eb, ec, q⟩ := h
  unfold oEq eqD at ec
  split at ec
  · rename_i hf
    obtain ⟨fa, fb⟩ := Bool.and_eq_true_iff.mp hf
    cases ec
    have h1 := R.any ra ea
    have h2 := R.any rb eb
    rcases flat_eq h1 h2 fa fb with ⟨z1, z2⟩ | ⟨z1, z2⟩
    · exact .inl ⟨z1, by rw [z2]; exact q.here R (.bl _)⟩
    · exact .inr ⟨da, db, h1.dp (toSh z1), h2.dp (toSh z2), z1, z2, q.here R (.bl _)⟩
  · split at ec
    · rename_i hf
      obtain ⟨fa, fb⟩ := Bool.and_eq_true_iff.mp hf
      cases ec
      exact .inr ⟨da, db, (R.any ra ea).dp (toSh fa), (R.any rb eb).dp (toSh fb), fa, fb, q.here R (.bl _)⟩
    · cases ec
theorem od_ne (hu : X.A.units + 64 < cLine) : OpR X (compareOp .NotEq) (r2D X.K X.mg oNe) := by
  refine OpR.imp ((op_ne (X := X)).or (op_neD hu)) fun x y H Q h => ?_
  obtain ⟨w, a, b, da, db, c, rfl, R, ra, rb, ea, eb, ec, q⟩ := h
  unfold oNe eqD at ec
  split at ec
  · rename_i hf
    obtain ⟨fa, fb⟩ := Bool.and_eq_true_iff.mp hf
    cases ec
    have h1 := R.any ra ea
    have h2 := R.any rb eb
    rcases flat_eq h1 h2 fa fb with ⟨z1, z2⟩ | ⟨z1, z2⟩
    · exact .inl ⟨z1, by rw [z2]; exact q.here R (.bl _)⟩
    · exact .inr ⟨da, db, h1.dp (toSh z1), h2.dp (toSh z2), z1, z2, q.here R (.bl _)⟩
  · split at ec
    · rename_i hf
      obtain ⟨fa, fb⟩ := Bool.and_eq_true_iff.mp hf
      cases ec
      exact .inr ⟨da, db, (R.any ra ea).dp (toSh fa), (R.any rb eb).dp (toSh fb), fa, fb, q.here R (.bl _)⟩
    · cases ec
def oCmp (p : Int → Int → Bool) : O2 := fun a b => match a, b with
  | .int i, .int j => some (.bool (p i j))
  | _, _ => none
theorem od_cmp {op : CmpOp} {p : Int → Int → Bool} (h : OpR X (compareOp op) (rI0 fun i j => .bl (p i j))) : OpR X (compareOp op) (r2D X.K X.mg (oCmp p)) := by
  refine OpR.imp h fun x y H Q h => ?_
  obtain ⟨w, a, b, da, db, c, rfl, R, ra, rb, ea, eb, ec, q⟩ := h
  unfold oCmp at ec
  split at ec
  · cases ec
    cases R.int ra ea
    cases R.int rb eb
    exact ⟨_, _, rfl, rfl, q.here R (.bl _)⟩
  · cases ec
abbrev oLt : O2 := oCmp fun i j => decide (i < j)
abbrev oLe : O2 := oCmp fun i j => decide (i ≤ j)
abbrev oGt : O2 := oCmp fun i j => decide (j < i)
abbrev oGe : O2 := oCmp fun i j => decide (j ≤ i)
theorem od_lt : OpR X (compareOp .Lt) (r2D X.K X.mg oLt) := od_cmp op_lt
theorem od_le : OpR X (compareOp .LtE) (r2D X.K X.mg oLe) := od_cmp op_le
theorem od_gt : OpR X (compareOp .Gt) (r2D X.K X.mg oGt) := od_cmp op_gt
theorem od_ge : OpR X (compareOp .GtE) (r2D X.K X.mg oGe) := od_cmp op_ge
/-- is None, is not None -/
def isNon : D → Bool
  | .none => true
  | _ => false
def oIsN : O2 := fun a b => match b with
  | .none => some (.bool (isNon a))
  | _ => none
def oNotN : O2 := fun a b => match b with
  | .none => some (.bool (!isNon a))
  | _ => none
theorem dv_non {K : PySem.W.Frag} {F : Hp} {v : V} {d : D} (h : Dv K F v d) : decide (v = V.non) = isNon d := by
  cases h <;> simp [isNon]
theorem od_isN : OpR X (compareOp .Is) (r2D X.K X.mg oIsN) := by
  refine OpR.imp (op_isN (X := X)) fun x y H Q h => ?_
  obtain ⟨w, a, b, da, db, c, rfl, R, ra, rb, ea, eb, ec, q⟩ := h
  unfold oIsN at ec
  split at ec
  · cases ec
    refine ⟨R.none rb eb, ?_⟩
    rw [dv_non (R.any ra ea)]
    exact q.here R (.bl _)
  · cases ec
theorem od_notN : OpR X (compareOp .IsNot) (r2D X.K X.mg oNotN) := by
  refine OpR.imp (op_notN (X := X)) fun x y H Q h => ?_
  obtain ⟨w, a, b, da, db, c, rfl, R, ra, rb, ea, eb, ec, q⟩ := h
  unfold oNotN at ec
  split at ec
  · cases ec
    refine ⟨R.none rb eb, ?_⟩
    rw [dv_non (R.any ra ea)]
    exact q.here R (.bl _)
  · cases ec
/-! ### in -/
def toKey : D → Option Key
  | .int i => some (.inl i)
  | .str x => some (.inr x)
  | _ => none
def getD' (kds : List (D × D)) (k : Key) : Option D := (kds.find? fun p => decide (toKey p.1 = some k)).map (·.2)
theorem DvKV.val {K : PySem.W.Frag} {F : Hp} (k : Key) : ∀ {ks : List (Key × V)} {kds : List (D × D)}, DvKV K F ks kds →
    (∃ v d, valV ks k = some v ∧ getD' kds k = some d ∧ Dv K F v d) ∨ (valV ks k = none ∧ getD' kds k = none)
  | _, _, .nil => .inr ⟨rfl, rfl⟩
  | _, _, .cons (k := j) (v := v) (d := d) (s := s) (r := rr) r t => by
    have tk : toKey (keyD j) = some j := by cases j <;> rfl
    by_cases e : j = k
    · refine .inl ⟨v, d, ?_, ?_, r⟩
      · exact valV_pos e
      · unfold getD'
        rw [List.find?_cons_of_pos (by rw [tk, e]; simp)]
        rfl
    · have h1 : valV ((j, v) :: rr) k = valV rr k := valV_neg (κ := Key) (p := (j, v)) e
      have h2 : getD' ((keyD j, d) :: s) k = getD' s k := by
        unfold getD'
        rw [List.find?_cons_of_neg (by rw [tk]; simpa using e)]
      rw [h1, h2]
      exact DvKV.val k t
theorem dv_key {K : PySem.W.Frag} {F : Hp} {v : V} {d : D} {k : Key} (h : Dv K F v d) (e : toKey d = some k) : v = kV k := by
  cases h <;> first | cases e | skip
  all_goals rfl
theorem op_dIn (hu : X.A.units + 1 < cLine) : OpR X (compareOp .In) (fun x y H Q => ∃ a o, y = .ref a ∧ DGet H a x o ∧ Q (.bl o.isSome) H) := by
  intro pins s σ H x y v u Q I rx ry h
  obtain ⟨a, o, rfl, g, q⟩ := h
  cases ry
  exact d_in hu I g rx fun s' I' => ⟨.bl _, H, I', rfl, q⟩
theorem op_dNotIn (hu : X.A.units + 1 < cLine) : OpR X (compareOp .NotIn) (fun x y H Q => ∃ a o, y = .ref a ∧ DGet H a x o ∧ Q (.bl (!o.isSome)) H) := by
  intro pins s σ H x y v u Q I rx ry h
  obtain ⟨a, o, rfl, g, q⟩ := h
  cases ry
  exact d_notIn hu I g rx fun s' I' => ⟨.bl _, H, I', rfl, q⟩
/-- a text in a text -/
def strIn (x z : Str) : Bool := match x.cps.toList with
  | [c] => decide (c ∈ z.cps.toList)
  | _ => !(Builtin.Str.occurrences z x 0 z.length 1).isEmpty
theorem strIn_eq (x z : Str) : strIn x z = !(Builtin.Str.occurrences z x 0 z.length 1).isEmpty := by
  unfold strIn
  split
  · rename_i c e
    have ex : x = ⟨#[c]⟩ := by
      obtain ⟨xs⟩ := x
      obtain ⟨l⟩ := xs
      simp only at e
      subst e; rfl
    rw [ex]
    exact (PySem.StrLaws.found_one z c).symm
  · rfl
def inD (a b : D) : Option Bool := match b with
  | .str z => match a with
    | .str x => some (strIn x z)
    | _ => none
  | .list bs => if flatD a && bs.all flatD then some (bs.any fun b => PyData.eqv b a) else if SeqAt.shaped a && SeqAt.shaped (.list bs) then some (bs.any fun b => PyData.eqv b a) else none
  | .tuple bs => if flatD a && bs.all flatD then some (bs.any fun b => PyData.eqv b a) else none
  | .dict kds => (toKey a).map fun k => (getD' kds k).isSome
  | _ => none
def oIn : O2 := fun a b => (inD a b).map .bool
def oNotIn : O2 := fun a b => (inD a b).map fun k => .bool (!k)
theorem od_in (hu : X.A.units + 65 < cLine) : OpR X (compareOp .In) (r2D X.K X.mg oIn) := by
  refine OpR.imp ((op_in_str (X := X)).or ((op_in_seq (X := X)).or ((op_inD hu).or (op_dIn (by omega))))) fun x y H Q h => ?_
  obtain ⟨w, a, b, da, db, c, rfl, R, ra, rb, ea, eb, ec, q⟩ := h
  unfold oIn inD at ec
  have h1 := R.any ra ea
  split at ec
  · split at ec
    · cases ec
      cases R.str ra ea
      cases R.str rb eb
      exact .inl ⟨_, _, rfl, rfl, by rw [← strIn_eq]; exact q.here R (.bl _)⟩
    · cases ec
  · split at ec
    · rename_i bs hf
      obtain ⟨fa, fb⟩ := Bool.and_eq_true_iff.mp hf
      cases ec
      obtain ⟨p, xs, rfl, g1, g2⟩ := R.list rb eb
      refine .inr (.inl ⟨p, xs, rfl, .inl g1, h1.flat fa, g2.flat fb, ?_⟩)
      rw [if_neg Bool.false_ne_true, inV_eqv h1 fa (g2.mono w.F_same) fb]
      exact q.here R (.bl _)
    · split at ec
      · rename_i bs hn hf
        obtain ⟨fa, fb⟩ := Bool.and_eq_true_iff.mp hf
        cases ec
        exact .inr (.inr (.inl ⟨da, bs, h1.dp (toSh fa), (R.any rb eb).dp (toSh fb), fa, fb, q.here R (.bl _)⟩))
      · cases ec
  · split at ec
    · rename_i bs hf
      obtain ⟨fa, fb⟩ := Bool.and_eq_true_iff.mp hf
      cases ec
      obtain ⟨p, xs, rfl, g1, g2, _⟩ := R.tuple rb eb
      refine .inr (.inl ⟨p, xs, rfl, .inr g1, h1.flat fa, g2.flat fb, ?_⟩)
      rw [if_neg Bool.false_ne_true, inV_eqv h1 fa (g2.mono w.F_same) fb]
      exact q.here R (.bl _)
    · cases ec
  · rename_i kds
    cases hk : toKey da with
    | none => rw [hk] at ec; cases ec
    | some k =>
      rw [hk] at ec
      cases ec
      obtain ⟨p, ks, rfl, g1, g2⟩ := R.dict rb eb
      have ex := dv_key h1 hk
      subst ex
      refine .inr (.inr (.inr ⟨p, _, rfl, DGet.k g1, ?_⟩))
      rcases g2.val k with ⟨v, d, e1, e2, _⟩ | ⟨e1, e2⟩
      · rw [e1]; dsimp only at q; rw [e2] at q; exact q.here R (.bl _)
      · rw [e1]; dsimp only at q; rw [e2] at q; exact q.here R (.bl _)
  · cases ec
theorem od_notIn (hu : X.A.units + 65 < cLine) : OpR X (compareOp .NotIn) (r2D X.K X.mg oNotIn) := by
  refine OpR.imp ((op_notin_str (X := X)).or ((op_notIn_seq (X := X)).or ((op_notInD hu).or (op_dNotIn (by omega))))) fun x y H Q h => ?_
  obtain ⟨w, a, b, da, db, c, rfl, R, ra, rb, ea, eb, ec, q⟩ := h
  unfold oNotIn inD at ec
  have h1 := R.any ra ea
  split at ec
  · split at ec
    · cases ec
      cases R.str ra ea
      cases R.str rb eb
      exact .inl ⟨_, _, rfl, rfl, by rw [← strIn_eq]; exact q.here R (.bl _)⟩
    · cases ec
  · split at ec
    · rename_i bs hf
      obtain ⟨fa, fb⟩ := Bool.and_eq_true_iff.mp hf
      cases ec
      obtain ⟨p, xs, rfl, g1, g2⟩ := R.list rb eb
      refine .inr (.inl ⟨p, xs, rfl, .inl g1, h1.flat fa, g2.flat fb, ?_⟩)
      rw [if_pos rfl, inV_eqv h1 fa (g2.mono w.F_same) fb]
      exact q.here R (.bl _)
    · split at ec
      · rename_i bs hn hf
        obtain ⟨fa, fb⟩ := Bool.and_eq_true_iff.mp hf
        cases ec
        exact .inr (.inr (.inl ⟨da, bs, h1.dp (toSh fa), (R.any rb eb).dp (toSh fb), fa, fb, q.here R (.bl _)⟩))
      · cases ec
  · split at ec
    · rename_i bs hf
      obtain ⟨fa, fb⟩ := Bool.and_eq_true_iff.mp hf
      cases ec
      obtain ⟨p, xs, rfl, g1, g2, _⟩ := R.tuple rb eb
      refine .inr (.inl ⟨p, xs, rfl, .inr g1, h1.flat fa, g2.flat fb, ?_⟩)
      rw [if_pos rfl, inV_eqv h1 fa (g2.mono w.F_same) fb]
      exact q.here R (.bl _)
    · cases ec
  · rename_i kds
    cases hk : toKey da with
    | none => rw [hk] at ec; cases ec
    | some k =>
      rw [hk] at ec
      cases ec
      obtain ⟨p, ks, rfl, g1, g2⟩ := R.dict rb eb
      have ex := dv_key h1 hk
      subst ex
      refine .inr (.inr (.inr ⟨p, _, rfl, DGet.k g1, ?_⟩))
      rcases g2.val k with ⟨v, d, e1, e2, _⟩ | ⟨e1, e2⟩
      · rw [e1]; dsimp only at q; rw [e2] at q; exact q.here R (.bl _)
      · rw [e1]; dsimp only at q; rw [e2] at q; exact q.here R (.bl _)
  · cases ec
end
end Zz
set_option maxRecDepth 100000
set_option maxHeartbeats 4000000
namespace Zz
open PySem PySem.Spec PyProof.Rows L2

/-- what every body's context bears: nothing handled, room for n calls, no repr running, unlike names -/
structure CxOk (X : Cx) (n : Nat) : Prop where
  hc : X.calm = true
  hr : Room n X.A
  hG : X.A.guards = some []
  hN : X.N.Nodup
theorem CxOk.blk {X : Cx} {n : Nat} (h : CxOk X n) {s : Shared} {H : Hp} {sc : Scope} {ce : Env} {fp : List Addr} : CxOk (X.blk s H sc ce fp) n := ⟨h.hc, h.hr, h.hG, h.hN⟩
theorem CxOk.tr {X : Cx} {n : Nat} (h : CxOk X n) {pn : List (Addr × Obj)} {xe : Value → Shared → Prop} : CxOk (X.tr pn xe) n := ⟨h.hc, h.hr, h.hG, h.hN⟩
theorem CxOk.mono {X : Cx} {n m : Nat} (h : CxOk X n) (q : m ≤ n) : CxOk X m := ⟨h.hc, h.hr.mono q, h.hG, h.hN⟩
theorem CxOk.u65 {X : Cx} {n : Nat} (h : CxOk X n) : X.A.units + 65 < cLine := by have := h.hr.un; omega
theorem CxOk.u64 {X : Cx} {n : Nat} (h : CxOk X n) : X.A.units + 64 < cLine := h.hr.units
theorem CxOk.u1 {X : Cx} {n : Nat} (h : CxOk X n) : X.A.units + 1 < cLine := hu_of h.hr

/-- a def's function: of its arguments -/
abbrev Fn := List Val → M Val
/-- a def at f keeps the promise sp, called where no repr is running -/
structure FnG (P : Program) (w : World) (K : PySem.W.Frag) (mg : Str → Option Value) (base : Heap) (k : Nat) (f : Addr) (fd : FuncData) (ps : List Str) (F : Fn) : Prop where
  run : ∀ (A : Around) (outer : List Env) (s : Shared) (H : Hp) (args : Args) (us : List Value) (vs : List V) (Q : VK) (E : XK), A.guards = some [] → Room k A → Env0 P w K mg base A outer s H → BindsTo s fd args (ps.zip us) → Vals vs us →
    vs.length = ps.length → (∃ α S as, Rep K mg ⟨α, S, H⟩ ∧ RVs K ⟨α, S, H⟩ vs as ∧ After K mg (RV K) ⟨α, S, H⟩ (F as S) Q E) → codeAny (model P w) A (.call (.ref f) args) (CR (L2.CX P w) outer P w H s Q E) s
theorem FnG.mono {P : Program} {w : World} {K : PySem.W.Frag} {mg : Str → Option Value} {base : Heap} {j k : Nat} {f : Addr} {fd : FuncData} {ps : List Str} {F : Fn} (h : FnG P w K mg base j f fd ps F) (q : j ≤ k) : FnG P w K mg base k f fd ps F :=
  ⟨fun A outer s H args us vs Q E hg hr => h.run A outer s H args us vs Q E hg (hr.mono q)⟩
section
variable {X : Cx} {k n : Nat} {f : Addr} {fd : FuncData} {ps ks : List Str} {F : Fn} {W : WX} {x : Str} {p pos : Pos} {e : Expr} {es : List Expr} {g : Env' → M (List Val)}
/-- the callee runs, whatever its arguments' form -/
theorem runG {pins : List (Addr × Obj)} {σ : L2.St} {H : Hp} {s : Shared} {Q : VK} {us : List Value} {vs : List V} {args : Args} (G : FnG X.prog X.w X.K X.mg X.base k f fd ps F) (C : CxOk X k) (tk : Takes X W) (I : Inv X pins σ H s) (r : Vals vs us)
    (hb : BindsTo s fd args (ps.zip us)) (hl : vs.length = ps.length) (h : ∃ α S as, Rep X.K X.mg ⟨α, S, H⟩ ∧ RVs X.K ⟨α, S, H⟩ vs as ∧ After X.K X.mg (RV X.K) ⟨α, S, H⟩ (F as S) Q (fun c d H' => W c d σ H')) :
    codeAny (model X.prog X.w) X.A (.call (.ref f) args) (wants (fun v s' => EP X pins σ Q v s') X.xe) s := by
  refine codeAny_mono (G.run X.A X.stack s H args us vs Q _ C.hG C.hr I.env0 hb r hl h) fun r s' hq => ?_
  cases r with
  | error e => exact tk e s' (XE.of_call I (fun _ _ _ h => h) hq)
  | ok fl =>
    cases fl with
    | ret u => exact I.after hq
    | next => exact False.elim hq
    | brk => exact False.elim hq
    | cont => exact False.elim hq
end
/-- f of the arguments g, with the cells that f made itself forgotten -/
def dCall (F : Fn) (g : Env' → M (List Val)) : Env' → M Val := fun ρ => (g ρ).bind F
section
variable {X : Cx} {k n : Nat} {f : Addr} {fd : FuncData} {ps ks : List Str} {F : Fn} {W : WX} {x : Str} {p pos : Pos} {e : Expr} {es : List Expr} {g : Env' → M (List Val)}
theorem callQ {g : Env' → M (List Val)} {σ : L2.St} {H : Hp} {Q : VK} (hl : ∀ vs H', (∃ α S as, Rep X.K X.mg ⟨α, S, H'⟩ ∧ RVs X.K ⟨α, S, H'⟩ vs as ∧ After X.K X.mg (RV X.K) ⟨α, S, H'⟩ (F as S) Q (fun c d H' => W c d σ H')) → vs.length = ps.length)
    (h : tD X.K X.mg W (dCall F g) σ H Q) : tDs X.K X.mg W g σ H (fun vs H' => vs.length = ps.length ∧ ∃ α S as, Rep X.K X.mg ⟨α, S, H'⟩ ∧ RVs X.K ⟨α, S, H'⟩ vs as ∧ After X.K X.mg (RV X.K) ⟨α, S, H'⟩ (F as S) Q (fun c d H' => W c d σ H')) := by
  obtain ⟨α, S, ρ, R, RE, q⟩ := h
  refine ⟨α, S, ρ, R, RE, After.imp (After.split (rel := RVs X.K) q) (fun vs H' ⟨α', S', as, e1, e2, e3, e4⟩ => ?_) fun _ _ _ z => z⟩
  have z : ∃ α S as, Rep X.K X.mg ⟨α, S, H'⟩ ∧ RVs X.K ⟨α, S, H'⟩ vs as ∧ After X.K X.mg (RV X.K) ⟨α, S, H'⟩ (F as S) Q (fun c d H' => W c d σ H') := ⟨α', S', as, e2, e3, e4⟩
  exact ⟨hl vs H' z, z⟩
/-- F is stuck unless it gets n arguments -/
def Arity (n : Nat) (F : Fn) : Prop := ∀ as S, as.length ≠ n → F as S = .st
theorem arityQ (hF : Arity ps.length F) {σ : L2.St} {Q : VK} (vs : List V) (H' : Hp) (h : ∃ α S as, Rep X.K X.mg ⟨α, S, H'⟩ ∧ RVs X.K ⟨α, S, H'⟩ vs as ∧ After X.K X.mg (RV X.K) ⟨α, S, H'⟩ (F as S) Q (fun c d H' => W c d σ H')) : vs.length = ps.length := by
  obtain ⟨α, S, as, R, r, q⟩ := h
  by_cases e : as.length = ps.length
  · rw [r.length]; exact e
  · rw [hF as S e] at q; exact False.elim q
theorem ed_call (G : FnG X.prog X.w X.K X.mg X.base k f fd ps F) (hF : Arity ps.length F) (C : CxOk X n) (hk : k ≤ n) (tk : Takes X W) (hm : X.mg x = some (.ref f)) (kp : PySem.W.keepIn X.K (.ref f) = true) (hb : Binds X.K fd ps [])
    (ha : AD X W (e :: es) g) (hg : Gl X x := by rfl) (hdb : (x == ("__debug__" : Str)) = false := by decide) (he : starEach (e :: es) X.env = (false, eval e X.env) :: starEach es X.env := by rfl) (hpl : (backTo pos (starEach es X.env)).any (·.1) = false := by rfl) :
    ED X W (.Call (.Name x p) (e :: es) [] pos) (dCall F g) := by
  refine ⟨fun pins s σ H Q I h => wpAny_Call_Name_kw (ld_glob I hg hm ?_ hdb)⟩
  refine PySem.W.callWith_K (h₀ := X.base) I.ok.mod.kin kp (thn (ha.run pos pins s σ H _ I (callQ (arityQ hF) h)) fun us s1 ⟨vs, H1, I1, r, hl, q⟩ => ⟨I1.kIn, ?_⟩) he hpl
  have b := hb s1 us I1.kIn (by rw [List.append_nil, ← r.length]; exact hl)
  rw [List.append_nil] at b
  exact wpAny_call (runG G (C.mono hk) tk I1 r b hl q)
theorem ed_call0 (G : FnG X.prog X.w X.K X.mg X.base k f fd ps F) (hF : Arity ps.length F) (C : CxOk X n) (hk : k ≤ n) (tk : Takes X W) (hm : X.mg x = some (.ref f)) (kp : PySem.W.keepIn X.K (.ref f) = true) (hb : Binds X.K fd ps [])
    (hg : Gl X x := by rfl) (hdb : (x == ("__debug__" : Str)) = false := by decide) : ED X W (.Call (.Name x p) [] [] pos) (dCall F fun _ => M.ret []) := by
  refine ⟨fun pins s σ H Q I h => wpAny_Call_Name_kw (ld_glob I hg hm ?_ hdb)⟩
  obtain ⟨α, S, ρ, R, RE, q⟩ := h
  have q' : After X.K X.mg (RV X.K) ⟨α, S, H⟩ (F [] S) Q (fun c d H' => W c d σ H') := q
  have z : ∃ α S as, Rep X.K X.mg ⟨α, S, H⟩ ∧ RVs X.K ⟨α, S, H⟩ ([] : List V) as ∧ After X.K X.mg (RV X.K) ⟨α, S, H⟩ (F as S) Q (fun c d H' => W c d σ H') := ⟨α, S, [], R, .nil, q'⟩
  have hl := arityQ (X := X) (W := W) hF [] H z
  have b := hb s [] I.kIn (by rw [List.append_nil]; exact hl)
  rw [List.append_nil] at b
  exact PySem.W.callWith_K0 I.kIn kp (wpAny_call (runG G (C.mono hk) tk I .nil b hl z))
/-- how keywords alone bind: in the parameters' order by g -/
def KBind (fd : FuncData) (ps ks : List Str) (g : {T : Type} → List T → List T) : Prop := ∀ (s : Shared) (ws : List Value), ws.length = ks.length → BindsTo s fd ⟨[], ks.zip ws⟩ (ps.zip (g ws))
def dArgs (g : {T : Type} → List T → List T) (f : Env' → M (List Val)) : Env' → M (List Val) := fun ρ => (f ρ).bind fun xs => M.ret (g xs)
/-- keywords -/
abbrev KD (X : Cx) (W : WX) (kws : List Keyword) (f : Env' → M (List Val)) : Prop := PK X kws (tDs X.K X.mg W f)
/-- f(k = v, ..) -/
theorem ed_callK (perm : {T : Type} → List T → List T) (hp : ∀ {T U : Type} {r : T → U → Prop} {a : List T} {b : List U}, Paired r a b → Paired r (perm a) (perm b)) (hpl' : ∀ {T : Type} (a : List T), a.length = ks.length → (perm a).length = ps.length) (hn : ks.length = ps.length)
    (hperm : ∀ {T : Type} (a : List T), (perm a).length = ps.length → a.length = ks.length)
    (G : FnG X.prog X.w X.K X.mg X.base k f fd ps F) (hF : Arity ps.length F) (C : CxOk X n) (hk : k ≤ n) (tk : Takes X W) (hm : X.mg x = some (.ref f)) (kp : PySem.W.keepIn X.K (.ref f) = true) (hb : KBind fd ps ks perm) {kws : List Keyword}
    (ha : KD X W kws g) (hall : (backToKw pos (keywordEach kws X.env)).all (·.1.isSome) = true := by rfl) (hks : (backToKw pos (keywordEach kws X.env)).filterMap (·.1) = ks := by rfl)
    (hg : Gl X x := by rfl) (hdb : (x == ("__debug__" : Str)) = false := by decide) (hpl : ((backTo pos (starEach [] X.env)).any (·.1) || (backToKw pos (keywordEach kws X.env)).any (·.1.isNone)) = false := by rfl) :
    ED X W (.Call (.Name x p) [] kws pos) (dCall F (dArgs perm g)) := by
  refine ⟨fun pins s σ H Q I h => wpAny_Call_Name_kw (ld_glob I hg hm ?_ hdb)⟩
  have h2 : tDs X.K X.mg W g σ H (fun vs H' => vs.length = ks.length ∧ ∃ α S as, Rep X.K X.mg ⟨α, S, H'⟩ ∧ RVs X.K ⟨α, S, H'⟩ (perm vs) as ∧ After X.K X.mg (RV X.K) ⟨α, S, H'⟩ (F as S) Q (fun c d H' => W c d σ H')) := by
    obtain ⟨α, S, ρ, R, RE, q⟩ := h
    have q2 : After X.K X.mg (RV X.K) ⟨α, S, H⟩ ((g ρ S).bind fun xs => F (perm xs)) Q (fun c d H' => W c d σ H') := by
      have e : dCall F (dArgs perm g) ρ S = (g ρ S).bind fun xs => F (perm xs) := by
        show ((g ρ S).bind fun xs => M.ret (perm xs)).bind F = _
        cases g ρ S <;> rfl
      rw [← e]; exact q
    refine ⟨α, S, ρ, R, RE, After.imp (After.split (rel := RVs X.K) q2) (fun vs H' ⟨α', S', as, e1, e2, e3, e4⟩ => ?_) fun _ _ _ z => z⟩
    have e3' : RVs X.K ⟨α', S', H'⟩ (perm vs) (perm as) := hp e3
    have z : ∃ α S as, Rep X.K X.mg ⟨α, S, H'⟩ ∧ RVs X.K ⟨α, S, H'⟩ (perm vs) as ∧ After X.K X.mg (RV X.K) ⟨α, S, H'⟩ (F as S) Q (fun c d H' => W c d σ H') := ⟨α', S', perm as, e2, e3', e4⟩
    exact ⟨hperm vs (arityQ hF _ H' z), z⟩
  refine PySem.W.callWith_KW0 (h₀ := X.base) I.ok.mod.kin kp hall (thn (ha.run pos pins s σ H _ I h2) fun us s1 ⟨vs, H1, I1, r, hl, q⟩ => ⟨I1.kIn, ?_⟩) hpl
  rw [hks]
  have r2 : Vals (perm vs) (perm us) := hp r
  have b := hb s1 us (by rw [← r.length]; exact hl)
  exact wpAny_call (runG G (C.mono hk) tk I1 r2 b (hpl' vs hl) q)
/-! ### argument lists -/
def dNil : Env' → M (List Val) := fun _ => M.ret []
def dCons (f : Env' → M Val) (g : Env' → M (List Val)) : Env' → M (List Val) := fun ρ => (f ρ).bind fun x => (g ρ).bind fun xs => M.ret (x :: xs)
theorem ad_nil : AD X W [] dNil := PA.imp pa_nil fun σ H Q ⟨α, S, ρ, R, RE, q⟩ => q α H [] (Ext.refl _) R .nil
theorem consQ {f : Env' → M Val} {g : Env' → M (List Val)} {σ : L2.St} {H : Hp} {Q : List V → Hp → Prop} (h : tDs X.K X.mg W (dCons f g) σ H Q) : tCons (tD X.K X.mg W f) (tDs X.K X.mg W g) σ H Q := by
  obtain ⟨α, S, ρ, R, RE, q⟩ := h
  refine ⟨α, S, ρ, R, RE, After.imp (After.split (rel := RV X.K) q) (fun v H1 ⟨α1, S1, x, e1, R1, r1, q1⟩ => ?_) fun _ _ _ z => z⟩
  refine ⟨α1, S1, ρ, R1, RE.mono e1, After.imp (After.split (rel := RVs X.K) q1) (fun vs H2 ⟨α2, S2, xs, e2, R2, r2, q2⟩ => ?_) fun _ _ _ z => z⟩
  exact q2 α2 H2 (v :: vs) (Ext.refl _) R2 (.cons (r1.mono e2) r2)
theorem ad_cons {f : Env' → M Val} {g : Env' → M (List Val)} (ha : ED X W e f) (hr : AD X W es g) (hs : starEach (e :: es) X.env = (false, eval e X.env) :: starEach es X.env := by rfl) : AD X W (e :: es) (dCons f g) :=
  PA.imp (pa_cons ha hr hs) fun σ H Q h => consQ h
theorem kd_nil : KD X W [] dNil := ⟨fun pos pins s σ H Q I ⟨α, S, ρ, R, RE, q⟩ => pk_nil.run pos pins s σ H Q I (q α H [] (Ext.refl _) R .nil)⟩
theorem kd_cons {nm : Option Str} {kpos : Pos} {kws : List Keyword} {f : Env' → M Val} {g : Env' → M (List Val)} (ha : ED X W e f) (hr : KD X W kws g) : KD X W (⟨nm, e, kpos⟩ :: kws) (dCons f g) :=
  ⟨fun pos pins s σ H Q I h => (pk_cons ha hr).run pos pins s σ H Q I (consQ h)⟩
end
end Zz
set_option maxRecDepth 100000
set_option maxHeartbeats 4000000
namespace Zz
open PySem PySem.Spec PyProof.Rows L2

/-! ### statements -/
inductive SRes where
  | st
  | nx (ρ : Env') (S : List Cell)
  | rt (v : Val) (S : List Cell)
  | bk (ρ : Env') (S : List Cell)
  | ct (ρ : Env') (S : List Cell)
  | ex (x : Ex) (ρ : Env') (S : List Cell)
abbrev SD := Env' → List Cell → SRes
def AfterS (K : PySem.W.Frag) (mg : Str → Option Value) (w : Wd) (r : SRes) (D : Ends) (W : WX) : Prop :=
  match r with
  | .st => False
  | .nx ρ S => ∀ α H σ, Ext w ⟨α, S, H⟩ → Rep K mg ⟨α, S, H⟩ → RE K ⟨α, S, H⟩ σ ρ → D.nx σ H
  | .bk ρ S => ∀ α H σ, Ext w ⟨α, S, H⟩ → Rep K mg ⟨α, S, H⟩ → RE K ⟨α, S, H⟩ σ ρ → D.bk σ H
  | .ct ρ S => ∀ α H σ, Ext w ⟨α, S, H⟩ → Rep K mg ⟨α, S, H⟩ → RE K ⟨α, S, H⟩ σ ρ → D.ct σ H
  | .rt v S => ∀ α H u, Ext w ⟨α, S, H⟩ → Rep K mg ⟨α, S, H⟩ → RV K ⟨α, S, H⟩ u v → D.rt u H
  | .ex x ρ S => ∀ α H σ cls d, Ext w ⟨α, S, H⟩ → Rep K mg ⟨α, S, H⟩ → RE K ⟨α, S, H⟩ σ ρ → RX K mg ⟨α, S, H⟩ cls d x → W cls d σ H
def tS (K : PySem.W.Frag) (mg : Str → Option Value) (W : WX) (f : SD) : TS := fun D σ H =>
  ∃ α S ρ, Rep K mg ⟨α, S, H⟩ ∧ RE K ⟨α, S, H⟩ σ ρ ∧ AfterS K mg ⟨α, S, H⟩ (f ρ S) D W
abbrev StD (X : Cx) (W : WX) (s : Stmt) (f : SD) : Prop := PS X s (tS X.K X.mg W f)
abbrev BkD (X : Cx) (W : WX) (s : List Stmt) (f : SD) : Prop := PSs X s (tS X.K X.mg W f)
/-- f's value, then k; what f raises is raised -/
def Res.then_ {A : Type} (r : Res A) (ρ : Env') (k : A → List Cell → SRes) : SRes := match r with
  | .st => .st
  | .ok a S => k a S
  | .ex x S => .ex x ρ S
section
variable {K : PySem.W.Frag} {mg : Str → Option Value} {w w' : Wd} {D D' : Ends} {W W' : WX}
theorem AfterS.later {r : SRes} (h : AfterS K mg w r D W) (e : Ext w w') : AfterS K mg w' r D W := by
  cases r with
  | st => exact h
  | nx ρ S => exact fun α H σ e' => h α H σ (e.trans e')
  | bk ρ S => exact fun α H σ e' => h α H σ (e.trans e')
  | ct ρ S => exact fun α H σ e' => h α H σ (e.trans e')
  | rt v S => exact fun α H σ e' => h α H σ (e.trans e')
  | ex x ρ S => exact fun α H σ c d e' => h α H σ c d (e.trans e')
/-- a piece, then the rest -/
theorem AfterS.split {A B : Type} {rel : Wd → B → A → Prop} {r : Res A} {ρ : Env'} {k : A → List Cell → SRes} (h : AfterS K mg w (r.then_ ρ k) D W) {σ : L2.St} (re : RE K w σ ρ) :
    After K mg rel w r (fun b H => ∃ α S a, Ext w ⟨α, S, H⟩ ∧ Rep K mg ⟨α, S, H⟩ ∧ rel ⟨α, S, H⟩ b a ∧ RE K ⟨α, S, H⟩ σ ρ ∧ AfterS K mg ⟨α, S, H⟩ (k a S) D W) (fun c d H => W c d σ H) := by
  cases r with
  | st => exact h
  | ok a S => exact fun α H b e1 e2 e3 => ⟨α, S, a, e1, e2, e3, re.mono e1, AfterS.later h e1⟩
  | ex x S => exact fun α H c d e1 e2 e3 => h α H σ c d e1 e2 (re.mono e1) e3
end
section
variable {X : Cx} {W : WX} {s : Stmt} {ss : List Stmt} {e : Expr} {pos : Pos} {f : Env' → M Val} {g : SD}
theorem PS.imp {t t' : TS} (h : PS X s t) (k : ∀ D σ H, t' D σ H → t D σ H) : PS X s t' := ⟨fun pins s' σ H D I q => h.run pins s' σ H D I (k D σ H q)⟩
theorem PSs.imp {t t' : TS} (h : PSs X ss t) (k : ∀ D σ H, t' D σ H → t D σ H) : PSs X ss t' := ⟨fun pins s' σ H D I q => h.run pins s' σ H D I (k D σ H q)⟩
def sNil : SD := fun ρ S => .nx ρ S
theorem bd_nil : BkD X W [] sNil := PSs.imp pss_nil fun D σ H ⟨α, S, ρ, R, RE, q⟩ => q α H σ (Ext.refl _) R RE
def sSeq (f g : SD) : SD := fun ρ S => match f ρ S with
  | .nx ρ' S' => g ρ' S'
  | r => r
theorem bd_cons {f g : SD} (h1 : StD X W s f) (h2 : BkD X W ss g) : BkD X W (s :: ss) (sSeq f g) := by
  refine PSs.imp (pss_cons h1 h2) fun D σ H ⟨α, S, ρ, R, re, q⟩ => ⟨α, S, ρ, R, re, ?_⟩
  show AfterS X.K X.mg ⟨α, S, H⟩ (f ρ S) { D with nx := tS X.K X.mg W g D } W
  unfold sSeq at q
  cases e : f ρ S with
  | nx ρ' S' =>
    rw [e] at q
    exact fun α' H' σ' e1 R1 re1 => ⟨α', S', ρ', R1, re1, AfterS.later q e1⟩
  | st => rw [e] at q; exact q
  | bk ρ' S' => rw [e] at q; exact q
  | ct ρ' S' => rw [e] at q; exact q
  | rt v S' => rw [e] at q; exact q
  | ex x ρ' S' => rw [e] at q; exact q
theorem bd_one {f : SD} (h : StD X W s f) : BkD X W [s] f := pss_one h
theorem sd_pass : StD X W (.Pass pos) sNil := PS.imp ps_pass fun D σ H ⟨α, S, ρ, R, RE, q⟩ => q α H σ (Ext.refl _) R RE
def sBreak : SD := fun ρ S => .bk ρ S
def sCont : SD := fun ρ S => .ct ρ S
theorem sd_break : StD X W (.Break pos) sBreak := PS.imp ps_break fun D σ H ⟨α, S, ρ, R, RE, q⟩ => q α H σ (Ext.refl _) R RE
theorem sd_continue : StD X W (.Continue pos) sCont := PS.imp ps_continue fun D σ H ⟨α, S, ρ, R, RE, q⟩ => q α H σ (Ext.refl _) R RE
theorem sd_doc {x j pos pos'} : StD X W (.Expr (.Constant (.str x) j pos) pos') sNil := PS.imp ps_doc fun D σ H ⟨α, S, ρ, R, RE, q⟩ => q α H σ (Ext.refl _) R RE
/-- a value dropped -/
def sExpr (f : Env' → M Val) : SD := fun ρ S => (f ρ S).then_ ρ fun _ S' => .nx ρ S'
theorem sd_expr (he : ED X W e f) (hs : swapsWith e none pos.line X.env = pure false := by rfl) : StD X W (.Expr e pos) (sExpr f) :=
  PS.imp (ps_expr he hs) fun D σ H ⟨α, S, ρ, R, re, q⟩ => ⟨α, S, ρ, R, re, After.imp (AfterS.split (rel := RV X.K) q re) (fun v H' ⟨α', S', a, e1, R1, r1, re1, q1⟩ => q1 α' H' σ (Ext.refl _) R1 re1) fun _ _ _ z => z⟩
def sRet (f : Env' → M Val) : SD := fun ρ S => (f ρ S).then_ ρ fun v S' => .rt v S'
theorem sd_ret (he : ED X W e f) : StD X W (.Return (some e) pos) (sRet f) :=
  PS.imp (ps_ret he) fun D σ H ⟨α, S, ρ, R, re, q⟩ => ⟨α, S, ρ, R, re, After.imp (AfterS.split (rel := RV X.K) q re) (fun v H' ⟨α', S', a, e1, R1, r1, re1, q1⟩ => q1 α' H' v (Ext.refl _) R1 r1) fun _ _ _ z => z⟩
def sRetN : SD := fun _ S => .rt (.d .none) S
theorem sd_retN : StD X W (.Return none pos) sRetN := PS.imp ps_retN fun D σ H ⟨α, S, ρ, R, re, q⟩ => q α H .non (Ext.refl _) R .non
def sIf (c : Env' → M Bool) (f g : SD) : SD := fun ρ S => (c ρ S).then_ ρ fun b S' => if b = true then f ρ S' else g ρ S'
theorem sd_if {c : Expr} {a b : List Stmt} {tc : Env' → M Bool} {f g : SD} (hc : TDt X W c tc) (ha : BkD X W a f) (hb : BkD X W b g) : StD X W (.If c a b pos) (sIf tc f g) :=
  PS.imp (ps_if hc ha hb) fun D σ H ⟨α, S, ρ, R, re, q⟩ => ⟨α, S, ρ, R, re, After.imp (AfterS.split (rel := fun _ b a => b = a) q re) (fun v H' ⟨α', S', a, e1, R1, r1, re1, q1⟩ => by
    subst r1
    cases v with
    | true => exact ⟨α', S', ρ, R1, re1, q1⟩
    | false => exact ⟨α', S', ρ, R1, re1, q1⟩) fun _ _ _ z => z⟩
/-! targets -/
theorem wipe_ix {σ : L2.St} {vs : List Nat} {i : Nat} (h : i ∈ vs) : (wipe σ vs)[i]? = if i < σ.length then some none else none := by
  by_cases hl : i < (wipe σ vs).length
  · have e : (wipe σ vs)[i]? = some (wipe σ vs)[i] := List.getElem?_eq_getElem hl
    rw [if_pos (by rw [wipe_length] at hl; exact hl), e]
    cases q : (wipe σ vs)[i] with
    | none => rfl
    | some x =>
      rw [q] at e
      exact absurd h (wipe_some e).2
  · rw [List.getElem?_eq_none (Nat.le_of_not_lt hl), if_neg (by rw [wipe_length] at hl; exact hl)]
theorem wipe_eq {σ σ' : L2.St} {vs : List Nat} (hl : σ'.length = σ.length) (h : ∀ i, i ∉ vs → σ'[i]? = σ[i]?) : wipe σ' vs = wipe σ vs := by
  refine List.ext_getElem? fun i => ?_
  by_cases hi : i ∈ vs
  · rw [wipe_ix hi, wipe_ix hi, hl]
  · rw [wipe_out hi, wipe_out hi, h i hi]
/-- unlike at these places alone -/
structure Only (is : List Nat) (σ σ' : L2.St) : Prop where
  len : σ'.length = σ.length
  at_ : ∀ i, i ∉ is → σ'[i]? = σ[i]?
theorem Only.refl (is : List Nat) (σ : L2.St) : Only is σ σ := ⟨rfl, fun _ _ => rfl⟩
theorem Only.trans {is js : List Nat} {σ σ' σ'' : L2.St} (h : Only is σ σ') (g : Only js σ' σ'') : Only (is ++ js) σ σ'' :=
  ⟨g.len.trans h.len, fun i hi => by
    simp only [List.mem_append, not_or] at hi
    rw [g.at_ i hi.2, h.at_ i hi.1]⟩
theorem Only.wipe {is vs : List Nat} {σ σ' : L2.St} (h : Only is σ σ') (hv : ∀ i ∈ is, i ∈ vs) : L2.wipe σ' vs = L2.wipe σ vs := wipe_eq h.len fun i hi => h.at_ i fun z => hi (hv i z)
abbrev Tg := Val → Env' → Option Env'
def tG (K : PySem.W.Frag) (mg : Str → Option Value) (is : List Nat) (g : Tg) : TG := fun v σ H Q => ∃ w x ρ ρ', w.H = H ∧ Rep K mg w ∧ RE K w σ ρ ∧ RV K w v x ∧ g x ρ = some ρ' ∧
  ∀ H' σ', Ext w (w.at H') → Rep K mg (w.at H') → RE K (w.at H') σ' ρ' → Only is σ σ' → Q σ' H'
abbrev GD (X : Cx) (t : Expr) (is : List Nat) (g : Tg) : Prop := PG X t (tG X.K X.mg is g)
theorem PG.imp {t : Expr} {g g' : TG} (h : PG X t g) (k : ∀ v σ H Q, g' v σ H Q → g v σ H Q) : PG X t g' := ⟨fun pins s σ H v u Q I r q => h.run pins s σ H v u Q I r (k v σ H Q q)⟩
theorem PGs.imp {t : List Expr} {g g' : TGs} (h : PGs X t g) (k : ∀ v σ H Q, g' v σ H Q → g v σ H Q) : PGs X t g' := ⟨fun pins s σ H v u Q I r q => h.run pins s σ H v u Q I r (k v σ H Q q)⟩
def toName (i : Nat) : Tg := fun x ρ => some (ρ.set i (some x))
theorem gd_name {i : Nat} {x : Str} (hN : X.N.Nodup) (hi : X.N[i]? = some x := by rfl) (hx : Loc X.env.scope x := by first | exact Or.inl rfl | exact Or.inr rfl) (hf : X.fn x = true ∨ X.env.scope.names.lookup x = some .local := by first | exact .inl rfl | exact .inr rfl) : GD X (.Name x pos) [i] (toName i) :=
  PG.imp (pg_name hN hi hx hf) fun v σ H Q ⟨w, x, ρ, ρ', eh, R, re, rv, eg, q⟩ => by
    subst eh
    cases eg
    exact q w.H _ (Ext.refl _) R (re.set rv i) ⟨List.length_set, fun j hj => List.getElem?_set_ne (fun e => hj (by simp [e]))⟩
/-- several targets for as many data -/
abbrev Tgs := List D → Env' → Option Env'
def tGs (K : PySem.W.Frag) (mg : Str → Option Value) (is : List Nat) (g : Tgs) : TGs := fun vs σ H Q => ∃ w xs ρ ρ', w.H = H ∧ Rep K mg w ∧ RE K w σ ρ ∧ DvAll K w.F vs xs ∧ g xs ρ = some ρ' ∧
  ∀ H' σ', Ext w (w.at H') → Rep K mg (w.at H') → RE K (w.at H') σ' ρ' → Only is σ σ' → Q σ' H'
def toNil : Tgs := fun xs ρ => match xs with
  | [] => some ρ
  | _ => none
def toCons (g : Tg) (h : Tgs) : Tgs := fun xs ρ => match xs with
  | [] => none
  | x :: r => (g (.d x) ρ).bind (h r)
def toTup (h : Tgs) : Tg := fun x ρ => match x with
  | .d (.tuple ds) => h ds ρ
  | _ => none
theorem gs_nil : PGs X [] (tGs X.K X.mg [] toNil) := PGs.imp pgs_nil fun v σ H Q ⟨w, xs, ρ, ρ', eh, R, re, rv, eg, q⟩ => by
  subst eh
  cases rv with
  | nil => cases eg; exact ⟨rfl, q w.H σ (Ext.refl _) R re (Only.refl _ _)⟩
  | cons a b => cases eg
theorem gs_cons {t : Expr} {ts : List Expr} {g : Tg} {h : Tgs} {is js : List Nat} (h1 : GD X t is g) (h2 : PGs X ts (tGs X.K X.mg js h)) (hs : (assignEach (t :: ts) X.env).map (·.2) = assign t X.env :: (assignEach ts X.env).map (·.2) := by rfl) : PGs X (t :: ts) (tGs X.K X.mg (is ++ js) (toCons g h)) :=
  PGs.imp (pgs_cons h1 h2 hs) fun v σ H Q ⟨w, xs, ρ, ρ', eh, R, re, rv, eg, q⟩ => by
    subst eh
    cases rv with
    | nil => cases eg
    | @cons v1 vs1 d1 ds1 a b =>
      have eg' : (g (.d d1) ρ).bind (h ds1) = some ρ' := eg
      obtain ⟨ρ1, e1, e2⟩ := Option.bind_eq_some_iff.mp eg'
      refine ⟨v1, vs1, rfl, w, .d d1, ρ, ρ1, rfl, R, re, a, e1, fun H1 σ1 x1 R1 re1 o1 => ?_⟩
      exact ⟨w.at H1, ds1, ρ1, ρ', rfl, R1, re1, b.mono x1.same, e2, fun H2 σ2 x2 R2 re2 o2 => q H2 σ2 (x1.trans x2) R2 re2 (o1.trans o2)⟩
theorem gd_tup {ts : List Expr} {k : Nat} {h : Tgs} {n : Nat} {is : List Nat} (hc : X.calm = true) (h1 : PGs X ts (tGs X.K X.mg is h)) (har : ∀ ds ρ, ds.length ≠ n → h ds ρ = none) (hn : (assignEach ts X.env).length = n := by rfl) (hst : (assignEach ts X.env).findIdx? (·.1) = none := by rfl) :
    GD X (.Tuple ts k pos) is (toTup h) :=
  PG.imp (pg_tup hc h1 hn hst) fun v σ H Q ⟨w, x, ρ, ρ', eh, R, re, rv, eg, q⟩ => by
    subst eh
    unfold toTup at eg
    split at eg
    · rename_i ds
      obtain ⟨a, xs, rfl, h2, h3, _⟩ := R.tuple (x := .d (.tuple ds)) rv rfl
      refine ⟨a, xs, rfl, h2, ?_, w, ds, ρ, ρ', rfl, R, re, h3, eg, q⟩
      rw [h3.length]
      refine Classical.byContradiction fun z => ?_
      rw [har ds ρ z] at eg
      cases eg
    · cases eg
/-- toCons/toNil want as many data as targets -/
theorem arNil (ds : List D) (ρ : Env') (h : ds.length ≠ 0) : toNil ds ρ = none := by
  cases ds with
  | nil => exact absurd rfl h
  | cons a b => rfl
theorem arCons {g : Tg} {h : Tgs} {n : Nat} (hh : ∀ ds ρ, ds.length ≠ n → h ds ρ = none) (ds : List D) (ρ : Env') (hn : ds.length ≠ n + 1) : toCons g h ds ρ = none := by
  cases ds with
  | nil => rfl
  | cons a b =>
    show (g (.d a) ρ).bind (h b) = none
    cases g (.d a) ρ with
    | none => rfl
    | some ρ' => exact hh b ρ' (fun e => hn (by rw [List.length_cons, e]))
/-- name = value -/
def sSet (i : Nat) (f : Env' → M Val) : SD := fun ρ S => (f ρ S).then_ ρ fun v S' => .nx (ρ.set i (some v)) S'
theorem sd_set {i : Nat} {x : Str} {pos' : Pos} (hN : X.N.Nodup) (he : ED X W e f) (hi : X.N[i]? = some x := by rfl) (hx : Loc X.env.scope x := by first | exact Or.inl rfl | exact Or.inr rfl) (hs : swapsWith e (some (.Name x pos')) pos.line X.env = pure false := by rfl)
    (hf : X.fn x = true ∨ X.env.scope.names.lookup x = some .local := by first | exact .inl rfl | exact .inr rfl) : StD X W (.Assign [.Name x pos'] e pos) (sSet i f) :=
  PS.imp (ps_set hN hi hx he hs hf) fun D σ H ⟨α, S, ρ, R, re, q⟩ => ⟨α, S, ρ, R, re, After.imp (AfterS.split (rel := RV X.K) q re) (fun v H' ⟨α', S', a, e1, R1, r1, re1, q1⟩ => q1 α' H' _ (Ext.refl _) R1 (re1.set r1 i)) fun _ _ _ z => z⟩
/-- target = value, any target -/
def sAsg (g : Tg) (f : Env' → M Val) : SD := fun ρ S => (f ρ S).then_ ρ fun v S' => match g v ρ with
  | some ρ' => .nx ρ' S'
  | none => .st
theorem sd_asg {tg : Expr} {g : Tg} {is : List Nat} (he : ED X W e f) (hg : GD X tg is g) (hs : swapsWithSole [tg] e pos.line X.env = pure false := by rfl) (hw : swappedStores [tg] e X.env = pure none := by rfl) (h1 : (assignEach [tg] X.env).map (·.2) = [assign tg X.env] := by rfl) :
    StD X W (.Assign [tg] e pos) (sAsg g f) :=
  PS.imp (ps_asg he hg hs hw h1) fun D σ H ⟨α, S, ρ, R, re, q⟩ => ⟨α, S, ρ, R, re, After.imp (AfterS.split (rel := RV X.K) q re) (fun v H' ⟨α', S', a, e1, R1, r1, re1, q1⟩ => by
    cases eg : g a ρ with
    | none => rw [eg] at q1; exact False.elim q1
    | some ρ' => rw [eg] at q1; exact ⟨⟨α', S', H'⟩, a, ρ, ρ', rfl, R1, re1, r1, eg, fun H2 σ2 x2 R2 re2 _ => q1 α' H2 σ2 x2 R2 re2⟩) fun _ _ _ z => z⟩
/-- a, b = x, y -/
def sPar (i j : Nat) (g : Env' → M (List Val)) : SD := fun ρ S => (g ρ S).then_ ρ fun vs S' => match vs with
  | [v, u] => .nx ((ρ.set i (some v)).set j (some u)) S'
  | _ => .st
theorem sd_par {i j : Nat} {x y : Str} {a b : Expr} {g : Env' → M (List Val)} {px py pt : Pos} {kt k2 pt2} (hc : X.calm = true) (hN : X.N.Nodup) (ha : AD X W [a, b] g) (hw : swappedStores [.Tuple [.Name x px, .Name y py] kt pt] (.Tuple [a, b] k2 pt2) X.env = pure (some [x, y]))
    (hi : X.N[i]? = some x := by rfl) (hj : X.N[j]? = some y := by rfl) (hij : i ≠ j := by decide) (hx : X.env.scope.names.lookup x = some .local := by rfl) (hy : X.env.scope.names.lookup y = some .local := by rfl)
    (hs : swapsWithSole [.Tuple [.Name x px, .Name y py] kt pt] (.Tuple [a, b] k2 pt2) pos.line X.env = pure false := by rfl) : StD X W (.Assign [.Tuple [.Name x px, .Name y py] kt pt] (.Tuple [a, b] k2 pt2) pos) (sPar i j g) :=
  PS.imp (ps_par hc hN hi hj hij hx hy ha hw hs) fun D σ H ⟨α, S, ρ, R, re, q⟩ => ⟨α, S, ρ, R, re, After.imp (AfterS.split (rel := RVs X.K) q re) (fun v H' ⟨α', S', a, e1, R1, r1, re1, q1⟩ => by
    match a, r1, q1 with
    | [v1, v2], .cons p1 (.cons p2 .nil), q1 => exact ⟨_, _, rfl, q1 α' H' _ (Ext.refl _) R1 ((re1.set p1 i).set p2 j)⟩
    | [], _, q1 => exact False.elim q1
    | [_], _, q1 => exact False.elim q1
    | _ :: _ :: _ :: _, _, q1 => exact False.elim q1) fun _ _ _ z => z⟩
end
/-! ### a def's body -/
def okT (n : Nat) (v : Val) (S : List Cell) : Res Val := match v with
  | .d x => .ok (.d x) (S.take n)
  | .c l => .ok (.c l) S
  | .f x => .ok (.f x) (S.take n)
def finish (n : Nat) : SRes → Res Val
  | .nx _ S => okT n (.d .none) S
  | .rt v S => okT n v S
  | .ex x _ S => .ex x (S.take n)
  | _ => .st
def bodyFn (np nl : Nat) (b : SD) : Fn := fun as S => if as.length = np then finish S.length (b (as.map some ++ List.replicate (nl - as.length) none) S) else .st
theorem bodyFn_arity (np nl : Nat) (b : SD) : Arity np (bodyFn np nl b) := fun as S h => by
  unfold bodyFn
  rw [if_neg h]
section
variable {K : PySem.W.Frag} {mg : Str → Option Value} {w w' : Wd}
theorem muts_take {α : List Addr} {S : List Cell} {H H' : Hp} {n : Nat} {b : Addr} (h : b ∈ Wd.muts ⟨α.take n, S.take n, H⟩) : b ∈ Wd.muts ⟨α, S, H'⟩ := by
  unfold Wd.muts at h ⊢
  obtain ⟨p, hp, e⟩ := List.mem_map.mp h
  obtain ⟨h1, h2⟩ := List.mem_filter.mp hp
  refine List.mem_map.mpr ⟨p, List.mem_filter.mpr ⟨?_, h2⟩, e⟩
  have z : (α.take n).zip (S.take n) = (α.zip S).take n := by
    rw [List.zip_eq_zipWith, List.zip_eq_zipWith, List.take_zipWith]
  have h1' : p ∈ (α.take n).zip (S.take n) := h1
  rw [z] at h1'
  exact List.mem_of_mem_take h1'
/-- the cells from the n-th on are forgotten -/
theorem Rep.cut (R : Rep K mg w) (n : Nat) : Rep K mg ⟨w.α.take n, w.S.take n, w.H⟩ ∧ Same w.F (Wd.F ⟨w.α.take n, w.S.take n, w.H⟩) := by
  have e : Same w.F (Wd.F ⟨w.α.take n, w.S.take n, w.H⟩) := fun b u h => by
    unfold Wd.F at h ⊢
    split at h
    · cases h
    · rename_i hb
      rw [if_neg fun z => hb (muts_take z)]
      exact h
  refine ⟨⟨by simp [R.len], R.nd.sublist (List.take_sublist _ _), fun a ha => R.al a (List.mem_of_mem_take ha), fun l a c h1 h2 => ?_⟩, e⟩
  have h1' : w.α[l]? = some a := by
    have z : (w.α.take n)[l]? = some a := h1
    rw [List.getElem?_take] at z
    split at z
    · exact z
    · cases z
  have h2' : w.S[l]? = some c := by
    have z : (w.S.take n)[l]? = some c := h2
    rw [List.getElem?_take] at z
    split at z
    · exact z
    · cases z
  exact (R.at_ l a c h1' h2').mono e fun _ => rfl
theorem Ext.cut (R : Rep K mg w) (R' : Rep K mg w') (e : Ext w w') : Ext w ⟨w'.α.take w.S.length, w'.S.take w.S.length, w'.H⟩ := by
  obtain ⟨t, ht⟩ := e.pre
  refine ⟨?_, e.same.trans (R'.cut w.S.length).2⟩
  have z : w'.α.take w.S.length = w.α := by
    rw [← ht, ← R.len, List.take_left']
    rfl
  show w.α <+: w'.α.take w.S.length
  rw [z]
  exact List.prefix_refl _
end
theorem re_start {K : PySem.W.Frag} {w : Wd} {N : List Str} {vs : List V} {as : List Val} (h : RVs K w vs as) : RE K w (L2.start N vs) (as.map some ++ List.replicate (N.length - as.length) none) := by
  have hl := h.length
  refine ⟨by unfold L2.start; simp [hl], fun i x q => ?_⟩
  unfold L2.start
  by_cases hi : i < as.length
  · rw [List.getElem?_append_left (by simpa using hi), List.getElem?_map] at q
    cases ea : as[i]? with
    | none => rw [ea] at q; cases q
    | some y =>
      rw [ea] at q
      cases q
      obtain ⟨v, e1, e2⟩ := paired_get h ea
      refine ⟨v, ?_, e2⟩
      rw [List.getElem?_append_left (by simp [hl]; exact hi), List.getElem?_map, e1]
      rfl
  · rw [List.getElem?_append_right (by simpa using hi), List.getElem?_replicate] at q
    split at q <;> cases q
where
  paired_get {K : PySem.W.Frag} {w : Wd} : ∀ {vs : List V} {as : List Val} {i : Nat} {y : Val}, Paired (RV K w) vs as → as[i]? = some y → ∃ v, vs[i]? = some v ∧ RV K w v y
    | _, _, _, _, .nil, h => by simp at h
    | _, _, 0, _, .cons r _, h => by simp at h; subst h; exact ⟨_, rfl, r⟩
    | _, _, i + 1, _, .cons _ t, h => by
      obtain ⟨v, e, r⟩ := paired_get (i := i) t (by simpa using h)
      exact ⟨v, by simpa using e, r⟩
section
variable {P : Program} {w : World} {K : PySem.W.Frag} {mg : Str → Option Value} {base : Heap}
/-- a def by its body -/
theorem fn_body {x qual : Str} {st : Stmt} {f : Addr} {fd : FuncData} {N ps : List Str} {k : Nat} {b : SD} (F : Fun K x qual st f fd) (S : FnScope N ps (defScope st))
    (hb : ∀ (cdv : Value) (A : Around) (outer : List Env) (s : Shared) (H : Hp) (E : XK),
      CxOk (cxOf (L2.CX P w) P w K mg base N qual (defScope st) f cdv A outer s H E) k → Takes (cxOf (L2.CX P w) P w K mg base N qual (defScope st) f cdv A outer s H E) (fun c d _ H => E c d H) →
      PassesOwn (model P w) (A.deeper (envOfC qual (defScope st) s.heap.objs.size f cdv)) (envOfC qual (defScope st) s.heap.objs.size f cdv) (cxOf (L2.CX P w) P w K mg base N qual (defScope st) f cdv A outer s H E).xe →
      PSs (cxOf (L2.CX P w) P w K mg base N qual (defScope st) f cdv A outer s H E) (defBody st) (tS K mg (fun c d _ H => E c d H) b)) :
    FnG P w K mg base (k + 1) f fd ps (bodyFn ps.length N.length b) := by
  obtain ⟨oc, od, kV, doc, pm, an, cdv, ct, osl, rfl, lk, hcd⟩ := F.ex
  refine ⟨fun A outer s H args us vs Q E hG hr e0 hbi r hl hq => ?_⟩
  have KX : K.In s.heap := e0.mod.kin.keeps fun b o e => (e0.bs b o e).1
  have lim : s.heap.NoLimit := e0.mod.nolimit.keeps fun b o e => (e0.bs b o e).1
  have hk' : ∀ y ∈ ps.zip us, (defScope st).names.lookup y.1 = some .local ∨ ((defScope st).names.lookup y.1 = some .cell ∧ ((cellsFrom (s.heap.objs.size + 1) (defScope st).names []).lookup y.1).isSome = true) := fun ⟨n, v⟩ hy =>
    (S.par n (List.of_mem_zip hy).1).imp id fun q => ⟨q, PySem.W.cellsFrom_some _ _ _ (.inl q)⟩
  refine codeAny_call_function hr.depth (KX _ _ lk) rfl S.co S.gen rfl (PySem.W.codeRec_of KX hcd) (hbi _ _ _ _ ?_)
  refine wpAny_newFunctionEnv_cells S.kind hk' fun env he s1 xx => ?_
  subst he
  refine ⟨lim.keeps xx.toInCall.keep, codeAny_func ?_⟩
  have I := inv_start (CX := L2.CX P w) (P := P) (w := w) (K := K) (mg := mg) (base := base) (qual := qual) (f := f) (cd := cdv) (E := E) S hr.hd e0 hl r xx
  have C : CxOk (cxOf (L2.CX P w) P w K mg base N qual (defScope st) f cdv A outer s H E) k := ⟨rfl, hr.deeper _, hG, S.nd⟩
  obtain ⟨α, S0, as, R, rs, q⟩ := hq
  have hla : as.length = ps.length := by rw [← rs.length]; exact hl
  unfold bodyFn at q
  rw [if_pos hla] at q
  have hrun := (hb cdv A outer s H E C (takes_of rfl rfl rfl rfl) (passes_of rfl)).run [] s1 (L2.start N vs) H { nx := fun _ H' => Q .non H', rt := Q } I ⟨α, S0, _, R, re_start rs, ?_⟩
  · refine wpAny_mono hrun (fun fl s' hs => ?_) fun e s' hs => hs
    have fin : ∀ {σ' : L2.St} {H' : Hp} {v : V} {u : Value}, Inv (cxOf (L2.CX P w) P w K mg base N qual (defScope st) f cdv A outer s H E) [] σ' H' s' → RelV v u → Q v H' → CE outer P w H s Q u s' :=
      fun {σ' H' v u} J rv qq => ⟨v, H', J.os, J.bare, J.base, J.hok, rv, qq⟩
    cases fl with
    | ret u =>
      obtain ⟨v, σ', H', J, rv, qq⟩ := hs
      exact fin J rv qq
    | next =>
      obtain ⟨σ', H', J, qq⟩ := hs
      exact fin (v := V.non) (u := Value.none) J rfl qq
    | brk =>
      obtain ⟨_, _, _, qq⟩ := hs
      exact False.elim qq
    | cont =>
      obtain ⟨_, _, _, qq⟩ := hs
      exact False.elim qq
  · -- what the body's end gives the caller
    cases er : b (as.map some ++ List.replicate (N.length - as.length) none) S0 with
    | st => rw [er] at q; exact q
    | bk ρ S1 => rw [er] at q; exact False.elim q
    | ct ρ S1 => rw [er] at q; exact False.elim q
    | nx ρ S1 =>
      rw [er] at q
      exact fun α' H' σ' e1 R1 re1 => q _ H' .non (Ext.cut R R1 e1) (R1.cut _).1 .non
    | rt v S1 =>
      rw [er] at q
      cases v with
      | d x => exact fun α' H' u e1 R1 ru => q _ H' u (Ext.cut R R1 e1) (R1.cut _).1 (Dv.mono (R1.cut S0.length).2 ru)
      | c l => exact fun α' H' u e1 R1 ru => q α' H' u e1 R1 ru
      | f x => exact fun α' H' u e1 R1 ru => q _ H' u (Ext.cut R R1 e1) (R1.cut _).1 ru
    | ex x ρ S1 =>
      rw [er] at q
      exact fun α' H' σ' c d e1 R1 re1 rx => q _ H' c d (Ext.cut R R1 e1) (R1.cut _).1 (let ⟨C, h1, h2, h3⟩ := rx; ⟨C, h1, h2, h3.mono (R1.cut S0.length).2⟩)
end
end Zz
set_option maxRecDepth 100000
set_option maxHeartbeats 4000000
namespace Zz
open PySem PySem.Spec PyProof.Rows L2
section
variable {X : Cx} {n : Nat} {W : WX} {pos : Pos} {e a b c : Expr} {es : List Expr} {f g h : Env' → M Val}
/-! ### names and constants -/
def dVar (i : Nat) : Env' → M Val := fun ρ S => match ρ[i]? with
  | some (some x) => .ok x S
  | _ => .st
theorem ed_var (i : Nat) {x : Str} (hN : X.N[i]? = some x := by rfl) (hv : Vis X.env.scope x := by first | exact Or.inl rfl | exact Or.inr (Or.inl rfl) | exact Or.inr (Or.inr rfl)) (hd : (x == ("__debug__" : Str)) = false := by decide)
    (hcd : (x == ("__classdict__" : Str)) = false := by decide) : ED X W (.Name x pos) (dVar i) :=
  PE.imp (pe_var hN hv hd hcd) fun σ H Q ⟨α, S, ρ, R, re, q⟩ => by
    unfold dVar at q
    cases er : ρ[i]? with
    | none => rw [er] at q; exact False.elim q
    | some o =>
      cases o with
      | none => rw [er] at q; exact False.elim q
      | some x =>
        rw [er] at q
        obtain ⟨v, e1, r⟩ := re.at_ i x er
        exact ⟨v, e1, q α H v (Ext.refl _) R r⟩
def dC (d : D) : Env' → M Val := fun _ S => .ok (.d d) S
theorem edC {v : V} {d : D} (h : PE X e (tC v)) (r : ∀ K F, Dv K F v d) : ED X W e (dC d) := PE.imp h fun σ H Q ⟨α, S, ρ, R, re, q⟩ => q α H v (Ext.refl _) R (r _ _)
theorem ed_int {i j} : ED X W (.Constant (.int i) j pos) (dC (.int i)) := edC pe_int fun _ _ => .int _
theorem ed_str {i j} : ED X W (.Constant (.str i) j pos) (dC (.str i)) := edC pe_str fun _ _ => .str _
theorem ed_bl {i j} : ED X W (.Constant (.bool i) j pos) (dC (.bool i)) := edC pe_bl fun _ _ => .bl _
theorem ed_non {j} : ED X W (.Constant .none j pos) (dC .none) := edC pe_non fun _ _ => .non
/-- a module's constant that is data of its own -/
theorem ed_glob {x : Str} {v : V} {u : Value} {d : D} (hm : X.mg x = some u) (r : RelV v u) (rd : ∀ F, Dv X.K F v d) (hg : Gl X x := by rfl) (hd : (x == ("__debug__" : Str)) = false := by decide) : ED X W (.Name x pos) (dC d) :=
  PE.imp (pe_glob hg hm r hd) fun σ H Q ⟨α, S, ρ, R, re, q⟩ => q α H v (Ext.refl _) R (rd _)
/-! ### operators -/
/-- both values at this moment -/
def on2 (o : O2) : Val → Val → M Val := fun x y S => match rd S x, rd S y with
  | some a, some b => (match o a b with | some c => .ok (.d c) S | none => .st)
  | _, _ => .st
def dBin (o : O2) (f g : Env' → M Val) : Env' → M Val := fun ρ => (f ρ).bind fun x => (g ρ).bind fun y => on2 o x y
theorem on2_ok {K : PySem.W.Frag} {mg : Str → Option Value} {o : O2} {w : Wd} {x y : Val} {v u : V} {Q : VK} {E : XK} (R : Rep K mg w) (r1 : RV K w v x) (r2 : RV K w u y) (q : After K mg (RV K) w (on2 o x y w.S) Q E) : r2D K mg o v u w.H Q := by
  unfold on2 at q
  cases e1 : rd w.S x with
  | none => rw [e1] at q; exact False.elim q
  | some da =>
    cases e2 : rd w.S y with
    | none => rw [e1, e2] at q; exact False.elim q
    | some db =>
      rw [e1, e2] at q
      dsimp only at q
      cases e3 : o da db with
      | none => rw [e3] at q; exact False.elim q
      | some c =>
        rw [e3] at q
        exact ⟨w, x, y, da, db, c, rfl, R, r1, r2, e1, e2, e3, fun H' v' x1 R1 d1 => q w.α H' v' x1 R1 d1⟩
theorem binQ {o : O2} {σ : L2.St} {H : Hp} {Q : VK} (q : tD X.K X.mg W (dBin o f g) σ H Q) : tOp (r2D X.K X.mg o) (tD X.K X.mg W f) (tD X.K X.mg W g) σ H Q := by
  obtain ⟨α, S, ρ, R, re, q⟩ := q
  refine ⟨α, S, ρ, R, re, After.imp (After.split (rel := RV X.K) q) (fun v H1 ⟨α1, S1, x, e1, R1, r1, q1⟩ => ?_) fun _ _ _ z => z⟩
  refine ⟨α1, S1, ρ, R1, re.mono e1, After.imp (After.split (rel := RV X.K) q1) (fun u H2 ⟨α2, S2, y, e2, R2, r2, q2⟩ => ?_) fun _ _ _ z => z⟩
  exact on2_ok (w := ⟨α2, S2, H2⟩) R2 (r1.mono e2) r2 q2
theorem ed_op {op : Operator} {o : O2} (ho : OpR X (binaryOp op) (r2D X.K X.mg o)) (ha : ED X W a f) (hb : ED X W b g) : ED X W (.BinOp a op b pos) (dBin o f g) := PE.imp (pe_op ho ha hb) fun _ _ _ q => binQ q
theorem ed_cmp {op : CmpOp} {o : O2} (ho : OpR X (compareOp op) (r2D X.K X.mg o)) (ha : ED X W a f) (hb : ED X W b g) (hm : behindInMarks op b = false := by first | exact nomark _ | rfl) : ED X W (.Compare a [op] [b] pos) (dBin o f g) :=
  PE.imp (pe_cmpR ho ha hb hm) fun _ _ _ q => binQ q
/-! ### tests -/
/-- a value that has to be a bool -/
def toBr : Res Val → Res Bool
  | .ok (.d (.bool b)) S' => .ok b S'
  | .ex x S' => .ex x S'
  | _ => .st
def toB (f : Env' → M Val) : Env' → M Bool := fun ρ S => toBr (f ρ S)
theorem toBr_ok {K : PySem.W.Frag} {mg : Str → Option Value} {w : Wd} {r : Res Val} {Q : Bool → Hp → Prop} {E : XK} (q : After K mg (fun _ b a => b = a) w (toBr r) Q E) : After K mg (RV K) w r (fun x H1 => ∃ c, x = .bl c ∧ Q c H1) E := by
  cases r with
  | st => exact q
  | ex x S' => exact q
  | ok v S' =>
    match v, q with
    | .d (.bool b), q =>
      intro α' H' u x1 R1 r1
      cases r1
      exact ⟨b, rfl, q α' H' b x1 R1 rfl⟩
    | .c _, q => exact False.elim q
    | .f _, q => exact False.elim q
    | .d .none, q => exact False.elim q
    | .d (.int _), q => exact False.elim q
    | .d (.str _), q => exact False.elim q
    | .d (.list _), q => exact False.elim q
    | .d (.tuple _), q => exact False.elim q
    | .d (.dict _), q => exact False.elim q
theorem toBQ {σ : L2.St} {H : Hp} {Q : Bool → Hp → Prop} (q : tDt X.K X.mg W (toB f) σ H Q) : tD X.K X.mg W f σ H (fun x H1 => ∃ c, x = .bl c ∧ Q c H1) := by
  obtain ⟨α, S, ρ, R, re, q⟩ := q
  exact ⟨α, S, ρ, R, re, toBr_ok q⟩
theorem td_cmp {op : CmpOp} {o : O2} (ho : OpR X (compareOp op) (r2D X.K X.mg o)) (ha : ED X W a f) (hb : ED X W b g) (hm : behindInMarks op b = false := by first | exact nomark _ | rfl) : TDt X W (.Compare a [op] [b] pos) (toB (dBin o f g)) :=
  PT.imp (pt_cmpR ho ha hb hm) fun σ H Q q => by
    obtain ⟨α, S, ρ, R, re, q⟩ := toBQ q
    exact binQ ⟨α, S, ρ, R, re, q⟩
/-- a value whose test is its truth -/
theorem td_val (he : ED X W e f) (hi : ∀ whole, isTrue e X.env whole = (do let v ← whole; standAt e.pos; holding [v] (truthy v)) := by intro _; rfl) : TDt X W e (toB f) := PT.imp (pt_val he hi) fun σ H Q q => toBQ q
/-- truth -/
def truD : D → Option Bool
  | .none => some false
  | .bool b => some b
  | .int i => some (i != 0)
  | .str x => if x.length ≤ 16777216 then some ((x.length : Int) != 0) else none
  | .list xs => some (!xs.isEmpty)
  | .tuple xs => some (!xs.isEmpty)
  | .dict xs => some (!xs.isEmpty)
def toT (f : Env' → M Val) : Env' → M Bool := fun ρ => (f ρ).bind fun x S => match rd S x with
  | some d => (match truD d with | some b => .ok b S | none => .st)
  | none => .st
theorem td_truth (he : ED X W e f) (hi : ∀ whole, isTrue e X.env whole = (do let v ← whole; standAt e.pos; holding [v] (truthy v)) := by intro _; rfl) : TDt X W e (toT f) :=
  PT.imp (pt_truth he hi) fun σ H Q ⟨α, S, ρ, R, re, q⟩ => by
    refine ⟨α, S, ρ, R, re, After.imp (After.split (rel := RV X.K) q) (fun v H1 ⟨α1, S1, x, e1, R1, r1, q1⟩ => ?_) fun _ _ _ z => z⟩
    cases er : rd S1 x with
    | none => rw [er] at q1; exact False.elim q1
    | some d =>
      rw [er] at q1
      dsimp only at q1
      cases et : truD d with
      | none => rw [et] at q1; exact False.elim q1
      | some k =>
        rw [et] at q1
        refine ⟨k, ?_, q1 α1 H1 k (Ext.refl _) R1 rfl⟩
        have dv := R1.any r1 er
        cases dv with
        | non => cases et; rfl
        | bl _ => cases et; rfl
        | int _ => cases et; rfl
        | str y =>
          simp only [truD] at et
          split at et
          · rename_i hz
            cases et
            exact ⟨by rw [sizeLine_eq]; exact hz, rfl⟩
          · cases et
        | lst h1 h2 => cases et; exact .inl ⟨_, h1, by cases h2 <;> rfl⟩
        | tup h1 h2 => cases et; exact .inr (.inl ⟨_, h1.sq, by cases h2 <;> rfl⟩)
        | dct h1 h2 => cases et; exact .inr (.inr ⟨_, h1, by cases h2 <;> rfl⟩)
def tNotD (t : Env' → M Bool) : Env' → M Bool := fun ρ => (t ρ).bind fun b => M.ret (!b)
theorem td_not {t : Env' → M Bool} (ha : TDt X W a t) : TDt X W (.UnaryOp .Not a pos) (tNotD t) :=
  PT.imp (pt_not ha) fun σ H Q ⟨α, S, ρ, R, re, q⟩ => ⟨α, S, ρ, R, re, After.imp (After.split (rel := fun _ b a => b = a) q) (fun v H1 ⟨α1, S1, x, e1, R1, r1, q1⟩ => by subst r1; exact q1 α1 H1 _ (Ext.refl _) R1 rfl) fun _ _ _ z => z⟩
def tAndD (t u : Env' → M Bool) : Env' → M Bool := fun ρ => (t ρ).bind fun b => if b = true then u ρ else M.ret false
def tOrD (t u : Env' → M Bool) : Env' → M Bool := fun ρ => (t ρ).bind fun b => if b = true then M.ret true else u ρ
theorem wd_and1 {t : Env' → M Bool} (ha : TDt X W a t) : WDt X W (.BoolOp .And [a] pos) t := pw_and1 ha
theorem wd_or1 {t : Env' → M Bool} (ha : TDt X W a t) : WDt X W (.BoolOp .Or [a] pos) t := pw_or1 ha
theorem wd_and {t u : Env' → M Bool} (ha : TDt X W a t) (hb : WDt X W (.BoolOp .And (b :: es) pos) u) : WDt X W (.BoolOp .And (a :: b :: es) pos) (tAndD t u) :=
  PW.imp (pw_and ha hb) fun σ H Q ⟨α, S, ρ, R, re, q⟩ => ⟨α, S, ρ, R, re, After.imp (After.split (rel := fun _ b a => b = a) q) (fun v H1 ⟨α1, S1, x, e1, R1, r1, q1⟩ => by
    subst r1
    cases v with
    | true => exact ⟨α1, S1, ρ, R1, re.mono e1, q1⟩
    | false => exact q1 α1 H1 _ (Ext.refl _) R1 rfl) fun _ _ _ z => z⟩
theorem wd_or {t u : Env' → M Bool} (ha : TDt X W a t) (hb : WDt X W (.BoolOp .Or (b :: es) pos) u) : WDt X W (.BoolOp .Or (a :: b :: es) pos) (tOrD t u) :=
  PW.imp (pw_or ha hb) fun σ H Q ⟨α, S, ρ, R, re, q⟩ => ⟨α, S, ρ, R, re, After.imp (After.split (rel := fun _ b a => b = a) q) (fun v H1 ⟨α1, S1, x, e1, R1, r1, q1⟩ => by
    subst r1
    cases v with
    | false => exact ⟨α1, S1, ρ, R1, re.mono e1, q1⟩
    | true => exact q1 α1 H1 _ (Ext.refl _) R1 rfl) fun _ _ _ z => z⟩
theorem td_w {t : Env' → M Bool} (ha : WDt X W a t) : TDt X W a t := ha.pt
/-! ### not, and, or of bools as values -/
def dNot (f : Env' → M Val) : Env' → M Val := fun ρ => (toB f ρ).bind fun b => M.ret (.d (.bool (!b)))
def dAnd (f g : Env' → M Val) : Env' → M Val := fun ρ => (toB f ρ).bind fun b => if b = true then g ρ else M.ret (.d (.bool false))
def dOr (f g : Env' → M Val) : Env' → M Val := fun ρ => (toB f ρ).bind fun b => if b = true then M.ret (.d (.bool true)) else g ρ
theorem bQ {k : Bool → M Val} {ρ : Env'} {α : List Addr} {S : List Cell} {σ : L2.St} {H : Hp} {Q : VK} (R : Rep X.K X.mg ⟨α, S, H⟩) (re : RE X.K ⟨α, S, H⟩ σ ρ) (q : After X.K X.mg (RV X.K) ⟨α, S, H⟩ ((toB f ρ S).bind k) Q (fun c d H' => W c d σ H')) :
    tD X.K X.mg W f σ H fun x H1 => ∃ c, x = .bl c ∧ ∃ α' S', Rep X.K X.mg ⟨α', S', H1⟩ ∧ RE X.K ⟨α', S', H1⟩ σ ρ ∧ After X.K X.mg (RV X.K) ⟨α', S', H1⟩ (k c S') Q (fun c d H' => W c d σ H') :=
  ⟨α, S, ρ, R, re, toBr_ok (After.imp (After.split (rel := fun _ b a => b = a) q) (fun v H1 ⟨α1, S1, x, e1, R1, r1, q1⟩ => by subst r1; exact ⟨α1, S1, R1, re.mono e1, q1⟩) fun _ _ _ z => z)⟩
theorem ed_not (ha : ED X W a f) : ED X W (.UnaryOp .Not a pos) (dNot f) :=
  PE.imp (pe_not ha) fun σ H Q ⟨α, S, ρ, R, re, q⟩ => by
    obtain ⟨α0, S0, ρ0, R0, re0, q0⟩ := bQ (f := f) R re q
    exact ⟨α0, S0, ρ0, R0, re0, After.imp q0 (fun x H1 ⟨c, ex, α1, S1, R1, re1, q1⟩ => ⟨c, ex, q1 α1 H1 _ (Ext.refl _) R1 (.bl _)⟩) fun _ _ _ z => z⟩
theorem ed_one {op} (h : ED X W a f) : ED X W (.BoolOp op [a] pos) f := pe_one h
theorem ed_and (ha : ED X W a f) (hb : ED X W (.BoolOp .And (b :: es) pos) g) : ED X W (.BoolOp .And (a :: b :: es) pos) (dAnd f g) :=
  PE.imp (pe_and ha hb) fun σ H Q ⟨α, S, ρ, R, re, q⟩ => by
    obtain ⟨α0, S0, ρ0, R0, re0, q0⟩ := bQ (f := f) R re q
    refine ⟨α0, S0, ρ0, R0, re0, After.imp q0 (fun x H1 ⟨c, ex, α1, S1, R1, re1, q1⟩ => ⟨c, ex, ?_⟩) fun _ _ _ z => z⟩
    cases c with
    | true => exact ⟨α1, S1, ρ, R1, re1, q1⟩
    | false => exact q1 α1 H1 _ (Ext.refl _) R1 (.bl _)
theorem ed_or (ha : ED X W a f) (hb : ED X W (.BoolOp .Or (b :: es) pos) g) : ED X W (.BoolOp .Or (a :: b :: es) pos) (dOr f g) :=
  PE.imp (pe_or ha hb) fun σ H Q ⟨α, S, ρ, R, re, q⟩ => by
    obtain ⟨α0, S0, ρ0, R0, re0, q0⟩ := bQ (f := f) R re q
    refine ⟨α0, S0, ρ0, R0, re0, After.imp q0 (fun x H1 ⟨c, ex, α1, S1, R1, re1, q1⟩ => ⟨c, ex, ?_⟩) fun _ _ _ z => z⟩
    cases c with
    | false => exact ⟨α1, S1, ρ, R1, re1, q1⟩
    | true => exact q1 α1 H1 _ (Ext.refl _) R1 (.bl _)
/-- a if t else b -/
def dIf (t : Env' → M Bool) (f g : Env' → M Val) : Env' → M Val := fun ρ => (t ρ).bind fun b => if b = true then f ρ else g ρ
theorem ed_if {t : Env' → M Bool} (hc : TDt X W c t) (ha : ED X W a f) (hb : ED X W b g) : ED X W (.IfExp c a b pos) (dIf t f g) :=
  PE.imp (pe_ifExp hc ha hb) fun σ H Q ⟨α, S, ρ, R, re, q⟩ => ⟨α, S, ρ, R, re, After.imp (After.split (rel := fun _ b a => b = a) q) (fun v H1 ⟨α1, S1, x, e1, R1, r1, q1⟩ => by
    subst r1
    cases v with
    | true => exact ⟨α1, S1, ρ, R1, re.mono e1, q1⟩
    | false => exact ⟨α1, S1, ρ, R1, re.mono e1, q1⟩) fun _ _ _ z => z⟩
/-- a < b < c: b's value once -/
def dChain (o o' : O2) (f g h : Env' → M Val) : Env' → M Val := fun ρ => (f ρ).bind fun x => (g ρ).bind fun y => fun S => (toBr (on2 o x y S)).bind (fun b => if b = true then (h ρ).bind fun z => on2 o' y z else M.ret (.d (.bool false)))
theorem chainQ {o o' : O2} {σ : L2.St} {H : Hp} {Q : VK} (q : tD X.K X.mg W (dChain o o' f g h) σ H Q) : tChain (r2D X.K X.mg o) (r2D X.K X.mg o') (tD X.K X.mg W f) (tD X.K X.mg W g) (tD X.K X.mg W h) σ H Q := by
  obtain ⟨α, S, ρ, R, re, q⟩ := q
  refine ⟨α, S, ρ, R, re, After.imp (After.split (rel := RV X.K) q) (fun v H1 ⟨α1, S1, x, e1, R1, r1, q1⟩ => ?_) fun _ _ _ z => z⟩
  refine ⟨α1, S1, ρ, R1, re.mono e1, After.imp (After.split (rel := RV X.K) q1) (fun u H2 ⟨α2, S2, y, e2, R2, r2, q2⟩ => ?_) fun _ _ _ z => z⟩
  have q3 := toBr_ok (After.split (rel := fun _ b a => b = a) q2)
  obtain ⟨w, xa, ya, da, db, dc, ew, Rw, rx, ry, ea, eb, ec, ans⟩ := on2_ok (w := ⟨α2, S2, H2⟩) (E := fun c d H' => W c d σ H') R2 (r1.mono e2) r2 q3
  refine ⟨w, xa, ya, da, db, dc, ew, Rw, rx, ry, ea, eb, ec, fun H3 v3 x3 R3 d3 => ?_⟩
  obtain ⟨k, ev, α4, S4, b4, x4, R4, eb4, q4⟩ := ans H3 v3 x3 R3 d3
  subst eb4
  refine ⟨k, ev, ?_⟩
  cases k with
  | true =>
    refine ⟨α4, S4, ρ, R4, (re.mono (e1.trans (e2.trans x4))), After.imp (After.split (rel := RV X.K) q4) (fun z H5 ⟨α5, S5, zz, e5, R5, r5, q5⟩ => ?_) fun _ _ _ z => z⟩
    exact on2_ok (w := ⟨α5, S5, H5⟩) R5 ((r2.mono x4).mono e5) r5 q5
  | false => exact q4 α4 H3 _ (Ext.refl _) R4 (.bl _)
end
end Zz
set_option maxRecDepth 100000
set_option maxHeartbeats 4000000
namespace Zz
open PySem PySem.Spec PyProof.Rows L2
section
variable {X : Cx} {n : Nat} {W : WX} {pos p2 : Pos} {e a b c : Expr} {es : List Expr} {f g h : Env' → M Val} {o o' : O2}
theorem ed_chain {op op' : CmpOp} (ho : OpR X (compareOp op) (r2D X.K X.mg o)) (ho' : OpR X (compareOp op') (r2D X.K X.mg o')) (ha : ED X W a f) (hb : ED X W b g) (hc : ED X W c h)
    (hm : lastMarks [op, op'] [b, c] = false := by with_unfolding_all rfl) : ED X W (.Compare a [op, op'] [b, c] pos) (dChain o o' f g h) := PE.imp (pe_chain ho ho' ha hb hc hm) fun _ _ _ q => chainQ (o := o) (o' := o') q
theorem td_chain {op op' : CmpOp} (ho : OpR X (compareOp op) (r2D X.K X.mg o)) (ho' : OpR X (compareOp op') (r2D X.K X.mg o')) (ha : ED X W a f) (hb : ED X W b g) (hc : ED X W c h)
    (hm : lastMarks [op, op'] [b, c] = false := by with_unfolding_all rfl) : TDt X W (.Compare a [op, op'] [b, c] pos) (toB (dChain o o' f g h)) := PT.imp (pt_chain ho ho' ha hb hc hm) fun _ _ _ q => chainQ (o := o) (o' := o') (toBQ q)
/-! ### displays -/
def frzs : List Val → M (List D)
  | [] => M.ret []
  | v :: r => (frz v).bind fun d => (frzs r).bind fun ds => M.ret (d :: ds)
theorem Res.bind_assoc {A B C : Type} (r : Res A) (k : A → M B) (l : B → M C) : (r.bind k).bind l = r.bind fun a S => (k a S).bind l := by cases r <;> rfl
theorem frzs_ok {K : PySem.W.Frag} {mg : Str → Option Value} {A' B' : Type} {rel : Wd → B' → A' → Prop} {Q : B' → Hp → Prop} {E : XK} : ∀ {vs : List V} {xs : List Val} {w : Wd} {k : List D → M A'}, Rep K mg w → RVs K w vs xs → After K mg rel w ((frzs xs w.S).bind k) Q E →
    ∃ S' ds, Ext w ⟨w.α, S', w.H⟩ ∧ Rep K mg ⟨w.α, S', w.H⟩ ∧ DvAll K (Wd.F ⟨w.α, S', w.H⟩) vs ds ∧ After K mg rel ⟨w.α, S', w.H⟩ (k ds S') Q E
  | _, _, w, k, R, .nil, q => ⟨w.S, [], Ext.refl _, R, .nil, q⟩
  | _, _, w, k, R, .cons (a := v) (b := x) (l₁ := vs) (l₂ := xs) r t, q => by
    have q' : After K mg rel w ((frz x w.S).bind fun d S => ((frzs xs S).bind fun ds => M.ret (d :: ds)).bind k) Q E := by
      rw [← Res.bind_assoc]
      exact q
    obtain ⟨S1, d, e1, R1, r1, q1⟩ := frz_ok R r q'
    rw [Res.bind_assoc] at q1
    obtain ⟨S2, ds, e2, R2, r2, q2⟩ := frzs_ok (w := ⟨w.α, S1, w.H⟩) R1 (RVs.mono e1 t) q1
    exact ⟨S2, d :: ds, e1.trans e2, R2, .cons (r1.mono e2.same) r2, q2⟩
def dTup (g : Env' → M (List Val)) : Env' → M Val := fun ρ => (g ρ).bind fun xs => (frzs xs).bind fun ds => if ds.length ≤ 16777216 then M.ret (.d (.tuple ds)) else M.st
def dLst (g : Env' → M (List Val)) : Env' → M Val := fun ρ => (g ρ).bind fun xs => (frzs xs).bind fun ds => if ds.length ≤ 16777216 then M.ret (.d (.list ds)) else M.st
theorem ed_tup {g : Env' → M (List Val)} {x1} (h : AD X W es g) : ED X W (.Tuple es x1 pos) (dTup g) :=
  PE.imp (pe_tupP h) fun σ H Q ⟨α, S, ρ, R, re, q⟩ => ⟨α, S, ρ, R, re, After.imp (After.split (rel := RVs X.K) q) (fun vs H1 ⟨α1, S1, xs, e1, R1, r1, q1⟩ => by
    obtain ⟨S2, ds, e2, R2, r2, q2⟩ := frzs_ok (w := ⟨α1, S1, H1⟩) R1 r1 q1
    split at q2
    · rename_i hz
      refine ⟨by rw [sizeLine_eq, r2.length]; exact hz, fun p ob hp hd => ?_⟩
      obtain ⟨r3, x3, f3⟩ := R2.new hp (.frz ob (.tup vs))
      exact q2 _ _ _ x3 r3 (.tup (.inl ⟨ob, f3, hd⟩) (r2.mono x3.same))
    · exact False.elim q2) fun _ _ _ z => z⟩
theorem ed_lst {g : Env' → M (List Val)} (h : AD X W es g) : ED X W (.List es pos) (dLst g) :=
  PE.imp (pe_lst h) fun σ H Q ⟨α, S, ρ, R, re, q⟩ => ⟨α, S, ρ, R, re, After.imp (After.split (rel := RVs X.K) q) (fun vs H1 ⟨α1, S1, xs, e1, R1, r1, q1⟩ => by
    obtain ⟨S2, ds, e2, R2, r2, q2⟩ := frzs_ok (w := ⟨α1, S1, H1⟩) R1 r1 q1
    split at q2
    · rename_i hz
      refine ⟨by rw [sizeLine_eq, r2.length]; exact hz, fun p hp => ?_⟩
      obtain ⟨r3, x3, f3⟩ := R2.new hp (.lst vs)
      exact q2 _ _ _ x3 r3 (.lst (SqL.of f3) (r2.mono x3.same))
    · exact False.elim q2) fun _ _ _ z => z⟩
/-- a new cell with these items -/
def newCell (ds : List D) : M Val := fun S => .ok (.c S.length) (S ++ [.lst ds])
def dLstC (g : Env' → M (List Val)) : Env' → M Val := fun ρ => (g ρ).bind fun xs => (frzs xs).bind fun ds => if ds.length ≤ 16777216 then newCell ds else M.st
/-- the list at a new address is a cell -/
theorem cell_new {K : PySem.W.Frag} {mg : Str → Option Value} {w : Wd} {xs : List V} {ds : List D} {Q : VK} {E : XK} (R : Rep K mg w) (r : DvAll K w.F xs ds) (q : After K mg (RV K) w (newCell ds w.S) Q E) {p : Addr} (hp : w.H p = none) : Q (.ref p) (upd w.H p (.lst xs)) := by
  obtain ⟨r3, x3⟩ := R.cell hp (c := .lst ds) rfl ⟨xs, upd_same, r⟩
  exact q _ _ _ x3 r3 ⟨p, by rw [List.getElem?_append_right (by rw [R.len]; exact Nat.le_refl _), R.len, Nat.sub_self]; rfl, rfl⟩
theorem ed_lstC {g : Env' → M (List Val)} (h : AD X W es g) : ED X W (.List es pos) (dLstC g) :=
  PE.imp (pe_lst h) fun σ H Q ⟨α, S, ρ, R, re, q⟩ => ⟨α, S, ρ, R, re, After.imp (After.split (rel := RVs X.K) q) (fun vs H1 ⟨α1, S1, xs, e1, R1, r1, q1⟩ => by
    obtain ⟨S2, ds, e2, R2, r2, q2⟩ := frzs_ok (w := ⟨α1, S1, H1⟩) R1 r1 q1
    split at q2
    · rename_i hz
      exact ⟨by rw [sizeLine_eq, r2.length]; exact hz, fun p hp => cell_new (w := ⟨α1, S2, H1⟩) R2 r2 q2 hp⟩
    · exact False.elim q2) fun _ _ _ z => z⟩
/-! ### subscripts -/
def ixD (xs : List D) (i : Int) : Option D := atI xs i
def oIx : O2 := fun a b => match a, b with
  | .list xs, .int i => atI xs i
  | .tuple xs, .int i => atI xs i
  | .str z, .int i => if z.length ≤ 16777216 then (atI z.cps.toList i).map fun c => .str ⟨#[c]⟩ else none
  | .dict kds, k => (toKey k).bind (getD' kds)
  | _, _ => none
theorem atI_dv {K : PySem.W.Frag} {F : Hp} {vs : List V} {ds : List D} {i : Int} {d : D} (h : DvAll K F vs ds) (e : atI ds i = some d) : ∃ v, atI vs i = some v ∧ Dv K F v d := by
  unfold atI at e ⊢
  rw [h.length]
  cases ej : ixN ds.length i with
  | none => rw [ej] at e; cases e
  | some j =>
    rw [ej] at e
    exact h.get e
theorem ix_dict (hu : X.A.units + 1 < cLine) : IxR X (fun x y H Q => ∃ a v, x = .ref a ∧ DGet H a y (some v) ∧ Q v H) := by
  intro value slice pins s σ H x y v u Q I rx ry h hs
  obtain ⟨a, v, rfl, g, q⟩ := h
  cases rx
  exact tail_any (dict_typeIs I g) PySem.F.slot_dict_getitem.lookup (d_getItem hu I g ry fun w' s3 I3 rw' => ⟨v, H, I3, rw', q⟩) hs
theorem od_ix (hu : X.A.units + 1 < cLine) : IxR X (r2D X.K X.mg oIx) := by
  refine IxR.imp ((ix_seq (X := X)).or (ix_dict hu)) fun x y H Q h => ?_
  obtain ⟨w, a, b, da, db, c, rfl, R, ra, rb, ea, eb, ec, q⟩ := h
  unfold oIx at ec
  split at ec
  · obtain ⟨p, xs, rfl, h1, g1⟩ := R.list ra ea
    cases R.int rb eb
    obtain ⟨v, e1, dv⟩ := atI_dv g1 ec
    exact .inl (.inl ⟨p, xs, _, v, rfl, rfl, h1, e1, q.here R dv⟩)
  · obtain ⟨p, xs, rfl, h1, g1, _⟩ := R.tuple ra ea
    cases R.int rb eb
    obtain ⟨v, e1, dv⟩ := atI_dv g1 ec
    exact .inl (.inr (.inl ⟨p, xs, _, v, rfl, rfl, h1, e1, q.here R dv⟩))
  · split at ec
    · rename_i hz
      cases R.str ra ea
      cases R.int rb eb
      obtain ⟨k, e1, e2⟩ := Option.map_eq_some_iff.mp ec
      subst e2
      exact .inl (.inr (.inr ⟨_, _, k, rfl, rfl, by rw [sizeLine_eq]; exact hz, e1, q.here R (.str _)⟩))
    · cases ec
  · rename_i kds
    obtain ⟨k, e1, e2⟩ := Option.bind_eq_some_iff.mp ec
    obtain ⟨p, ks, rfl, g1, g2⟩ := R.dict ra ea
    have ex := dv_key (R.any rb eb) e1
    subst ex
    rcases g2.val k with ⟨v, d, z1, z2, dv⟩ | ⟨z1, z2⟩
    · rw [e2] at z2
      cases z2
      exact .inr ⟨p, v, rfl, by have z := DGet.k (k := k) g1; rw [z1] at z; exact z, q.here R dv⟩
    · rw [e2] at z2; cases z2
  · cases ec
theorem ed_ix (C : CxOk X n) (ha : ED X W a f) (hb : ED X W b g) (hs : PlainIx b := by exact fun _ _ => rfl) : ED X W (.Subscript a b pos) (dBin oIx f g) := PE.imp (pe_ix (od_ix C.u1) ha hb hs) fun _ _ _ q => binQ q
/-! ### slices -/
abbrev PtD := Env' → M (Option Int)
def tP (K : PySem.W.Frag) (mg : Str → Option Value) (W : WX) (f : PtD) : TO := fun σ H Q => ∃ α S ρ, Rep K mg ⟨α, S, H⟩ ∧ RE K ⟨α, S, H⟩ σ ρ ∧ After K mg (fun _ b a => b = a) ⟨α, S, H⟩ (f ρ S) Q (fun c d H' => W c d σ H')
abbrev PD (X : Cx) (W : WX) (e : Option Expr) (f : PtD) : Prop := PO X e (tP X.K X.mg W f)
theorem PO.imp {e : Option Expr} {t t' : TO} (h : PO X e t) (k : ∀ σ H Q, t' σ H Q → t σ H Q) : PO X e t' := ⟨fun pins s σ H Q I q => h.run pins s σ H Q I (k σ H Q q)⟩
def pNone : PtD := fun _ => M.ret none
def pSome (f : Env' → M Val) : PtD := fun ρ => (f ρ).bind fun x S => match rd S x with
  | some (.int i) => .ok (some i) S
  | _ => .st
theorem pd_none : PD X W none pNone := PO.imp po_none fun σ H Q ⟨α, S, ρ, R, re, q⟩ => q α H none (Ext.refl _) R rfl
theorem pd_some (he : ED X W e f) : PD X W (some e) (pSome f) := PO.imp (po_some he) fun σ H Q ⟨α, S, ρ, R, re, q⟩ => ⟨α, S, ρ, R, re, After.imp (After.split (rel := RV X.K) q) (fun v H1 ⟨α1, S1, x, e1, R1, r1, q1⟩ => by
  split at q1
  · rename_i i er
    exact ⟨i, R1.int r1 er, q1 α1 H1 _ (Ext.refl _) R1 rfl⟩
  · exact False.elim q1) fun _ _ _ z => z⟩
def cutD (xs : List D) (lo hi : Option Int) : List D := (xs.drop (HT.sIx xs.length 0 lo)).take (HT.sIx xs.length xs.length hi - HT.sIx xs.length 0 lo)
theorem cut_dv {K : PySem.W.Frag} {F : Hp} {vs : List V} {ds : List D} (h : DvAll K F vs ds) (lo hi : Option Int) : DvAll K F (cutV vs lo hi) (cutD ds lo hi) := by
  unfold cutV cutD
  rw [h.length]
  exact (h.drop _).take _
abbrev O3 := D → Option Int → Option Int → Option D
def oSl : O3 := fun a lo hi => match a with
  | .list xs => some (.list (cutD xs lo hi))
  | .tuple xs => some (.tuple (cutD xs lo hi))
  | .str z => if z.length ≤ 16777216 then some (.str (cutS z lo hi)) else none
  | _ => none
def dSl (f : Env' → M Val) (p p' : PtD) : Env' → M Val := fun ρ => (f ρ).bind fun x => (p ρ).bind fun lo => (p' ρ).bind fun hi => fun S => match rd S x with
  | some a => (match oSl a lo hi with | some c => .ok (.d c) S | none => .st)
  | none => .st
theorem ed_sl {lo hi : Option Expr} {p p' : PtD} (he : ED X W e f) (hl : PD X W lo p) (hh : PD X W hi p') : ED X W (.Subscript e (.Slice lo hi none p2) pos) (dSl f p p') := by
  refine PE.imp (pe_slice ((sl_list (X := X)).or (sl_tupP.or sl_str)) he hl hh) fun σ H Q ⟨α, S, ρ, R, re, q⟩ => ?_
  refine ⟨α, S, ρ, R, re, After.imp (After.split (rel := RV X.K) q) (fun v H1 ⟨α1, S1, x, e1, R1, r1, q1⟩ => ?_) fun _ _ _ z => z⟩
  refine ⟨α1, S1, ρ, R1, re.mono e1, After.imp (After.split (rel := fun _ b a => b = a) q1) (fun l H2 ⟨α2, S2, l', e2, R2, r2, q2⟩ => ?_) fun _ _ _ z => z⟩
  refine ⟨α2, S2, ρ, R2, re.mono (e1.trans e2), After.imp (After.split (rel := fun _ b a => b = a) q2) (fun u H3 ⟨α3, S3, u', e3, R3, r3, q3⟩ => ?_) fun _ _ _ z => z⟩
  subst r2 r3
  have rv := r1.mono (e2.trans e3)
  cases er : rd S3 x with
  | none => rw [er] at q3; exact False.elim q3
  | some d =>
    rw [er] at q3
    dsimp only at q3
    cases eo : oSl d l u with
    | none => rw [eo] at q3; exact False.elim q3
    | some c =>
      rw [eo] at q3
      have ans : Ans X.K X.mg ⟨α3, S3, H3⟩ c Q := fun H' v' x1 R1' d1 => q3 α3 H' v' x1 R1' d1
      unfold oSl at eo
      split at eo
      · cases eo
        obtain ⟨p, xs, rfl, h1, g1⟩ := R3.list rv er
        exact .inl ⟨p, xs, rfl, h1, fun q hq => ans.lst R3 (cut_dv g1 l u) hq⟩
      · cases eo
        rename_i ds
        obtain ⟨p, xs, rfl, h1, g1, d1⟩ := R3.tuple rv er
        refine .inr (.inl ⟨p, xs, rfl, h1, fun z => ?_, fun z => ans.tup R3 (cut_dv g1 l u)⟩)
        have z' : cutD ds l u = ds := by
          rw [g1.length] at z
          unfold cutD
          rw [z.1, z.2, Nat.sub_zero, List.drop_zero, List.take_length]
        rw [z'] at ans
        exact ans.here R3 d1
      · split at eo
        · rename_i hz
          cases eo
          cases R3.str rv er
          exact .inr (.inr ⟨_, rfl, by rw [sizeLine_eq]; exact hz, ans.here R3 (.str _)⟩)
        · cases eo
      · cases eo
/-! ### built-ins of one argument, by data -/
def r1D (K : PySem.W.Frag) (mg : Str → Option Value) (o : D → Option D) : List V → Hp → VK → Prop := fun xs H Q =>
  ∃ w x a da c, w.H = H ∧ xs = [x] ∧ Rep K mg w ∧ RV K w x a ∧ rd w.S a = some da ∧ o da = some c ∧ Ans K mg w c Q
def on1 (o : D → Option D) : Val → M Val := fun x S => match rd S x with
  | some a => (match o a with | some c => .ok (.d c) S | none => .st)
  | none => .st
def dFn1 (o : D → Option D) (f : Env' → M Val) : Env' → M Val := fun ρ => (f ρ).bind (on1 o)
theorem on1_ok {K : PySem.W.Frag} {mg : Str → Option Value} {o : D → Option D} {w : Wd} {x : Val} {v : V} {Q : VK} {E : XK} (R : Rep K mg w) (r1 : RV K w v x) (q : After K mg (RV K) w (on1 o x w.S) Q E) : r1D K mg o [v] w.H Q := by
  unfold on1 at q
  cases e1 : rd w.S x with
  | none => rw [e1] at q; exact False.elim q
  | some da =>
    rw [e1] at q
    dsimp only at q
    cases e3 : o da with
    | none => rw [e3] at q; exact False.elim q
    | some c =>
      rw [e3] at q
      exact ⟨w, v, x, da, c, rfl, rfl, R, r1, e1, e3, fun H' v' x1 R1 d1 => q w.α H' v' x1 R1 d1⟩
theorem oneA (ha : ED X W a f) (hs : starEach [a] X.env = (false, eval a X.env) :: starEach [] X.env := by rfl) : PA X [a] (tCons (tD X.K X.mg W f) tNil) := pa_cons ha pa_nil hs
theorem ed_fn1 {id : String} {x : Str} {p : Pos} {o : D → Option D} (hc : CallR X (.builtin id) (r1D X.K X.mg o)) (hm : X.mg x = none) (hv : bootBuiltins x = some (.builtin id)) (ha : ED X W a f) (hg : Gl X x := by rfl) (hn : x ≠ "__name__" := by decide) (hdb : (x == ("__debug__" : Str)) = false := by decide)
    (he : starEach [a] X.env = (false, eval a X.env) :: starEach [] X.env := by rfl) (hpl : (backTo pos (starEach [] X.env)).any (·.1) = false := by rfl) : ED X W (.Call (.Name x p) [a] [] pos) (dFn1 o f) :=
  PE.imp (pe_callB hc hg hm hv (oneA ha he) hn hdb he hpl) fun σ H Q ⟨α, S, ρ, R, re, q⟩ => ⟨α, S, ρ, R, re, After.imp (After.split (rel := RV X.K) q) (fun v H1 ⟨α1, S1, x, e1, R1, r1, q1⟩ => on1_ok (w := ⟨α1, S1, H1⟩) R1 r1 q1) fun _ _ _ z => z⟩
theorem ed_ty1 {T : String} {x : Str} {p : Pos} {o : D → Option D} (hc : CallR X (.type T) (r1D X.K X.mg o)) (hm : X.mg x = none) (hv : bootBuiltins x = some (.type T)) (ha : ED X W a f) (hg : Gl X x := by rfl) (hn : x ≠ "__name__" := by decide) (hdb : (x == ("__debug__" : Str)) = false := by decide)
    (he : starEach [a] X.env = (false, eval a X.env) :: starEach [] X.env := by rfl) (hpl : (backTo pos (starEach [] X.env)).any (·.1) = false := by rfl) : ED X W (.Call (.Name x p) [a] [] pos) (dFn1 o f) :=
  PE.imp (pe_callTy hc hg hm hv (oneA ha he) hn hdb he hpl) fun σ H Q ⟨α, S, ρ, R, re, q⟩ => ⟨α, S, ρ, R, re, After.imp (After.split (rel := RV X.K) q) (fun v H1 ⟨α1, S1, x, e1, R1, r1, q1⟩ => on1_ok (w := ⟨α1, S1, H1⟩) R1 r1 q1) fun _ _ _ z => z⟩
def oLen : D → Option D
  | .str z => if z.length ≤ 16777216 then some (.int z.length) else none
  | .list xs => some (.int xs.length)
  | .tuple xs => some (.int xs.length)
  | _ => none
theorem cd_len : CallR X (.builtin "len") (r1D X.K X.mg oLen) := by
  refine CallR.imp (call_len (X := X)) fun xs H Q h => ?_
  obtain ⟨w, x, a, da, c, rfl, rfl, R, ra, ea, ec, q⟩ := h
  unfold oLen at ec
  split at ec
  · split at ec
    · rename_i hz
      cases ec
      cases R.str ra ea
      exact ⟨_, _, rfl, ⟨by rw [sizeLine_eq]; exact hz, rfl⟩, q.here R (.int _)⟩
    · cases ec
  · cases ec
    obtain ⟨p, xs, rfl, h1, g1⟩ := R.list ra ea
    exact ⟨_, _, rfl, .inl ⟨_, h1, g1.length.symm⟩, q.here R (.int _)⟩
  · cases ec
    obtain ⟨p, xs, rfl, h1, g1, _⟩ := R.tuple ra ea
    exact ⟨_, _, rfl, .inr ⟨_, h1, g1.length.symm⟩, q.here R (.int _)⟩
  · cases ec
def asBool : D → Option Bool
  | .bool b => some b
  | _ => none
theorem bools_dv {K : PySem.W.Frag} {F : Hp} : ∀ {vs : List V} {ds : List D} {bs : List Bool}, DvAll K F vs ds → ds.mapM asBool = some bs → vs = bs.map V.bl
  | _, _, bs, .nil, e => by cases e; rfl
  | _, _, bs, .cons (d := d) (ds := ds) r t, e => by
    rw [List.mapM_cons] at e
    cases d <;> first | cases e | skip
    all_goals skip
    rename_i b
    cases em : ds.mapM asBool with
    | none => simp [asBool, em] at e
    | some bs' =>
      simp [asBool, em] at e
      subst e
      cases r
      rw [bools_dv t em]
      rfl
def oAll : D → Option D
  | .list xs => (xs.mapM asBool).map fun bs => .bool (bs.all id)
  | _ => none
def oAny : D → Option D
  | .list xs => (xs.mapM asBool).map fun bs => .bool (bs.any id)
  | _ => none
theorem cd_all (C : CxOk X n) : CallR X (.builtin "all") (r1D X.K X.mg oAll) := by
  refine CallR.imp (cr_all C.hc) fun xs H Q h => ?_
  obtain ⟨w, x, a, da, c, rfl, rfl, R, ra, ea, ec, q⟩ := h
  unfold oAll at ec
  split at ec
  · obtain ⟨bs, e1, e2⟩ := Option.map_eq_some_iff.mp ec
    subst e2
    obtain ⟨p, xs, rfl, h1, g1⟩ := R.list ra ea
    rw [bools_dv g1 e1] at h1
    exact ⟨p, bs, rfl, h1, q.here R (.bl _)⟩
  · cases ec
theorem cd_any (C : CxOk X n) : CallR X (.builtin "any") (r1D X.K X.mg oAny) := by
  refine CallR.imp (cr_any C.hc) fun xs H Q h => ?_
  obtain ⟨w, x, a, da, c, rfl, rfl, R, ra, ea, ec, q⟩ := h
  unfold oAny at ec
  split at ec
  · obtain ⟨bs, e1, e2⟩ := Option.map_eq_some_iff.mp ec
    subst e2
    obtain ⟨p, xs, rfl, h1, g1⟩ := R.list ra ea
    rw [bools_dv g1 e1] at h1
    exact ⟨p, bs, rfl, h1, q.here R (.bl _)⟩
  · cases ec
def oTuple : D → Option D
  | .list xs => some (.tuple xs)
  | .tuple xs => some (.tuple xs)
  | _ => none
theorem cd_tuple : CallR X (.type "tuple") (r1D X.K X.mg oTuple) := by
  refine CallR.imp (call_tupleP (X := X)) fun xs H Q h => ?_
  obtain ⟨w, x, a, da, c, rfl, rfl, R, ra, ea, ec, q⟩ := h
  unfold oTuple at ec
  split at ec
  · cases ec
    obtain ⟨p, xs, rfl, h1, g1⟩ := R.list ra ea
    exact ⟨p, xs, rfl, .inl ⟨h1, q.tup R g1⟩⟩
  · cases ec
    obtain ⟨p, xs, rfl, h1, g1, d1⟩ := R.tuple ra ea
    exact ⟨p, xs, rfl, .inr ⟨h1, q.here R d1⟩⟩
  · cases ec
def oList : D → Option D
  | .list xs => some (.list xs)
  | .tuple xs => some (.list xs)
  | _ => none
theorem cd_list : CallR X (.type "list") (r1D X.K X.mg oList) := by
  refine CallR.imp (call_list_of (X := X)) fun xs H Q h => ?_
  obtain ⟨w, x, a, da, c, rfl, rfl, R, ra, ea, ec, q⟩ := h
  unfold oList at ec
  split at ec
  · cases ec
    obtain ⟨p, xs, rfl, h1, g1⟩ := R.list ra ea
    exact ⟨p, xs, rfl, .inl h1, fun l hl => q.lst R g1 hl⟩
  · cases ec
    obtain ⟨p, xs, rfl, h1, g1, _⟩ := R.tuple ra ea
    exact ⟨p, xs, rfl, .inr h1, fun l hl => q.lst R g1 hl⟩
  · cases ec
def oInt : D → Option D
  | .int i => some (.int i)
  | .bool k => some (.int (if k then 1 else 0))
  | _ => none
theorem cd_int : CallR X (.type "int") (r1D X.K X.mg oInt) := by
  refine CallR.imp (call_int1 (X := X)) fun xs H Q h => ?_
  obtain ⟨w, x, a, da, c, rfl, rfl, R, ra, ea, ec, q⟩ := h
  unfold oInt at ec
  split at ec
  · cases ec
    cases R.int ra ea
    exact .inl ⟨_, rfl, q.here R (.int _)⟩
  · cases ec
    cases R.bool ra ea
    exact .inr ⟨_, rfl, q.here R (.int _)⟩
  · cases ec
/-! ### repr -/
end
mutual
/-- no list in it -/
def noL : D → Bool
  | .none => true
  | .bool _ => true
  | .int _ => true
  | .str _ => true
  | .list _ => false
  | .tuple xs => noLs xs
  | .dict kvs => noLk kvs
def noLs : List D → Bool
  | [] => true
  | x :: r => noL x && noLs r
def noLk : List (D × D) → Bool
  | [] => true
  | (_, v) :: r => noL v && noLk r
end
section
variable {X : Cx} {n : Nat} {W : WX} {pins : List (Addr × Obj)} {σ : L2.St} {H : Hp} {s : Shared}
theorem key_reads {h : Heap} {k : Key} {u : Value} (e : keyIs k u = true) : Reads h u (keyD k) [] := by
  rcases keyIs_shape e with ⟨i, t, rfl, rfl⟩ | ⟨x, t, rfl, rfl⟩
  · exact .int i t
  · exact .str x t
mutual
theorem Dv.reads_ (I : Inv X pins σ H s) : ∀ {d : D} {v : V} {u : Value}, Dv X.K H v d → RelV v u → ∃ as, Reads s.heap u d as ∧ (noL d = true → sysModules ∉ as)
  | .none, _, _, h, r => by cases h; cases r; exact ⟨_, .none, by simp⟩
  | .bool b, _, _, h, r => by cases h; cases r; exact ⟨_, .bool b, by simp⟩
  | .int i, _, _, h, r => by cases h; obtain ⟨t, rfl⟩ := r; exact ⟨_, .int i t, by simp⟩
  | .str x, _, _, h, r => by cases h; obtain ⟨t, rfl⟩ := r; exact ⟨_, .str x t, by simp⟩
  | .list ds, _, _, h, r => by
    cases h with
    | lst hs ha =>
      cases r
      obtain ⟨its, rv, ⟨o, n, ho, hc, hd', hd⟩, _⟩ := I.list hs
      obtain ⟨as, hr, hn⟩ := DvAll.reads_ I ha rv
      exact ⟨_, .list ho hc hd hr, fun z => Bool.noConfusion (show false = true from by rw [noL] at z; exact z)⟩
  | .tuple ds, _, _, h, r => by
    cases h with
    | tup hs ha =>
      cases r
      obtain ⟨its, rv, ⟨o, ho, hc, n, hd⟩, _⟩ := I.tuple hs.sq
      obtain ⟨as, hr, hn⟩ := DvAll.reads_ I ha rv
      exact ⟨_, .tuple ho hc hd hr, fun z => hn (by rw [noL] at z; exact z)⟩
  | .dict kds, _, _, h, r => by
    cases h with
    | dct hs ha =>
      cases r
      obtain ⟨_, hne, vs, kv, o, es, ep, ho, hx, hd, _, hp, _⟩ := I.hok _ _ hs
      obtain ⟨as, bs, h1, h2, h3, h4⟩ := DvKV.reads_ I ha kv hp
      refine ⟨_, .dict ho hx.1 hd h1 h2, fun z => ?_⟩
      have z2 := h4 (by rw [noL] at z; exact z)
      subst h3
      simp only [List.cons_append, List.append_nil, List.nil_append, List.mem_cons, not_or]
      exact ⟨fun q => by rw [← q] at hne; simp at hne, z2⟩
theorem DvAll.reads_ (I : Inv X pins σ H s) : ∀ {ds : List D} {vs : List V} {us : List Value}, DvAll X.K H vs ds → Vals vs us → ∃ as, ReadsAll s.heap us ds as ∧ (noLs ds = true → sysModules ∉ as)
  | [], _, _, h, r => by cases h; cases r; exact ⟨_, .nil, by simp⟩
  | d :: ds, _, _, h, r => by
    cases h with
    | cons h1 h2 =>
      cases r with
      | cons r1 r2 =>
        obtain ⟨as, q1, n1⟩ := Dv.reads_ I h1 r1
        obtain ⟨bs, q2, n2⟩ := DvAll.reads_ I h2 r2
        refine ⟨_, .cons q1 q2, fun z => ?_⟩
        rw [noLs, Bool.and_eq_true] at z
        simp [n1 z.1, n2 z.2]
theorem DvKV.reads_ (I : Inv X pins σ H s) : ∀ {kds : List (D × D)} {ks : List (Key × V)} {vs : List (Key × Value)} {es : List DictEntry}, DvKV X.K H ks kds → KV ks vs → Pairs (mixKind X.prog X.w) es vs →
    ∃ as bs, ReadsAll s.heap (es.map (·.key)) (kds.map (·.1)) as ∧ ReadsAll s.heap (es.map (·.val)) (kds.map (·.2)) bs ∧ as = [] ∧ (noLk kds = true → sysModules ∉ bs)
  | [], _, _, _, h, r, p => by
    cases h
    cases r
    cases p
    exact ⟨[], [], .nil, .nil, rfl, by simp⟩
  | (_, d) :: kds, _, _, _, h, r, p => by
    cases h with
    | cons h1 h2 =>
      cases r with
      | cons r1 r2 =>
        cases p with
        | cons p1 p2 p3 =>
          obtain ⟨as, bs, q1, q2, q3, q4⟩ := DvKV.reads_ I h2 r2 p3
          subst q3
          obtain ⟨e1, e2⟩ := r1
          obtain ⟨cs, q5, n5⟩ := Dv.reads_ I h1 e2
          rw [← p2] at q5
          have p1' := e1 ▸ p1
          refine ⟨_, _, .cons (key_reads p1') q1, .cons q5 q2, rfl, fun z => ?_⟩
          rw [noLk, Bool.and_eq_true] at z
          simp [n5 z.1, q4 z.2]
end
/-- what repr tells, where it is told -/
def oRepr (d : D) : Option D := if d.showable && (!d.hasDict || noL d) && decide (d.shown.length ≤ 16777216) && decide (d.depth ≤ 90) then some (.str d.shown) else none
theorem cd_repr (C : CxOk X n) : CallR X (.builtin "repr") (r1D X.K X.mg oRepr) := by
  intro pins s σ H xs us Q I r h
  obtain ⟨w, x, a, da, c, rfl, rfl, R, ra, ea, ec, q⟩ := h
  unfold oRepr at ec
  split at ec
  · rename_i hz
    cases ec
    simp only [Bool.and_eq_true, Bool.or_eq_true, decide_eq_true_eq, Bool.not_eq_true'] at hz
    obtain ⟨⟨⟨h1, h2⟩, h3⟩, h4⟩ := hz
    obtain ⟨u, rfl, ru⟩ := vals1 r
    have hsz : da.shown.length ≤ sizeLine := by rw [sizeLine_eq]; exact h3
    have dv := R.any ra ea
    obtain ⟨as, hr, hn⟩ := Dv.reads_ I dv ru
    have fin : ∀ (h' : Heap) (t : Tok) (tk : Nat), (∀ b o, s.heap.get? b = some o → h'.get? b = some o) → EP X pins σ Q (.str da.shown t) { s with heap := h', toks := tk } := fun h' t tk hk =>
      ⟨.str _, w.H, I.kept hk, ⟨t, rfl⟩, q.here R (.str _)⟩
    have hsm : da.hasDict = true → sysModules ∉ as := fun z => by
      rcases h2 with h2 | h2
      · rw [z] at h2; cases h2
      · exact hn h2
    have hu := C.u65
    have hu2 := C.hr.un
    cases dv with
    | non =>
      cases ru
      exact PySem.P.repr_of_none (by exact fin _ _ _ fun _ _ e => e)
    | bl b =>
      cases ru
      exact PySem.P.repr_of_bool (by exact fin _ _ _ fun _ _ e => e)
    | int i =>
      obtain ⟨t, rfl⟩ := ru
      exact PySem.P.repr_of_int (by simpa [PyData.showable] using h1) (by exact fin _ _ _ fun _ _ e => e)
    | str y =>
      obtain ⟨t, rfl⟩ := ru
      exact PySem.P.repr_of_str (by exact fin _ _ _ fun _ _ e => e) hsz
    | lst a1 a2 =>
      cases ru
      exact repr_of_reads' hr h1 hsm C.hG (by omega) (fun _ _ e => e) (fun h' t tk hk => fin h' t tk hk) hsz
    | tup a1 a2 =>
      cases ru
      exact repr_of_reads' hr h1 hsm C.hG (by omega) (fun _ _ e => e) (fun h' t tk hk => fin h' t tk hk) hsz
    | dct a1 a2 =>
      cases ru
      exact repr_of_reads' hr h1 hsm C.hG (by omega) (fun _ _ e => e) (fun h' t tk hk => fin h' t tk hk) hsz
  · cases ec
end
end Zz
set_option maxRecDepth 100000
set_option maxHeartbeats 4000000
namespace Zz
open PySem PySem.Spec PyProof.Rows L2
/-! ### what is walked -/
/-- J yields the data ds one by one, from the world w on -/
def Yields (K : PySem.W.Frag) (mg : Str → Option Value) (w : Wd) (J : It) (ds : List D) : Prop :=
  ∀ w', Ext w w' → Rep K mg w' → ∀ i, (∀ d, ds[i]? = some d → J.go i w'.H ∧ ∀ x H', J.yld i w'.H x H' → Ext w' (w'.at H') ∧ Rep K mg (w'.at H') ∧ Dv K (w'.at H').F x d) ∧ (ds.length ≤ i → J.stop i w'.H)
theorem Yields.mono {K : PySem.W.Frag} {mg : Str → Option Value} {w w1 : Wd} {J : It} {ds : List D} (e : Ext w w1) (h : Yields K mg w J ds) : Yields K mg w1 J ds := fun w' e' R' => h w' (e.trans e') R'
def tI (K : PySem.W.Frag) (mg : Str → Option Value) (W : WX) (it : Env' → M (List D)) : TI := fun σ H R =>
  ∃ α S ρ, Rep K mg ⟨α, S, H⟩ ∧ RE K ⟨α, S, H⟩ σ ρ ∧ After K mg (Yields K mg) ⟨α, S, H⟩ (it ρ S) R (fun c d H' => W c d σ H')
abbrev ID (X : Cx) (W : WX) (tg e : Expr) (it : Env' → M (List D)) : Prop := PI X tg e (tI X.K X.mg W it)
theorem PI.imp {X : Cx} {tg e : Expr} {t t' : TI} (h : PI X tg e t) (k : ∀ σ H R, t' σ H R → t σ H R) : PI X tg e t' := ⟨fun pins s σ H R I q => h.run pins s σ H R I (k σ H R q)⟩
section
variable {K : PySem.W.Frag} {mg : Str → Option Value} {w w' : Wd}
theorem yl_list {a : Addr} {vs : List V} {ds : List D} (h : SqL K w.F a vs) (dv : DvAll K w.F vs ds) : Yields K mg w (Itl K a) ds := fun w' e R i => by
  have h' : SqL K w'.F a vs := seqL e.same h
  have h2 : SqL K w'.H a vs := seqL (Wd.F_same w') h'
  refine ⟨fun d hd => ?_, fun hi => ⟨vs, h2, by rw [dv.length]; exact hi⟩⟩
  obtain ⟨v, e1, r⟩ := dv.get hd
  refine ⟨⟨vs, v, h2, e1⟩, fun x H' ⟨eh, y⟩ => ?_⟩
  subst eh
  have ex := y vs h2
  rw [e1] at ex
  cases ex
  exact ⟨Ext.refl _, R, r.mono e.same⟩
theorem yl_tup {a : Addr} {vs : List V} {ds : List D} (h : SqT K w.F a vs) (dv : DvAll K w.F vs ds) : Yields K mg w (Itt K a) ds := fun w' e R i => by
  have h' : SqT K w'.F a vs := seqT e.same h
  have h2 : SqT K w'.H a vs := seqT (Wd.F_same w') h'
  refine ⟨fun d hd => ?_, fun hi => ⟨vs, h2, by rw [dv.length]; exact hi⟩⟩
  obtain ⟨v, e1, r⟩ := dv.get hd
  refine ⟨⟨vs, v, h2, e1⟩, fun x H' ⟨eh, y⟩ => ?_⟩
  subst eh
  have ex := y vs h2
  rw [e1] at ex
  cases ex
  exact ⟨Ext.refl _, R, r.mono e.same⟩
theorem yl_rng (lo : Int) (n : Nat) : Yields K mg w (Itr lo n) ((List.range n).map fun i : Nat => PyData.int (lo + i)) := fun w' e R i => by
  refine ⟨fun d hd => ?_, fun hi => by show n ≤ i; simpa using hi⟩
  rw [List.getElem?_map, Option.map_eq_some_iff] at hd
  obtain ⟨j, h1, h2⟩ := hd
  have h3 := List.getElem?_eq_some_iff.mp h1
  obtain ⟨h4, h5⟩ := h3
  rw [List.getElem_range] at h5
  subst h5
  subst h2
  refine ⟨by show i < n; simpa using h4, fun x H' ⟨eh, y⟩ => ?_⟩
  subst eh
  subst y
  exact ⟨Ext.refl _, R, .int _⟩
theorem yl_str (x : Str) : Yields K mg w (Its x) (x.cps.toList.map fun c => PyData.str ⟨#[c]⟩) := fun w' e R i => by
  refine ⟨fun d hd => ?_, fun hi => by show x.cps.size ≤ i; simpa using hi⟩
  rw [List.getElem?_map, Option.map_eq_some_iff] at hd
  obtain ⟨c, h1, h2⟩ := hd
  subst h2
  rw [Array.getElem?_toList] at h1
  refine ⟨(Array.getElem?_eq_some_iff.mp h1).1, fun v H' ⟨eh, c', e1, e2⟩ => ?_⟩
  subst eh
  rw [h1] at e1
  cases e1
  subst e2
  exact ⟨Ext.refl _, R, .str _⟩
end
section
variable {X : Cx} {n : Nat} {W : WX} {pos p : Pos} {tg e a b : Expr} {f : Env' → M Val}
/-- the items of a list, a tuple -/
def itSeq (f : Env' → M Val) : Env' → M (List D) := fun ρ => (f ρ).bind fun x => (frz x).bind fun d => match d with
  | .list ds => M.ret ds
  | _ => M.st
def itTup (f : Env' → M Val) : Env' → M (List D) := fun ρ => (f ρ).bind fun x => (frz x).bind fun d => match d with
  | .tuple ds => M.ret ds
  | _ => M.st
def itStr (f : Env' → M Val) : Env' → M (List D) := fun ρ => (f ρ).bind fun x => (frz x).bind fun d => match d with
  | .str x => M.ret (x.cps.toList.map fun c => .str ⟨#[c]⟩)
  | _ => M.st
def itRng (f : Env' → M Val) : Env' → M (List D) := fun ρ => (f ρ).bind fun x => (frz x).bind fun d => match d with
  | .int j => if -(2 ^ 62) ≤ j ∧ j < 2 ^ 62 then M.ret ((List.range j.toNat).map fun i : Nat => .int (0 + i)) else M.st
  | _ => M.st
theorem itQ {k : D → M (List D)} {σ : L2.St} {H : Hp} {R : It → Hp → Prop} (q : tI X.K X.mg W (fun ρ => (f ρ).bind fun x => (frz x).bind k) σ H R) : tD X.K X.mg W f σ H fun v H1 => ∃ w d, w.H = H1 ∧ Rep X.K X.mg w ∧ Dv X.K w.F v d ∧ After X.K X.mg (Yields X.K X.mg) w (k d w.S) R (fun c d H' => W c d σ H') := by
  obtain ⟨α, S, ρ, R, re, q⟩ := q
  refine ⟨α, S, ρ, R, re, After.imp (After.split (rel := RV X.K) q) (fun v H1 ⟨α1, S1, x, e1, R1, r1, q1⟩ => ?_) fun _ _ _ z => z⟩
  obtain ⟨S2, d, e2, R2, r2, q2⟩ := frz_ok (w := ⟨α1, S1, H1⟩) R1 r1 q1
  exact ⟨⟨α1, S2, H1⟩, d, rfl, R2, r2, q2⟩
theorem id_seq (he : ED X W e f) : ID X W tg e (itSeq f) := PI.imp (pi_list he) fun σ H R q => by
  obtain ⟨α, S, ρ, h1, h2, q⟩ := itQ q
  refine ⟨α, S, ρ, h1, h2, After.imp q (fun v H1 ⟨w, d, eh, Rw, dv, q1⟩ => ?_) fun _ _ _ z => z⟩
  subst eh
  split at q1
  · cases dv with
    | lst s1 s2 => exact ⟨_, rfl, ⟨_, seqL (Wd.F_same w) s1⟩, q1 w.α w.H _ (Ext.refl _) Rw (yl_list s1 s2)⟩
  · exact False.elim q1
theorem id_tup (he : ED X W e f) : ID X W tg e (itTup f) := PI.imp (pi_tup he) fun σ H R q => by
  obtain ⟨α, S, ρ, h1, h2, q⟩ := itQ q
  refine ⟨α, S, ρ, h1, h2, After.imp q (fun v H1 ⟨w, d, eh, Rw, dv, q1⟩ => ?_) fun _ _ _ z => z⟩
  subst eh
  split at q1
  · cases dv with
    | tup s1 s2 => exact ⟨_, rfl, ⟨_, seqT (Wd.F_same w) s1.sq⟩, q1 w.α w.H _ (Ext.refl _) Rw (yl_tup s1.sq s2)⟩
  · exact False.elim q1
theorem id_str (he : ED X W e f) : ID X W tg e (itStr f) := PI.imp (pi_str he) fun σ H R q => by
  obtain ⟨α, S, ρ, h1, h2, q⟩ := itQ q
  refine ⟨α, S, ρ, h1, h2, After.imp q (fun v H1 ⟨w, d, eh, Rw, dv, q1⟩ => ?_) fun _ _ _ z => z⟩
  subst eh
  split at q1
  · cases dv with
    | str => exact ⟨_, rfl, q1 w.α w.H _ (Ext.refl _) Rw (yl_str _)⟩
  · exact False.elim q1
theorem id_rng (hm : X.mg "range" = none) (ha : ED X W a f) (hg : Gl X "range" := by rfl) (hs : starEach [a] X.env = [(false, eval a X.env)] := by rfl) : ID X W tg (.Call (.Name "range" p) [a] [] pos) (itRng f) := PI.imp (pi_range1 hg hm (ad_cons (W := W) ha ad_nil hs) hs) fun σ H R q => by
  obtain ⟨α, S, ρ, h1, h2, q⟩ := itQ q
  refine ⟨α, S, ρ, h1, h2, ?_⟩
  show After X.K X.mg (RVs X.K) ⟨α, S, H⟩ ((f ρ S).bind fun x => M.ret [x]) _ _
  cases ef : f ρ S with
  | st => rw [ef] at q; exact q
  | ex x S => rw [ef] at q; exact q
  | ok x S1 =>
    rw [ef] at q
    refine fun α1 H1 vs e1 R1 r1 => ?_
    cases r1 with
    | cons r r' =>
      cases r'
      obtain ⟨w, d, eh, Rw, dv, q1⟩ := q α1 H1 _ e1 R1 r
      subst eh
      split at q1
      · split at q1
        · rename_i j hj
          cases dv
          exact ⟨j, rfl, hj.1, hj.2, q1 w.α w.H _ (Ext.refl _) Rw (yl_rng 0 j.toNat)⟩
        · exact False.elim q1
      · exact False.elim q1
/-! ### for -/
def forGo (g : Tg) (b : SD) : List D → SD
  | [] => sNil
  | d :: ds => fun ρ S => match g (.d d) ρ with
    | none => .st
    | some ρ1 => match b ρ1 S with
      | .nx ρ2 S2 => forGo g b ds ρ2 S2
      | .ct ρ2 S2 => forGo g b ds ρ2 S2
      | .bk ρ2 S2 => .nx ρ2 S2
      | .rt v S2 => .rt v S2
      | .ex x ρ2 S2 => .ex x ρ2 S2
      | .st => .st
def sFor (it : Env' → M (List D)) (g : Tg) (b : SD) : SD := fun ρ S => (it ρ S).then_ ρ fun ds S' => forGo g b ds ρ S'
theorem sd_for {it : Env' → M (List D)} {g : Tg} {b : SD} {is : List Nat} {body : List Stmt} (C : CxOk X n) (hp : PassesOwn (model X.prog X.w) X.A X.env X.xe) (hi : ID X W tg e it) (hg : GD X tg is g) (hb : BkD X W body b)
    (hs : ∀ x, foldedSetIterable e X.env x = pure x := by intro _; rfl) : StD X W (.For tg e body [] pos) (sFor it g b) := by
  refine PS.imp (ps_for hp C.hc hi hg hb hs) fun D σ H ⟨α, S, ρ, R, re, q⟩ => ⟨α, S, ρ, R, re, After.imp (AfterS.split (rel := Yields X.K X.mg) q re) (fun J H1 ⟨α1, S1, ds, e1, R1, y1, re1, q1⟩ => ?_) fun _ _ _ z => z⟩
  refine ⟨fun i m σ H => m = ds.length - i ∧ ∃ w ρ, w.H = H ∧ Ext ⟨α1, S1, H1⟩ w ∧ Rep X.K X.mg w ∧ RE X.K w σ ρ ∧ AfterS X.K X.mg w (forGo g b (ds.drop i) ρ w.S) D W, ⟨_, rfl, ⟨α1, S1, H1⟩, ρ, rfl, Ext.refl _, R1, re1, q1⟩, ?_⟩
  rintro i m σ2 H2 ⟨rfl, w, ρ2, rfl, e2, R2, re2, q2⟩
  obtain ⟨yg, ys⟩ := y1 w e2 R2 i
  cases ed : ds[i]? with
  | none =>
    have hl : ds.length ≤ i := List.getElem?_eq_none_iff.mp ed
    rw [List.drop_eq_nil_of_le hl] at q2
    exact .inl ⟨ys hl, q2 w.α w.H σ2 (Ext.refl _) R2 re2⟩
  | some d =>
    obtain ⟨hl, el⟩ := List.getElem?_eq_some_iff.mp ed
    have e3 : ds.drop i = d :: ds.drop (i + 1) := by rw [← el]; exact List.drop_eq_getElem_cons hl
    rw [e3] at q2
    unfold forGo at q2
    obtain ⟨go, yy⟩ := yg d ed
    refine .inr ⟨go, fun σ' H' => ∃ w ρ, w.H = H' ∧ Ext ⟨α1, S1, H1⟩ w ∧ Rep X.K X.mg w ∧ RE X.K w σ' ρ ∧ AfterS X.K X.mg w (forGo g b (ds.drop (i + 1)) ρ w.S) D W, fun σ' H' z => ⟨ds.length - (i + 1), by omega, rfl, z⟩, fun x H' yl => ?_⟩
    obtain ⟨ex, Rx, dx⟩ := yy x H' yl
    cases eg : g (.d d) ρ2 with
    | none => simp only [eg] at q2; exact False.elim q2
    | some ρ3 =>
      simp only [eg] at q2
      refine ⟨w.at H', .d d, ρ2, ρ3, rfl, Rx, re2.mono ex, dx, eg, fun H3 σ3 x3 R3 re3 _ => ⟨w.α, w.S, ρ3, R3, re3, ?_⟩⟩
      have x4 : Ext ⟨α1, S1, H1⟩ ⟨w.α, w.S, H3⟩ := (e2.trans ex).trans x3
      have x5 : Ext w ⟨w.α, w.S, H3⟩ := ex.trans x3
      cases eb : b ρ3 w.S with
      | st => rw [eb] at q2; exact q2
      | nx ρ4 S4 =>
        rw [eb] at q2
        exact fun α5 H5 σ5 x6 R6 re6 => ⟨⟨α5, S4, H5⟩, ρ4, rfl, x4.trans x6, R6, re6, AfterS.later q2 (x5.trans x6)⟩
      | ct ρ4 S4 =>
        rw [eb] at q2
        exact fun α5 H5 σ5 x6 R6 re6 => ⟨⟨α5, S4, H5⟩, ρ4, rfl, x4.trans x6, R6, re6, AfterS.later q2 (x5.trans x6)⟩
      | bk ρ4 S4 => rw [eb] at q2; exact fun α5 H5 σ5 x6 R6 re6 => q2 α5 H5 σ5 (x5.trans x6) R6 re6
      | rt v S4 => rw [eb] at q2; exact fun α5 H5 u x6 R6 ru => q2 α5 H5 u (x5.trans x6) R6 ru
      | ex x ρ4 S4 => rw [eb] at q2; exact fun α5 H5 σ5 c d x6 R6 re6 rx => q2 α5 H5 σ5 c d (x5.trans x6) R6 re6 rx
end
end Zz
set_option maxRecDepth 100000
set_option maxHeartbeats 4000000
namespace Zz
open PySem PySem.Spec PyProof.Rows L2
/-! ### list comprehensions -/
def wipeE (ρ : Env') : List Nat → Env'
  | [] => ρ
  | v :: vs => (wipeE ρ vs).set v none
theorem RE.wipe {K : PySem.W.Frag} {w : Wd} {σ : L2.St} {ρ : Env'} (h : RE K w σ ρ) : ∀ vs : List Nat, RE K w (L2.wipe σ vs) (wipeE ρ vs)
  | [] => h
  | v :: vs => (RE.wipe h vs).del v none
theorem wipe_wipe (σ : L2.St) (vs : List Nat) : L2.wipe (L2.wipe σ vs) vs = L2.wipe σ vs := wipe_eq (wipe_length σ vs) fun i hi => wipe_out hi
theorem frz_noex (x : Val) (S : List Cell) (y : Ex) (S' : List Cell) : frz x S ≠ .ex y S' := by
  cases x with
  | d x => intro h; cases h
  | f x => intro h; cases h
  | c l =>
    intro h
    unfold frz at h
    cases e : S[l]? with
    | none => simp only [e] at h; cases h
    | some c => cases c <;> (simp only [e] at h; cases h)
/-- frz, told apart -/
theorem frz_to {K : PySem.W.Frag} {mg : Str → Option Value} {w : Wd} {v : V} {x : Val} {d : D} {S : List Cell} (R : Rep K mg w) (r : RV K w v x) (h : frz x w.S = .ok d S) : Ext w ⟨w.α, S, w.H⟩ ∧ Rep K mg ⟨w.α, S, w.H⟩ ∧ Dv K (Wd.F ⟨w.α, S, w.H⟩) v d := by
  classical
  obtain ⟨S', d', e1, R1, dv, q⟩ := frz_ok (A' := Unit) (B' := Unit) (rel := fun _ _ _ => True) (k := fun d' S' => if d' = d ∧ S' = S then Res.ok () S' else Res.st) (Q := fun _ _ => True) (X := fun _ _ _ => True) R r (by
    rw [h]
    show After K mg _ w (if d = d ∧ S = S then Res.ok () S else Res.st) _ _
    rw [if_pos ⟨rfl, rfl⟩]
    exact fun _ _ _ _ _ _ => trivial)
  by_cases z : d' = d ∧ S' = S
  · obtain ⟨rfl, rfl⟩ := z
    exact ⟨e1, R1, dv⟩
  · rw [if_neg z] at q
    exact False.elim q
/-- a turn's deed: of the environment and the store -/
abbrev Kt := Env' → List Cell → Option (List Cell)
def lcGo (g : Tg) (k : Kt) (ρ0 : Env') : List D → List Cell → Option (List Cell)
  | [], T => some T
  | d :: ds, T => (g (.d d) ρ0).bind fun ρ1 => (k ρ1 T).bind (lcGo g k ρ0 ds)
def push (l : Nat) (y : D) (T : List Cell) : Option (List Cell) := match T[l]? with
  | some (.lst acc) => if acc.length < 16777216 then some (T.set l (.lst (acc ++ [y]))) else none
  | _ => none
def kTest (ts : Env' → M Bool) (k : Kt) : Kt := fun ρ T => match ts ρ T with
  | .ok b T1 => if b = true then k ρ T1 else some T1
  | _ => none
def kPush (l : Nat) (f : Env' → M Val) : Kt := fun ρ T => match (f ρ T).bind frz with
  | .ok d T2 => push l d T2
  | _ => none
def kFor (it : Env' → M (List D)) (g : Tg) (k : Kt) (vs : List Nat) : Kt := fun ρ T => match it ρ T with
  | .ok ds T1 => lcGo g k (wipeE ρ vs) ds T1
  | _ => none
def lcEnd (l : Nat) : Option (List Cell) → Res Val
  | some T => (frz (.c l) T).bind fun d T' => .ok (.d d) (T'.take l)
  | none => .st
def dLc (it : Env' → M (List D)) (g : Tg) (k : Nat → Kt) (vs : List Nat) : Env' → M Val := fun ρ => (it ρ).bind fun ds S => lcEnd S.length (lcGo g (k S.length) (wipeE ρ vs) ds (S ++ [.lst []]))
/-- the list stays a cell -/
def lcEndC (l : Nat) : Option (List Cell) → Res Val
  | some T => .ok (.c l) T
  | none => .st
def dLcC (it : Env' → M (List D)) (g : Tg) (k : Nat → Kt) (vs : List Nat) : Env' → M Val := fun ρ => (it ρ).bind fun ds S => lcEndC S.length (lcGo g (k S.length) (wipeE ρ vs) ds (S ++ [.lst []]))
abbrev W0 : WX := fun _ _ _ _ => False
section
variable {K : PySem.W.Frag} {mg : Str → Option Value} {w0 w1 : Wd}
theorem loop_ok {J : It} {ds : List D} {g : Tg} {k : Kt} {ρ0 : Env'} {σ0 : L2.St} {T' : List Cell} {body : V → Hp → (Hp → Prop) → Prop} {Qs : Hp → Prop} (y : Yields K mg w0 J ds) (e01 : Ext w0 w1) (R1 : Rep K mg w1) (re : RE K w1 σ0 ρ0) (hgo : lcGo g k ρ0 ds w1.S = some T')
    (turn : ∀ (w : Wd) (x : V) (d : D) (ρ1 : Env') (T1 : List Cell) (Nx : Hp → Prop), Ext w1 w → Rep K mg w → Dv K w.F x d → g (.d d) ρ0 = some ρ1 → k ρ1 w.S = some T1 → RE K w σ0 ρ0 → (∀ w', Ext w w' → Rep K mg w' → w'.S = T1 → Nx w'.H) → body x w.H Nx)
    (hstop : ∀ w, Ext w1 w → Rep K mg w → w.S = T' → Qs w.H) :
    ∃ W : Nat → Nat → Hp → Prop, (∃ m, W 0 m w1.H) ∧ ∀ i m H, W i m H → (J.stop i H ∧ Qs H) ∨ (J.go i H ∧ ∃ Nx : Hp → Prop, (∀ H', Nx H' → ∃ m', m' < m ∧ W (i + 1) m' H') ∧ ∀ x H', J.yld i H x H' → body x H' Nx) := by
  refine ⟨fun i m H => m = ds.length - i ∧ ∃ w, w.H = H ∧ Ext w1 w ∧ Rep K mg w ∧ lcGo g k ρ0 (ds.drop i) w.S = some T', ⟨_, rfl, w1, rfl, Ext.refl _, R1, hgo⟩, ?_⟩
  rintro i m H ⟨rfl, w, rfl, e2, R2, q2⟩
  obtain ⟨yg, ys⟩ := y w (e01.trans e2) R2 i
  cases ed : ds[i]? with
  | none =>
    have hl : ds.length ≤ i := List.getElem?_eq_none_iff.mp ed
    rw [List.drop_eq_nil_of_le hl] at q2
    cases q2
    exact .inl ⟨ys hl, hstop w e2 R2 rfl⟩
  | some d =>
    obtain ⟨hl, el⟩ := List.getElem?_eq_some_iff.mp ed
    have e3 : ds.drop i = d :: ds.drop (i + 1) := by rw [← el]; exact List.drop_eq_getElem_cons hl
    rw [e3] at q2
    unfold lcGo at q2
    obtain ⟨ρ1, eg, q3⟩ := Option.bind_eq_some_iff.mp q2
    obtain ⟨T1, ek, q4⟩ := Option.bind_eq_some_iff.mp q3
    obtain ⟨go, yy⟩ := yg d ed
    refine .inr ⟨go, fun H' => ∃ w, w.H = H' ∧ Ext w1 w ∧ Rep K mg w ∧ lcGo g k ρ0 (ds.drop (i + 1)) w.S = some T', fun H' z => ⟨ds.length - (i + 1), by omega, rfl, z⟩, fun x H' yl => ?_⟩
    obtain ⟨ex, Rx, dx⟩ := yy x H' yl
    exact turn (w.at H') x d ρ1 T1 _ (e2.trans ex) Rx dx eg ek (re.mono (e2.trans ex)) fun w' e5 R5 e6 => ⟨w', rfl, (e2.trans ex).trans e5, R5, by rw [e6]; exact q4⟩
/-- one more item -/
theorem push_ok {w : Wd} {l : Nat} {a : Addr} {d : D} {v : V} {T : List Cell} (R : Rep K mg w) (ha : w.α[l]? = some a) (dv : Dv K w.F v d) (h : push l d w.S = some T) : ∃ acc, w.H a = some (.lst acc) ∧ acc.length < sizeLine ∧ Rep K mg ⟨w.α, T, upd w.H a (.lst (acc ++ [v]))⟩ ∧ Ext w ⟨w.α, T, upd w.H a (.lst (acc ++ [v]))⟩ := by
  unfold push at h
  split at h
  · rename_i ds hs
    split at h
    · rename_i hz
      cases h
      obtain ⟨xs, h1, h2⟩ := R.at_ l a _ ha hs
      exact ⟨xs, h1, by rw [sizeLine_eq, h2.length]; exact hz, R.write ha hs rfl rfl ⟨_, upd_same, h2.append (.cons dv .nil)⟩⟩
    · cases h
  · cases h
theorem kpush_ok {W : WX} {f : Env' → M Val} {l : Nat} {a : Addr} {w : Wd} {σ : L2.St} {ρ : Env'} {T : List Cell} {Nx : Hp → Prop} (R : Rep K mg w) (re : RE K w σ ρ) (ha : w.α[l]? = some a) (h : kPush l f ρ w.S = some T) (q : ∀ w', Ext w w' → Rep K mg w' → w'.S = T → Nx w'.H) :
    tD K mg W f σ w.H fun y H4 => ∃ acc, H4 a = some (.lst acc) ∧ acc.length < sizeLine ∧ Nx (upd H4 a (.lst (acc ++ [y]))) := by
  refine ⟨w.α, w.S, ρ, R, re, ?_⟩
  unfold kPush at h
  cases ef : f ρ w.S with
  | st => rw [ef] at h; cases h
  | ex x S => rw [ef] at h; cases h
  | ok v S =>
    rw [ef] at h
    refine fun α H b e1 R1 r1 => ?_
    have h' : (match frz v S with | .ok d T2 => push l d T2 | _ => none) = some T := h
    cases ez : frz v S with
    | st => rw [ez] at h'; cases h'
    | ex x S => rw [ez] at h'; cases h'
    | ok d S2 =>
      rw [ez] at h'
      obtain ⟨e2, R2, dv⟩ := frz_to (w := ⟨α, S, H⟩) R1 r1 ez
      obtain ⟨acc, h1, h2, R3, e3⟩ := push_ok (w := ⟨α, S2, H⟩) R2 (e1.at_ ha) dv h'
      exact ⟨acc, h1, h2, q ⟨α, T, _⟩ ((e1.trans e2).trans e3) R3 rfl⟩
theorem ktest_ok {W : WX} {ts : Env' → M Bool} {k : Kt} {w : Wd} {σ : L2.St} {ρ : Env'} {T : List Cell} {Qt : Bool → Hp → Prop} (R : Rep K mg w) (re : RE K w σ ρ) (h : kTest ts k ρ w.S = some T)
    (qt : ∀ w', Ext w w' → Rep K mg w' → RE K w' σ ρ → k ρ w'.S = some T → Qt true w'.H) (qf : ∀ w', Ext w w' → Rep K mg w' → w'.S = T → Qt false w'.H) : tDt K mg W ts σ w.H Qt := by
  refine ⟨w.α, w.S, ρ, R, re, ?_⟩
  unfold kTest at h
  cases ef : ts ρ w.S with
  | st => rw [ef] at h; cases h
  | ex x S => rw [ef] at h; cases h
  | ok b S =>
    rw [ef] at h
    refine fun α H b' e1 R1 r1 => ?_
    subst r1
    cases b' with
    | true => exact qt ⟨α, S, H⟩ e1 R1 (re.mono e1) (by simpa using h)
    | false => exact qf ⟨α, S, H⟩ e1 R1 (by simpa using h)
/-- the end, as data or as a cell -/
theorem lcEnd_ok {w w' : Wd} {l : Nat} {a : Addr} {Q : VK} {E : XK} (R : Rep K mg w) (R' : Rep K mg w') (e : Ext w w') (hl : w.S.length = l) (ha : w'.α[l]? = some a) (q : After K mg (RV K) w (lcEnd l (some w'.S)) Q E) : Q (.ref a) w'.H := by
  have q' : After K mg (RV K) w ((frz (.c l) w'.S).bind fun d T' => .ok (.d d) (T'.take l)) Q E := q
  cases ez : frz (.c l) w'.S with
  | st => rw [ez] at q'; exact False.elim q'
  | ex x S =>
    exact absurd ez (frz_noex _ _ _ _)
  | ok d S2 =>
    rw [ez] at q'
    obtain ⟨e2, R2, dv⟩ := frz_to (x := .c l) (v := .ref a) R' ⟨a, ha, rfl⟩ ez
    subst hl
    exact q' _ _ _ (Ext.cut R R2 (e.trans e2)) (R2.cut _).1 (Dv.mono (R2.cut w.S.length).2 dv)
end
section
variable {X : Cx} {n : Nat} {W : WX} {pos p : Pos} {tg e elt : Expr} {ifs : List Expr} {scope : Scope} {own : List (Str × Nat)} {f : Env' → M Val} {it : Env' → M (List D)} {g : Tg} {ts : Env' → M Bool} {is : List Nat}
theorem PTs.imp {t t' : TT} (h : PTs X ifs t) (k : ∀ σ H Q, t' σ H Q → t σ H Q) : PTs X ifs t' := ⟨fun pins s σ H Q I q => h.run pins s σ H Q I (k σ H Q q)⟩
theorem td_nil : PTs X [] (tDt X.K X.mg W fun _ => M.ret true) := PTs.imp pts_nil fun σ H Q ⟨α, S, ρ, R, re, q⟩ => q α H true (Ext.refl _) R rfl
theorem td_one {c : Expr} (h : TDt X W c ts) : PTs X [c] (tDt X.K X.mg W ts) := pts_one h
theorem lcQ {k : Nat → Kt} {fin : Nat → Option (List Cell) → Res Val} {vs : List Nat} {σ : L2.St} {H : Hp} {Q : VK} (hin : ∀ i ∈ is, i ∈ vs) (hk : k = fun l => kTest ts (kPush l f)) (hf0 : ∀ l, fin l none = .st)
    (hfin : ∀ (w w' : Wd) (l : Nat) (a : Addr), Rep X.K X.mg w → Rep X.K X.mg w' → Ext w w' → w.S.length = l → w'.α[l]? = some a → After X.K X.mg (RV X.K) w (fin l (some w'.S)) Q (fun c d H' => W c d σ H') → Q (.ref a) w'.H)
    (q : tD X.K X.mg W (fun ρ => (it ρ).bind fun ds S => fin S.length (lcGo g (k S.length) (wipeE ρ vs) ds (S ++ [.lst []]))) σ H Q) :
    tLc (tI X.K X.mg W it) (tG X.K X.mg is g) (tDt X.K X.mg W0 ts) (tD X.K X.mg W0 f) vs σ H Q := by
  subst hk
  obtain ⟨α, S, ρ, R, re, q⟩ := q
  refine ⟨α, S, ρ, R, re, After.imp (After.split (rel := Yields X.K X.mg) q) (fun J H1 ⟨α1, S1, ds, e1, R1, y1, q1⟩ => ?_) fun _ _ _ z => z⟩
  intro D hD
  obtain ⟨Rc, ec⟩ := R1.cell hD (c := .lst []) rfl ⟨[], upd_same, .nil⟩
  have ha : ((α1 ++ [D]) : List Addr)[S1.length]? = some D := by
    rw [List.getElem?_append_right (by rw [R1.len]; exact Nat.le_refl _), R1.len, Nat.sub_self]; rfl
  cases eg : lcGo g (kTest ts (kPush S1.length f)) (wipeE ρ vs) ds (S1 ++ [.lst []]) with
  | none => rw [eg, hf0] at q1; exact False.elim q1
  | some T' =>
    rw [eg] at q1
    have re1 : RE X.K ⟨α1 ++ [D], S1 ++ [.lst []], upd H1 D (.lst [])⟩ (L2.wipe σ vs) (wipeE ρ vs) := ((re.mono e1).mono ec).wipe vs
    refine loop_ok (w0 := ⟨α1, S1, H1⟩) (w1 := ⟨α1 ++ [D], S1 ++ [.lst []], upd H1 D (.lst [])⟩) (body := fun x H' Nx => tG X.K X.mg is g x (L2.wipe σ vs) H' fun σ2 H2 => L2.wipe σ2 vs = L2.wipe σ vs ∧ tDt X.K X.mg W0 ts σ2 H2 fun b H3 =>
      if b = true then tD X.K X.mg W0 f σ2 H3 fun y H4 => ∃ acc, H4 D = some (.lst acc) ∧ acc.length < sizeLine ∧ Nx (upd H4 D (.lst (acc ++ [y]))) else Nx H3) y1 ec Rc re1 eg
      (fun w x d ρ1 T1 Nx ew Rw dv hg hk rew hn => ?_) fun w ew Rw es => ?_
    · refine ⟨w, .d d, _, ρ1, rfl, Rw, rew, dv, hg, fun H2 σ2 x2 R2 re2 o2 => ⟨by rw [o2.wipe hin, wipe_wipe], ?_⟩⟩
      refine ktest_ok (w := w.at H2) R2 re2 hk (fun w' e3 R3 re3 hk3 => ?_) fun w' e3 R3 e4 => ?_
      · simp only [if_true]
        exact kpush_ok R3 re3 (((ew.trans x2).trans e3).at_ ha) hk3 fun w5 e5 R5 e6 => hn w5 ((x2.trans e3).trans e5) R5 e6
      · simp only [Bool.false_eq_true, if_false]
        exact hn w' (x2.trans e3) R3 e4
    · subst es
      exact hfin ⟨α1, S1, H1⟩ w S1.length D R1 Rw (ec.trans ew) rfl (ew.at_ ha) q1
/-- a block's context -/
abbrev bx (X : Cx) (s : Shared) (H : Hp) (scope : Scope) (cl : List (Str × Addr)) (C : Addr) (fp : List Addr) : Cx := X.blk s H scope (compEnvC scope cl C X.env) fp
theorem ed_lc (C : CxOk X n) (hi : ID X W tg e it) (ok : BlkOk X.N X.env.scope scope own) (hin : ∀ i ∈ is, i ∈ own.map (·.2))
    (hg : ∀ s H C cl fp, GD (bx X s H scope cl C fp) tg is g) (ht : ∀ s H C cl fp, PTs (bx X s H scope cl C fp) ifs (tDt X.K X.mg W0 ts)) (he : ∀ s H C cl fp, ED (bx X s H scope cl C fp) W0 elt f)
    (hs : ∀ x, foldedSetIterable e X.env x = pure x := by intro _; rfl) : ED X W (.ListComp elt [⟨tg, e, ifs, 0⟩] scope pos) (dLc it g (fun l => kTest ts (kPush l f)) (own.map (·.2))) :=
  PE.imp (pe_lc C.hc C.hN hi ok hg ht he hs) fun σ H Q q => lcQ (fin := lcEnd) hin rfl (fun _ => rfl) (fun w w' l a R R' e hl ha q => lcEnd_ok R R' e hl ha q) q
theorem ed_lcC (C : CxOk X n) (hi : ID X W tg e it) (ok : BlkOk X.N X.env.scope scope own) (hin : ∀ i ∈ is, i ∈ own.map (·.2))
    (hg : ∀ s H C cl fp, GD (bx X s H scope cl C fp) tg is g) (ht : ∀ s H C cl fp, PTs (bx X s H scope cl C fp) ifs (tDt X.K X.mg W0 ts)) (he : ∀ s H C cl fp, ED (bx X s H scope cl C fp) W0 elt f)
    (hs : ∀ x, foldedSetIterable e X.env x = pure x := by intro _; rfl) : ED X W (.ListComp elt [⟨tg, e, ifs, 0⟩] scope pos) (dLcC it g (fun l => kTest ts (kPush l f)) (own.map (·.2))) :=
  PE.imp (pe_lc C.hc C.hN hi ok hg ht he hs) fun σ H Q q => lcQ (fin := lcEndC) hin rfl (fun _ => rfl) (fun w w' l a R R' e hl ha q => q _ _ _ e R' ⟨a, ha, rfl⟩) q
/-- name = [..] -/
theorem setQ {i : Nat} {f : Env' → M Val} {D : Ends} {σ : L2.St} {H : Hp} (q : tS X.K X.mg W (sSet i f) D σ H) : tD X.K X.mg W f σ H fun v H' => D.nx (σ.set i (some v)) H' := by
  obtain ⟨α, S, ρ, R, re, q⟩ := q
  exact ⟨α, S, ρ, R, re, After.imp (AfterS.split (rel := RV X.K) q re) (fun v H' ⟨α', S', a, e1, R1, r1, re1, q1⟩ => q1 α' H' _ (Ext.refl _) R1 (re1.set r1 i)) fun _ _ _ z => z⟩
theorem sd_setLc {i : Nat} {y : Str} {py spos : Pos} (C : CxOk X n) (hi : ID X W tg e it) (ok : BlkOk X.N X.env.scope scope own) (hin : ∀ i ∈ is, i ∈ own.map (·.2))
    (hg : ∀ s H C cl fp, GD (bx X s H scope cl C fp) tg is g) (ht : ∀ s H C cl fp, PTs (bx X s H scope cl C fp) ifs (tDt X.K X.mg W0 ts)) (he : ∀ s H C cl fp, ED (bx X s H scope cl C fp) W0 elt f)
    (hy : X.N[i]? = some y := by rfl) (hyl : X.env.scope.names.lookup y = some .local := by rfl) (hsw : swapsWith (.ListComp elt [⟨tg, e, ifs, 0⟩] scope pos) (some (.Name y py)) spos.line X.env = pure true)
    (hs : ∀ x, foldedSetIterable e X.env x = pure x := by intro _; rfl) : StD X W (.Assign [.Name y py] (.ListComp elt [⟨tg, e, ifs, 0⟩] scope pos) spos) (sSet i (dLc it g (fun l => kTest ts (kPush l f)) (own.map (·.2)))) :=
  PS.imp (ps_setLc C.hc C.hN hy hyl hsw hi ok hg ht he hs) fun D σ H q => lcQ (fin := lcEnd) hin rfl (fun _ => rfl) (fun w w' l a R R' e hl ha q => lcEnd_ok R R' e hl ha q) (setQ q)
theorem sd_setLcC {i : Nat} {y : Str} {py spos : Pos} (C : CxOk X n) (hi : ID X W tg e it) (ok : BlkOk X.N X.env.scope scope own) (hin : ∀ i ∈ is, i ∈ own.map (·.2))
    (hg : ∀ s H C cl fp, GD (bx X s H scope cl C fp) tg is g) (ht : ∀ s H C cl fp, PTs (bx X s H scope cl C fp) ifs (tDt X.K X.mg W0 ts)) (he : ∀ s H C cl fp, ED (bx X s H scope cl C fp) W0 elt f)
    (hy : X.N[i]? = some y := by rfl) (hyl : X.env.scope.names.lookup y = some .local := by rfl) (hsw : swapsWith (.ListComp elt [⟨tg, e, ifs, 0⟩] scope pos) (some (.Name y py)) spos.line X.env = pure true)
    (hs : ∀ x, foldedSetIterable e X.env x = pure x := by intro _; rfl) : StD X W (.Assign [.Name y py] (.ListComp elt [⟨tg, e, ifs, 0⟩] scope pos) spos) (sSet i (dLcC it g (fun l => kTest ts (kPush l f)) (own.map (·.2)))) :=
  PS.imp (ps_setLc C.hc C.hN hy hyl hsw hi ok hg ht he hs) fun D σ H q => lcQ (fin := lcEndC) hin rfl (fun _ => rfl) (fun w w' l a R R' e hl ha q => q _ _ _ e R' ⟨a, ha, rfl⟩) (setQ q)
end
end Zz
set_option maxRecDepth 100000
set_option maxHeartbeats 4000000
namespace Zz
open PySem PySem.Spec PyProof.Rows L2
section
variable {X : Cx} {n : Nat} {W : WX} {pos p : Pos} {tg e tg1 e1 elt : Expr} {ifs ifs1 : List Expr} {scope : Scope} {own : List (Str × Nat)} {f : Env' → M Val} {it it1 : Env' → M (List D)} {g g1 : Tg} {ts ts1 : Env' → M Bool} {is is1 vs1 : List Nat}
theorem lc2Q {k : Nat → Kt} {fin : Nat → Option (List Cell) → Res Val} {vs : List Nat} {σ : L2.St} {H : Hp} {Q : VK} (hin : ∀ i ∈ is, i ∈ vs) (hin1 : ∀ i ∈ is1, i ∈ vs1) (hk : k = fun l => kTest ts (kFor it1 g1 (kTest ts1 (kPush l f)) vs1)) (hf0 : ∀ l, fin l none = .st)
    (hfin : ∀ (w w' : Wd) (l : Nat) (a : Addr), Rep X.K X.mg w → Rep X.K X.mg w' → Ext w w' → w.S.length = l → w'.α[l]? = some a → After X.K X.mg (RV X.K) w (fin l (some w'.S)) Q (fun c d H' => W c d σ H') → Q (.ref a) w'.H)
    (q : tD X.K X.mg W (fun ρ => (it ρ).bind fun ds S => fin S.length (lcGo g (k S.length) (wipeE ρ vs) ds (S ++ [.lst []]))) σ H Q) :
    tLc2 (tI X.K X.mg W it) (tG X.K X.mg is g) (tDt X.K X.mg W0 ts) (tI X.K X.mg W0 it1) (tG X.K X.mg is1 g1) (tDt X.K X.mg W0 ts1) (tD X.K X.mg W0 f) vs vs1 σ H Q := by
  subst hk
  obtain ⟨α, S, ρ, R, re, q⟩ := q
  refine ⟨α, S, ρ, R, re, After.imp (After.split (rel := Yields X.K X.mg) q) (fun J H1 ⟨α1, S1, ds, e1, R1, y1, q1⟩ => ?_) fun _ _ _ z => z⟩
  intro D hD
  obtain ⟨Rc, ec⟩ := R1.cell hD (c := .lst []) rfl ⟨[], upd_same, .nil⟩
  have ha : ((α1 ++ [D]) : List Addr)[S1.length]? = some D := by
    rw [List.getElem?_append_right (by rw [R1.len]; exact Nat.le_refl _), R1.len, Nat.sub_self]; rfl
  cases eg : lcGo g (kTest ts (kFor it1 g1 (kTest ts1 (kPush S1.length f)) vs1)) (wipeE ρ vs) ds (S1 ++ [.lst []]) with
  | none => rw [eg, hf0] at q1; exact False.elim q1
  | some T' =>
    rw [eg] at q1
    have re1 : RE X.K ⟨α1 ++ [D], S1 ++ [.lst []], upd H1 D (.lst [])⟩ (L2.wipe σ vs) (wipeE ρ vs) := ((re.mono e1).mono ec).wipe vs
    refine loop_ok (w0 := ⟨α1, S1, H1⟩) (w1 := ⟨α1 ++ [D], S1 ++ [.lst []], upd H1 D (.lst [])⟩) (body := fun x H' Nx => tG X.K X.mg is g x (L2.wipe σ vs) H' fun σ2 H2 => L2.wipe σ2 vs = L2.wipe σ vs ∧ tDt X.K X.mg W0 ts σ2 H2 fun b H3 =>
      if b = true then tI X.K X.mg W0 it1 σ2 H3 fun J1 H4 => ∃ W1 : Nat → Nat → Hp → Prop, (∃ m, W1 0 m H4) ∧ ∀ j k H, W1 j k H →
      (J1.stop j H ∧ Nx H) ∨ (J1.go j H ∧ ∃ Nx1 : Hp → Prop, (∀ H', Nx1 H' → ∃ k', k' < k ∧ W1 (j + 1) k' H') ∧ ∀ x H', J1.yld j H x H' → tG X.K X.mg is1 g1 x (L2.wipe σ2 vs1) H' fun σ3 H5 => L2.wipe σ3 vs1 = L2.wipe σ2 vs1 ∧ tDt X.K X.mg W0 ts1 σ3 H5 fun b H6 =>
        if b = true then tD X.K X.mg W0 f σ3 H6 fun y H7 => ∃ acc, H7 D = some (.lst acc) ∧ acc.length < sizeLine ∧ Nx1 (upd H7 D (.lst (acc ++ [y]))) else Nx1 H6)
      else Nx H3) y1 ec Rc re1 eg
      (fun w x d ρ1 T1 Nx ew Rw dv hg hk rew hn => ?_) fun w ew Rw es => ?_
    · refine ⟨w, .d d, _, ρ1, rfl, Rw, rew, dv, hg, fun H2 σ2 x2 R2 re2 o2 => ⟨by rw [o2.wipe hin, wipe_wipe], ?_⟩⟩
      refine ktest_ok (w := w.at H2) R2 re2 hk (fun w' e3 R3 re3 hk3 => ?_) fun w' e3 R3 e4 => ?_
      · simp only [if_true]
        refine ⟨w'.α, w'.S, ρ1, R3, re3, ?_⟩
        unfold kFor at hk3
        cases ei : it1 ρ1 w'.S with
        | st => rw [ei] at hk3; cases hk3
        | ex x S => rw [ei] at hk3; cases hk3
        | ok ds1 T3 =>
          rw [ei] at hk3
          refine fun α4 H4 J1 e4 R4 y4 => ?_
          have e24 : Ext w ⟨α4, T3, H4⟩ := (x2.trans e3).trans e4
          refine loop_ok (w0 := ⟨α4, T3, H4⟩) (w1 := ⟨α4, T3, H4⟩) (body := fun x H' Nx1 => tG X.K X.mg is1 g1 x (L2.wipe σ2 vs1) H' fun σ3 H5 => L2.wipe σ3 vs1 = L2.wipe σ2 vs1 ∧ tDt X.K X.mg W0 ts1 σ3 H5 fun b H6 =>
            if b = true then tD X.K X.mg W0 f σ3 H6 fun y H7 => ∃ acc, H7 D = some (.lst acc) ∧ acc.length < sizeLine ∧ Nx1 (upd H7 D (.lst (acc ++ [y]))) else Nx1 H6) y4 (Ext.refl _) R4 ((re3.mono e4).wipe vs1) hk3
            (fun w5 x5 d5 ρ5 T5 Nx5 ew5 Rw5 dv5 hg5 hk5 rew5 hn5 => ?_) fun w5 ew5 Rw5 es5 => hn w5 (e24.trans ew5) Rw5 es5
          refine ⟨w5, .d d5, _, ρ5, rfl, Rw5, rew5, dv5, hg5, fun H6 σ6 x6 R6 re6 o6 => ⟨by rw [o6.wipe hin1, wipe_wipe], ?_⟩⟩
          refine ktest_ok (w := w5.at H6) R6 re6 hk5 (fun w7 e7 R7 re7 hk7 => ?_) fun w7 e7 R7 es7 => ?_
          · simp only [if_true]
            exact kpush_ok R7 re7 (((((ew.trans e24).trans ew5).trans x6).trans e7).at_ ha) hk7 fun w8 e8 R8 es8 => hn5 w8 ((x6.trans e7).trans e8) R8 es8
          · simp only [Bool.false_eq_true, if_false]
            exact hn5 w7 (x6.trans e7) R7 es7
      · simp only [Bool.false_eq_true, if_false]
        exact hn w' (x2.trans e3) R3 e4
    · subst es
      exact hfin ⟨α1, S1, H1⟩ w S1.length D R1 Rw (ec.trans ew) rfl (ew.at_ ha) q1
theorem ed_lc2 (C : CxOk X n) (hi : ID X W tg e it) (ok : BlkOk X.N X.env.scope scope own) (hin : ∀ i ∈ is, i ∈ own.map (·.2)) (hin1 : ∀ i ∈ is1, i ∈ vs1) (hv : ∀ i ∈ vs1, i ∈ own.map (·.2))
    (hg : ∀ s H C cl fp, GD (bx X s H scope cl C fp) tg is g) (ht : ∀ s H C cl fp, PTs (bx X s H scope cl C fp) ifs (tDt X.K X.mg W0 ts)) (hi1 : ∀ s H C cl fp, ID (bx X s H scope cl C fp) W0 tg1 e1 it1)
    (hg1 : ∀ s H C cl fp, GD (bx X s H scope cl C fp) tg1 is1 g1) (ht1 : ∀ s H C cl fp, PTs (bx X s H scope cl C fp) ifs1 (tDt X.K X.mg W0 ts1)) (he : ∀ s H C cl fp, ED (bx X s H scope cl C fp) W0 elt f)
    (hs : ∀ x, foldedSetIterable e X.env x = pure x := by intro _; rfl) (hs1 : ∀ env x, foldedSetIterable e1 env x = pure x := by intro _ _; rfl) :
    ED X W (.ListComp elt [⟨tg, e, ifs, 0⟩, ⟨tg1, e1, ifs1, 0⟩] scope pos) (dLc it g (fun l => kTest ts (kFor it1 g1 (kTest ts1 (kPush l f)) vs1)) (own.map (·.2))) :=
  PE.imp (pe_lc2 C.hc C.hN hi ok hv hg ht hi1 hg1 ht1 he hs hs1) fun σ H Q q => lc2Q (fin := lcEnd) hin hin1 rfl (fun _ => rfl) (fun w w' l a R R' e hl ha q => lcEnd_ok R R' e hl ha q) q
theorem ed_lc2C (C : CxOk X n) (hi : ID X W tg e it) (ok : BlkOk X.N X.env.scope scope own) (hin : ∀ i ∈ is, i ∈ own.map (·.2)) (hin1 : ∀ i ∈ is1, i ∈ vs1) (hv : ∀ i ∈ vs1, i ∈ own.map (·.2))
    (hg : ∀ s H C cl fp, GD (bx X s H scope cl C fp) tg is g) (ht : ∀ s H C cl fp, PTs (bx X s H scope cl C fp) ifs (tDt X.K X.mg W0 ts)) (hi1 : ∀ s H C cl fp, ID (bx X s H scope cl C fp) W0 tg1 e1 it1)
    (hg1 : ∀ s H C cl fp, GD (bx X s H scope cl C fp) tg1 is1 g1) (ht1 : ∀ s H C cl fp, PTs (bx X s H scope cl C fp) ifs1 (tDt X.K X.mg W0 ts1)) (he : ∀ s H C cl fp, ED (bx X s H scope cl C fp) W0 elt f)
    (hs : ∀ x, foldedSetIterable e X.env x = pure x := by intro _; rfl) (hs1 : ∀ env x, foldedSetIterable e1 env x = pure x := by intro _ _; rfl) :
    ED X W (.ListComp elt [⟨tg, e, ifs, 0⟩, ⟨tg1, e1, ifs1, 0⟩] scope pos) (dLcC it g (fun l => kTest ts (kFor it1 g1 (kTest ts1 (kPush l f)) vs1)) (own.map (·.2))) :=
  PE.imp (pe_lc2 C.hc C.hN hi ok hv hg ht hi1 hg1 ht1 he hs hs1) fun σ H Q q => lc2Q (fin := lcEndC) hin hin1 rfl (fun _ => rfl) (fun w w' l a R R' e hl ha q => q _ _ _ e R' ⟨a, ha, rfl⟩) q
theorem sd_setLc2 {i : Nat} {y : Str} {py spos : Pos} (C : CxOk X n) (hi : ID X W tg e it) (ok : BlkOk X.N X.env.scope scope own) (hin : ∀ i ∈ is, i ∈ own.map (·.2)) (hin1 : ∀ i ∈ is1, i ∈ vs1) (hv : ∀ i ∈ vs1, i ∈ own.map (·.2))
    (hg : ∀ s H C cl fp, GD (bx X s H scope cl C fp) tg is g) (ht : ∀ s H C cl fp, PTs (bx X s H scope cl C fp) ifs (tDt X.K X.mg W0 ts)) (hi1 : ∀ s H C cl fp, ID (bx X s H scope cl C fp) W0 tg1 e1 it1)
    (hg1 : ∀ s H C cl fp, GD (bx X s H scope cl C fp) tg1 is1 g1) (ht1 : ∀ s H C cl fp, PTs (bx X s H scope cl C fp) ifs1 (tDt X.K X.mg W0 ts1)) (he : ∀ s H C cl fp, ED (bx X s H scope cl C fp) W0 elt f)
    (hy : X.N[i]? = some y := by rfl) (hyl : X.env.scope.names.lookup y = some .local := by rfl) (hsw : swapsWith (.ListComp elt [⟨tg, e, ifs, 0⟩, ⟨tg1, e1, ifs1, 0⟩] scope pos) (some (.Name y py)) spos.line X.env = pure true)
    (hs : ∀ x, foldedSetIterable e X.env x = pure x := by intro _; rfl) (hs1 : ∀ env x, foldedSetIterable e1 env x = pure x := by intro _ _; rfl) :
    StD X W (.Assign [.Name y py] (.ListComp elt [⟨tg, e, ifs, 0⟩, ⟨tg1, e1, ifs1, 0⟩] scope pos) spos) (sSet i (dLc it g (fun l => kTest ts (kFor it1 g1 (kTest ts1 (kPush l f)) vs1)) (own.map (·.2)))) :=
  PS.imp (ps_setLc2 C.hc C.hN hy hyl hsw hi ok hv hg ht hi1 hg1 ht1 he hs hs1) fun D σ H q => lc2Q (fin := lcEnd) hin hin1 rfl (fun _ => rfl) (fun w w' l a R R' e hl ha q => lcEnd_ok R R' e hl ha q) (setQ q)
/-! ### (x, *xs) -/
/-- the items of a sequence, then the rest -/
def dStar (f : Env' → M Val) (g : Env' → M (List Val)) : Env' → M (List Val) := fun ρ => (f ρ).bind fun x => (frz x).bind fun d => match d with
  | .tuple ds => (g ρ).bind fun xs => M.ret (ds.map .d ++ xs)
  | .list ds => (g ρ).bind fun xs => M.ret (ds.map .d ++ xs)
  | _ => M.st
theorem rvs_of {K : PySem.W.Frag} {w : Wd} : ∀ {vs : List V} {ds : List D}, DvAll K w.F vs ds → RVs K w vs (ds.map .d)
  | _, _, .nil => .nil
  | _, _, .cons a b => .cons a (rvs_of b)
theorem RVs.append {K : PySem.W.Frag} {w : Wd} : ∀ {vs us : List V} {xs ys : List Val}, RVs K w vs xs → RVs K w us ys → RVs K w (vs ++ us) (xs ++ ys)
  | _, _, _, _, .nil, h => h
  | _, _, _, _, .cons a b, h => .cons a (RVs.append b h)
theorem ad_star {es : List Expr} {h : Env' → M (List Val)} (he : ED X W e f) (hr : AD X W es h) (hs : starEach (.Starred e p :: es) X.env = (true, eval e X.env) :: starEach es X.env := by rfl) : AD X W (.Starred e p :: es) (dStar f h) :=
  PA.imp (StX.pa_star he hr hs) fun σ H Q ⟨α, S, ρ, R, re, q⟩ => ⟨α, S, ρ, R, re, After.imp (After.split (rel := RV X.K) q) (fun v H1 ⟨α1, S1, x, e1, R1, r1, q1⟩ => by
    obtain ⟨S2, d, e2, R2, dv, q2⟩ := frz_ok (w := ⟨α1, S1, H1⟩) R1 r1 q1
    have fin : ∀ {a : Addr} {vs : List V} {ds : List D}, DvAll X.K (Wd.F ⟨α1, S2, H1⟩) vs ds → After X.K X.mg (RVs X.K) ⟨α1, S2, H1⟩ ((h ρ S2).bind fun xs => M.ret (ds.map .d ++ xs)) Q (fun c d H' => W c d σ H') → tDs X.K X.mg W h σ H1 fun ys H2 => Q (vs ++ ys) H2 := fun {a vs ds} dd q => by
      refine ⟨α1, S2, ρ, R2, re.mono (e1.trans e2), After.imp (After.split (rel := RVs X.K) q) (fun us H3 ⟨α3, S3, xs, e3, R3, r3, q3⟩ => ?_) fun _ _ _ z => z⟩
      exact q3 α3 H3 (vs ++ us) (Ext.refl _) R3 (RVs.append (rvs_of (dd.mono e3.same)) r3)
    split at q2
    · cases dv with
      | tup s1 s2 => exact ⟨_, _, rfl, .inl (seqT (Wd.F_same _) s1.sq), fin (a := 0) s2 q2⟩
    · cases dv with
      | lst s1 s2 => exact ⟨_, _, rfl, .inr (seqL (Wd.F_same _) s1), fin (a := 0) s2 q2⟩
    · exact False.elim q2) fun _ _ _ z => z⟩
end
end Zz
set_option maxRecDepth 100000
set_option maxHeartbeats 4000000
namespace Zz
open PySem PySem.Spec PyProof.Rows L2
section
variable {X : Cx} {n : Nat} {W : WX} {pos p apos cpos : Pos} {o a b e : Expr} {es : List Expr} {f g h : Env' → M Val}
/-! ### xs.append(y) -/
/-- y put behind the list that x is -/
def appM (x y : Val) : M Val := match x with
  | .c l => (frz y).bind fun d S => match push l d S with
    | some T => .ok (.d .none) T
    | none => .st
  | _ => M.st
def isLst (S : List Cell) (x : Val) : Bool := match rd S x with
  | some (.list _) => true
  | _ => false
def dApp (f g : Env' → M Val) : Env' → M Val := fun ρ => (f ρ).bind fun x S => if isLst S x = true then ((g ρ S).bind fun y => appM x y) else .st
theorem rd_lst {K : PySem.W.Frag} {mg : Str → Option Value} {w : Wd} {v : V} {x : Val} (R : Rep K mg w) (r : RV K w v x) (h : isLst w.S x = true) : tyV K "list" v w.H := by
  unfold isLst at h
  cases e : rd w.S x with
  | none => rw [e] at h; cases h
  | some d =>
    cases d <;> first | (rw [e] at h; cases h) | skip
    rename_i ds
    obtain ⟨p, xs, rfl, h1, _⟩ := R.list r e
    exact .inl ⟨rfl, xs, h1⟩
theorem ed_append (ho : ED X W o f) (he : ED X W e g) (hbase : attributeBase o "append" X.env (eval o X.env) = eval o X.env := by rfl)
    (hfew : ((backTo cpos (starEach [e] X.env)).all (fun x => !x.1) && (backToKw cpos (keywordEach [] X.env)).all (fun x => x.1.isSome) && decide (([e] : List Expr).length + ([] : List Keyword).length + (if ([] : List Keyword).isEmpty then 0 else 1) < 30)) = true := by rfl)
    (hline : (apos.endLine == cpos.line) = true := by rfl) (hs : starEach [e] X.env = (false, eval e X.env) :: starEach [] X.env := by rfl) (hplain : (backTo cpos (starEach [] X.env)).any (·.1) = false := by rfl) :
    ED X W (.Call (.Attribute o "append" apos) [e] [] cpos) (dApp f g) :=
  PE.imp (pe_bm PySem.F.plainAttrs_list PySem.F.slot_list_append PySem.F.type_list_append mt_append ho (pa_cons he pa_nil hs) hbase hfew hline hs hplain) fun σ H Q ⟨α, S, ρ, R, re, q⟩ => by
    refine ⟨α, S, ρ, R, re, After.imp (After.split (rel := RV X.K) q) (fun v H1 ⟨α1, S1, x, e1, R1, r1, q1⟩ => ?_) fun _ _ _ z => z⟩
    split at q1
    · rename_i hi
      refine ⟨rd_lst R1 r1 hi, α1, S1, ρ, R1, re.mono e1, After.imp (After.split (rel := RV X.K) q1) (fun u H2 ⟨α2, S2, y, e2, R2, r2, q2⟩ => ?_) fun _ _ _ z => z⟩
      cases x with
      | d z => exact False.elim q2
      | f z => exact False.elim q2
      | c l =>
        obtain ⟨S3, d, e3, R3, dv, q3⟩ := frz_ok (w := ⟨α2, S2, H2⟩) R2 r2 q2
        obtain ⟨p, hp, rfl⟩ := r1
        cases ep : push l d S3 with
        | none => rw [ep] at q3; exact False.elim q3
        | some T =>
          rw [ep] at q3
          obtain ⟨acc, h1, h2, R4, e4⟩ := push_ok (w := ⟨α2, S3, H2⟩) R3 (e2.at_ hp) dv ep
          exact ⟨p, acc, u, rfl, rfl, h1, h2, q3 _ _ _ e4 R4 .non⟩
    · exact False.elim q1
/-! ### x[i] = v -/
/-- the list or dict cell with an item set -/
def putM (x : Val) (i d : D) (S : List Cell) : Option (List Cell) := match x with
  | .c l => match S[l]? with
    | some (.lst ds) => match i with
      | .int k => match ixN ds.length k with
        | some j => some (S.set l (.lst (ds.set j d)))
        | none => none
      | _ => none
    | _ => none
  | .d _ => none
  | .f _ => none
def sPut (f fo fi : Env' → M Val) : SD := fun ρ S => (f ρ S).then_ ρ fun v S1 => (fo ρ S1).then_ ρ fun x S2 => (fi ρ S2).then_ ρ fun i S3 => match rd S3 i with
  | some k => match frz v S3 with
    | .ok d S4 => match putM x k d S4 with
      | some T => .nx ρ T
      | none => .st
    | _ => .st
  | none => .st
theorem sd_put {i : Expr} {fo fi : Env' → M Val} (he : ED X W e f) (ho : ED X W o fo) (hi : ED X W i fi)
    (ha : ∀ v, assign (.Subscript o i p) X.env v = (do
      let ov ← holding [v] (eval o X.env)
      let iv ← holding [v, ov] (eval i X.env)
      standAt p
      holding [v, ov, iv] (setItem ov iv v)
      release [v, ov, iv] []) := by intro _; rfl) (hs : swapsWithSole [.Subscript o i p] e pos.line X.env = pure false := by rfl) (hw : swappedStores [.Subscript o i p] e X.env = pure none := by rfl)
    (h1 : (assignEach [.Subscript o i p] X.env).map (·.2) = [assign (.Subscript o i p) X.env] := by rfl) : StD X W (.Assign [.Subscript o i p] e pos) (sPut f fo fi) :=
  PS.imp (ps_asg he (pg_sub ho hi set_list ha) hs hw h1) fun D σ H ⟨α, S, ρ, R, re, q⟩ => by
    refine ⟨α, S, ρ, R, re, After.imp (AfterS.split (rel := RV X.K) q re) (fun v H1 ⟨α1, S1, x1, e1, R1, r1, re1, q1⟩ => ?_) fun _ _ _ z => z⟩
    refine ⟨α1, S1, ρ, R1, re1, After.imp (AfterS.split (rel := RV X.K) q1 re1) (fun v2 H2 ⟨α2, S2, x2, e2, R2, r2, re2, q2⟩ => ?_) fun _ _ _ z => z⟩
    refine ⟨α2, S2, ρ, R2, re2, After.imp (AfterS.split (rel := RV X.K) q2 re2) (fun v3 H3 ⟨α3, S3, x3, e3, R3, r3, re3, q3⟩ => ?_) fun _ _ _ z => z⟩
    cases ek : rd S3 x3 with
    | none => rw [ek] at q3; exact False.elim q3
    | some k =>
      rw [ek] at q3
      dsimp only at q3
      cases ez : frz x1 S3 with
      | st => rw [ez] at q3; exact False.elim q3
      | ex z S => rw [ez] at q3; exact False.elim q3
      | ok d S4 =>
        rw [ez] at q3
        dsimp only at q3
        obtain ⟨e4, R4, dv⟩ := frz_to (w := ⟨α3, S3, H3⟩) R3 ((r1.mono e2).mono e3) ez
        cases ep : putM x2 k d S4 with
        | none => rw [ep] at q3; exact False.elim q3
        | some T =>
          rw [ep] at q3
          cases x2 with
          | d z => cases ep
          | f z => cases ep
          | c l =>
            unfold putM at ep
            cases hds : S4[l]? with
            | none => simp only [hds] at ep; cases ep
            | some cc =>
              cases cc <;> (simp only [hds] at ep) <;> first | (cases ep; done) | skip
              rename_i ds
              cases k <;> first | (cases ep; done) | skip
              rename_i kk
              cases hj : ixN ds.length kk with
              | none => simp only [hj] at ep; cases ep
              | some j =>
                simp only [hj] at ep
                cases ep
                obtain ⟨pa, hp, rfl⟩ := r2
                have hp' : α3[l]? = some pa := e3.at_ hp
                cases R3.int r3 ek
                obtain ⟨xs, g1, g2⟩ := R4.at_ l pa _ hp' hds
                have g3 := R4.write (c' := .lst (ds.set j d)) (o := .lst (xs.set j v)) hp' hds rfl rfl ⟨_, upd_same, g2.set dv j⟩
                exact ⟨pa, xs, kk, j, rfl, rfl, g1, by rw [g2.length]; exact hj, q3 _ _ σ (e4.trans g3.2) g3.1 ((re3.mono e4).mono g3.2)⟩
/-! ### texts joined -/
def asStr : D → Option Str
  | .str x => some x
  | _ => none
theorem strs_dv {K : PySem.W.Frag} {F : Hp} : ∀ {vs : List V} {ds : List D} {ys : List Str}, DvAll K F vs ds → ds.mapM asStr = some ys → vs = ys.map V.str
  | _, _, _, .nil, e => by cases e; rfl
  | _, _, ys, .cons (d := d) (ds := ds) r t, e => by
    rw [List.mapM_cons] at e
    cases d with
    | str b =>
      cases em : ds.mapM asStr with
      | none => simp [asStr, em] at e
      | some bs' =>
        simp [asStr, em] at e
        subst e
        cases r
        rw [strs_dv t em]
        rfl
    | _ => cases e
def oJoin (a : Str) : D → Option D
  | .list xs => (xs.mapM asStr).bind fun ys => if (ys.map (·.length)).sum + ys.length * a.length ≤ 16777216 then some (.str (Txt.join a ys)) else none
  | .tuple xs => (xs.mapM asStr).bind fun ys => if (ys.map (·.length)).sum + ys.length * a.length ≤ 16777216 then some (.str (Txt.join a ys)) else none
  | _ => none
def dJoin (f g : Env' → M Val) : Env' → M Val := fun ρ => (f ρ).bind fun x S => match rd S x with
  | some (.str a) => (g ρ S).bind (on1 (oJoin a))
  | _ => .st
theorem ed_join (ho : ED X W o f) (he : ED X W e g) (hs : starEach [e] X.env = [(false, eval e X.env)] := by rfl) (hbase : attributeBase o "join" X.env (eval o X.env) = eval o X.env := by rfl) (hline : (apos.endLine == pos.line) = true := by rfl) :
    ED X W (.Call (.Attribute o "join" apos) [e] [] pos) (dJoin f g) := PE.imp (pe_join ho he hs hbase hline) fun σ H Q ⟨α, S, ρ, R, re, q⟩ => by
  refine ⟨α, S, ρ, R, re, After.imp (After.split (rel := RV X.K) q) (fun v H1 ⟨α1, S1, x, e1, R1, r1, q1⟩ => ?_) fun _ _ _ z => z⟩
  split at q1
  · rename_i a ea
    cases R1.str r1 ea
    refine ⟨⟨a, rfl⟩, α1, S1, ρ, R1, re.mono e1, After.imp (After.split (rel := RV X.K) q1) (fun u H2 ⟨α2, S2, y, e2, R2, r2, q2⟩ => ?_) fun _ _ _ z => z⟩
    obtain ⟨w, x, z, da, c, rfl, e3, Rw, rx, ea2, ec, ans⟩ := on1_ok (w := ⟨α2, S2, H2⟩) R2 r2 q2
    cases e3
    unfold oJoin at ec
    split at ec
    · obtain ⟨ys, e4, e5⟩ := Option.bind_eq_some_iff.mp ec
      split at e5
      · rename_i hz
        cases e5
        obtain ⟨p, xs, rfl, h1, g1⟩ := Rw.list rx ea2
        cases strs_dv g1 e4
        exact ⟨a, p, ys, rfl, rfl, .inl h1, hz, ans.here Rw (.str _)⟩
      · cases e5
    · obtain ⟨ys, e4, e5⟩ := Option.bind_eq_some_iff.mp ec
      split at e5
      · rename_i hz
        cases e5
        obtain ⟨p, xs, rfl, h1, g1, _⟩ := Rw.tuple rx ea2
        cases strs_dv g1 e4
        exact ⟨a, p, ys, rfl, rfl, .inr h1, hz, ans.here Rw (.str _)⟩
      · cases e5
    · cases ec
  · exact False.elim q1
/-! ### isinstance of a built-in class -/
def tyD : D → String
  | .none => "NoneType"
  | .bool _ => "bool"
  | .int _ => "int"
  | .str _ => "str"
  | .list _ => "list"
  | .tuple _ => "tuple"
  | .dict _ => "dict"
theorem tyx_dv {K : PySem.W.Frag} {H : Hp} {v : V} {d : D} (h : Dv K H v d) : TyX K H v (.type (tyD d)) := by
  cases h with
  | non => exact .base .non
  | bl b => exact .base (.bl b)
  | int i => exact .base (.int i)
  | str x => exact .base (.str x)
  | lst s _ =>
    rcases s with (s | ⟨o, s⟩) | s
    · exact .base (.lst s)
    · exact .base (.frz s)
    · obtain ⟨o, its, n, s1, s2, _⟩ := s
      exact .kList s1 s2
  | tup s _ =>
    rcases s with ⟨o, s, _⟩ | s
    · exact .fTuple s
    · obtain ⟨o, its, n, s1, _, s2, _⟩ := s
      exact .kTuple s1 s2
  | dct s _ => exact .base (.dK s)
/-- is it of the built-in class T? -/
def isB (T : String) (d : D) : Bool := match d with
  | .none => false
  | .bool _ => T == "bool" || T == "int"
  | .int _ => T == "int"
  | .str _ => T == "str"
  | .list _ => T == "list"
  | .tuple _ => T == "tuple"
  | .dict _ => T == "dict"
/-- the class's own name and the wanted one tell the answer -/
def isN (t T : String) : Bool := t == T || (t == "bool" && T == "int")
theorem kit_isN {t T : String} (ht : t ∈ ["NoneType", "bool", "int", "str", "list", "tuple", "dict"]) (hT : T ∈ ["bool", "int", "str", "list", "tuple", "dict"]) : kitB t T = some (isN t T) := by
  have h : (["NoneType", "bool", "int", "str", "list", "tuple", "dict"].all fun t => ["bool", "int", "str", "list", "tuple", "dict"].all fun T => decide (kitB t T = some (isN t T))) = true := by decide +kernel
  have h1 := List.all_eq_true.mp h t ht
  exact of_decide_eq_true (List.all_eq_true.mp h1 T hT)
theorem tyD_mem (d : D) : tyD d ∈ ["NoneType", "bool", "int", "str", "list", "tuple", "dict"] := by cases d <;> simp [tyD]
theorem isN_isB {T : String} (hT : T ∈ ["bool", "int", "str", "list", "tuple", "dict"]) (d : D) : isN (tyD d) T = isB T d := by
  simp only [List.mem_cons, List.not_mem_nil, or_false] at hT
  rcases hT with rfl | rfl | rfl | rfl | rfl | rfl <;> cases d <;> rfl
theorem kit_isB {T : String} (hT : T ∈ ["bool", "int", "str", "list", "tuple", "dict"]) (d : D) : kitB (tyD d) T = some (isB T d) := by
  rw [kit_isN (tyD_mem d) hT, isN_isB hT]
def oIsB (T : String) : D → Option D := fun d => some (.bool (isB T d))
theorem ed_isB {T : String} {x p2 p3} {xT : Str} (hT : T ∈ ["bool", "int", "str", "list", "tuple", "dict"]) (hm : X.mg "isinstance" = none) (hmT : X.mg xT = none) (hbT : bootBuiltins xT = some (.type T)) (ha : ED X W a f) (hx : x = Str.ofString "isinstance") (hg : Gl X x := by rfl) (hgT : Gl X xT := by rfl)
    (hnT : xT ≠ "__name__" := by decide) (hdT : (xT == ("__debug__" : Str)) = false := by decide)
    (he : starEach [a, .Name xT p3] X.env = (false, eval a X.env) :: starEach [.Name xT p3] X.env := by rfl) (he2 : starEach [.Name xT p3] X.env = (false, eval (.Name xT p3) X.env) :: starEach [] X.env := by rfl) (hpl : (backTo pos (starEach [.Name xT p3] X.env)).any (·.1) = false := by rfl) :
    ED X W (.Call (.Name x p2) [a, .Name xT p3] [] pos) (dFn1 (oIsB T) f) := by
  subst hx
  refine PE.imp (pe_callB (call_isi (X := X)) hg hm boot_isinstance' (pa_cons ha (pa_cons (pe_bltn hgT hmT hbT (v := .ty T) rfl hnT hdT) pa_nil he2) he) (by decide) (by decide) he hpl) fun σ H Q ⟨α, S, ρ, R, re, q⟩ => ⟨α, S, ρ, R, re, After.imp (After.split (rel := RV X.K) q) (fun v H1 ⟨α1, S1, x, e1, R1, r1, q1⟩ => ?_) fun _ _ _ z => z⟩
  obtain ⟨w, y, z, da, c, rfl, e3, Rw, rx, ea2, ec, ans⟩ := on1_ok (w := ⟨α1, S1, H1⟩) R1 r1 q1
  cases e3
  cases ec
  exact ⟨v, .ty T, .type (tyD da), .type T, _, rfl, .ty T, tyx_dv (Rw.any rx ea2), kit_ty (kit_isB hT da), ans.here Rw (.bl _)⟩
where boot_isinstance' : bootBuiltins "isinstance" = some (.builtin "isinstance") := by decide +kernel
end
end Zz
set_option maxRecDepth 100000
set_option maxHeartbeats 4000000
namespace Zz
open PySem PySem.Spec PyProof.Rows L2
/-! ### an except clause's test, whatever its form -/
/-- t, asked of an exception of the class c, answers f c; objects may be laid meanwhile -/
structure Tst (X : Cx) (t : Expr) (f : Value → Option Bool) : Prop where
  run : ∀ (a : Addr) (pn : List (Addr × Obj)) (σ : L2.St) (H : Hp) (s : Shared) (Q : Value → Shared → Prop) (E : Value → Shared → Prop) (c : Value) (b : Bool) (oe : Obj), Inv (X.suite a pn) [] σ H s → s.heap.get? a = some oe → oe.cls = c → f c = some b →
    (∀ u h', (∀ q o, s.heap.get? q = some o → h'.get? q = some o) → PySem.W.Looks (model X.prog X.w) h' (excMatches (.ref a) u) b → Q u { s with heap := h' }) → wpAny (model X.prog X.w) (X.A.mark (some (.ref a))) (eval t X.env) Q E s
section
variable {X : Cx} {x : Str} {c : Value} {p : Pos}
theorem names_run (hc : Names X x c) {a : Addr} {pn : List (Addr × Obj)} {σ : L2.St} {H : Hp} {s : Shared} {Q : Value → Shared → Prop} {E : Value → Shared → Prop} (I : Inv (X.suite a pn) [] σ H s) (q : Q c s) : wpAny (model X.prog X.w) (X.A.mark (some (.ref a))) (eval (.Name x p) X.env) Q E s := by
  obtain ⟨h1, h2, h3 | ⟨h3, h4, h5⟩⟩ := hc
  · exact ld_glob (X := X.suite a pn) I h1 h3 q h2
  · exact ld_blt (X := X.suite a pn) I h1 h3 h4 q h5 h2
theorem looksT {M : Model} {a : Addr} {c : Value} {oe : Obj} {h : Heap} (e : h.get? a = some oe) (ec : oe.cls = c) : PySem.W.Looks M h (typeOf (.ref a)) c := fun A Q E s k q => wpAny_typeOf_ref (k _ _ e) (by rw [ec]; exact q)
theorem tst_name (hc : Names X x c) : Tst X (.Name x p) (fun k => PySem.W.exmOne X.K k c) where
  run := fun a pn σ H s Q E k b oe I ha hk hf hq => names_run hc I (hq c s.heap (fun _ _ z => z) (PySem.W.exm_one I.kIn (looksT ha hk) hf))
variable {x1 x2 x3 : Str} {c1 c2 c3 : Value} {p1 p2 p3 tpos : Pos} {kk : Nat}
theorem tst_two (n1 : Names X x1 c1) (n2 : Names X x2 c2) (hs1 : starEach [.Name x1 p1, .Name x2 p2] X.env = (false, eval (.Name x1 p1) X.env) :: starEach [.Name x2 p2] X.env := by rfl) (hs2 : starEach [.Name x2 p2] X.env = (false, eval (.Name x2 p2) X.env) :: starEach [] X.env := by rfl) :
    Tst X (.Tuple [.Name x1 p1, .Name x2 p2] kk tpos) (fun k => PySem.W.exmAny X.K k [c1, c2]) where
  run := fun a pn σ H s Q E k b oe I ha hk hf hq => by
    refine wpAny_Tuple (wpAny_items_cons (names_run n1 I (wpAny_items_cons (names_run n2 I (wpAny_items_nil ⟨by show _ + 1 ≤ sizeLine; rw [sizeLine_eq]; simp, ?_⟩)) hs2)) hs1)
    have kp : ∀ q o, s.heap.get? q = some o → (s.heap.push { cls := .type "tuple", data := .seq [c1, c2].toArray }).get? q = some o := fun _ _ z => Heap.get?_push_of_some _ z
    exact hq _ _ kp (PySem.W.exm_tup2 (I.kIn.keeps kp) ((looksT ha hk).keeps kp) (Heap.get?_push_size s.heap rfl) hf)
theorem tst_three (n1 : Names X x1 c1) (n2 : Names X x2 c2) (n3 : Names X x3 c3) (hs1 : starEach [.Name x1 p1, .Name x2 p2, .Name x3 p3] X.env = (false, eval (.Name x1 p1) X.env) :: starEach [.Name x2 p2, .Name x3 p3] X.env := by rfl) (hs2 : starEach [.Name x2 p2, .Name x3 p3] X.env = (false, eval (.Name x2 p2) X.env) :: starEach [.Name x3 p3] X.env := by rfl) (hs3 : starEach [.Name x3 p3] X.env = (false, eval (.Name x3 p3) X.env) :: starEach [] X.env := by rfl) :
    Tst X (.Tuple [.Name x1 p1, .Name x2 p2, .Name x3 p3] kk tpos) (fun k => PySem.W.exmAny X.K k [c1, c2, c3]) where
  run := fun a pn σ H s Q E k b oe I ha hk hf hq => by
    refine wpAny_Tuple (wpAny_items_cons (names_run n1 I (wpAny_items_cons (names_run n2 I (wpAny_items_cons (names_run n3 I (wpAny_items_nil ⟨by show _ + 1 ≤ sizeLine; rw [sizeLine_eq]; simp, ?_⟩)) hs3)) hs2)) hs1)
    have kp : ∀ q o, s.heap.get? q = some o → (s.heap.push { cls := .type "tuple", data := .seq [c1, c2, c3].toArray }).get? q = some o := fun _ _ z => Heap.get?_push_of_some _ z
    exact hq _ _ kp (PySem.W.exm_tup3 (I.kIn.keeps kp) ((looksT ha hk).keeps kp) (Heap.get?_push_size s.heap rfl) hf)
end
/-! ### an exception caught and kept -/
theorem excO_ok {P : Program} {w : World} {H : Hp} {h : Heap} {a : Addr} {cls : Value} {d : Option Addr} {oe : Obj} {vs : Array Value} (e : h.get? a = some oe) (z : Zc cls d oe) (q : oe.data = .fields vs) : ObjOk P w H h a (ExcO cls d a) :=
  ⟨⟨oe, vs, e, z, q⟩, ⟨oe, e⟩, fun _ _ ⟨o, v, h1, h2⟩ k => ⟨o, v, k o h1, h2⟩⟩
theorem flying_keep {B h h' : Heap} {l : List Env} {a : Addr} {Z : Obj → Prop} (f : HandSPX.FlyingZ B l a Z h) (k : ∀ q o, h.get? q = some o → h'.get? q = some o) : HandSPX.FlyingZ B l a Z h' := by
  obtain ⟨f1, f2, f3, oe, vs, T, oT, ts, g1, g2, g3, g4, g5, g6, g7, g8, g9⟩ := f
  exact ⟨fun b o e => k b o (f1 b o e), f2, Heap.FunFrames.of_keeps (fun b o e _ => ⟨o, k b o e, rfl⟩) f3, oe, vs, T, oT, ts, k _ _ g1, g2, g3, g4, g5, g6, k _ _ g7, g8, g9⟩
/-- what the clause wishes of an exception of the body: slot i is the clause's name, slot j keeps it -/
def wKeep (f : Value → Option Bool) (i j : Nat) (Wout : WX) (D : Ends) : WX := fun cls d σ H =>
  ∃ b, f cls = some b ∧ (b = true → ∀ a, H a = none → D.nx (((σ.set i (some (.ref a))).set j (some (.ref a))).set i none) (upd H a (ExcO cls d a))) ∧ (b = false → Wout cls d σ H)
/-- an object that no one tracked is tracked -/
theorem Inv.track {X : Cx} {pins : List (Addr × Obj)} {σ : L2.St} {H : Hp} {s : Shared} {a : Addr} {o : HO} (I : Inv X pins σ H s) (na : H a = none) (n0 : X.s_0.heap.get? a = none) (nL : a ≠ X.env.locals) (nc : ∀ x c, X.env.cells.lookup x = some c → c ≠ a) (np : ∀ p ∈ X.pn ++ pins, p.1 ≠ a)
    (new : ObjOk X.prog X.w (upd H a o) s.heap a o) : Inv X pins σ (upd H a o) s where
  ok := I.ok
  os := I.os
  bare := I.bare
  base := by
    have ne : ∀ {b : Addr} {u : Obj}, X.s_0.heap.get? b = some u → b ≠ a := fun {b u} e z => by rw [z, n0] at e; cases e
    refine ⟨I.base.keep, I.base.slot, fun b u e n q => ?_, I.base.there, fun b xs e => ?_, fun b u v e => ?_, fun b ps e => ?_⟩
    · rw [upd_ne (ne e)]; exact I.base.free b u e n q
    · have z := I.base.tups b xs e
      rw [upd_ne (ne_of_none z na)]; exact z
    · have z := I.base.frzs b u v e
      rw [upd_ne (ne_of_none z na)]; exact z
    · obtain ⟨m, z⟩ := I.base.tbls b ps e
      exact ⟨m, by rw [upd_ne (ne_of_none z na)]; exact z⟩
  loc := I.loc
  cell := I.cell
  free := by rw [upd_ne nL.symm]; exact I.free
  freeC := fun x c e => by rw [upd_ne (nc x c e)]; exact I.freeC x c e
  pin := fun p hp => by
    obtain ⟨h1, h2, h3⟩ := I.pin p hp
    exact ⟨h1, by rw [upd_ne (np p hp)]; exact h2, h3⟩
  hok := HOk.laidN I.hok (fun _ _ z => z) na new
  len := I.len
section
variable {X : Cx} {n m : Str} {i j : Nat} {body : List Stmt} {t : Expr} {f : Value → Option Bool} {pm pn' sp pos pos' : Pos} {tb : WX → TS} {Wout : WX}
theorem ps_try_keep (hs : X.stack = X.env :: X.outer) (hf : X.env.frame = some X.env.locals) (hex : X.ex = []) (hN : X.N.Nodup) (hi : X.N[i]? = some n) (hln : X.env.kindOf n = some .local) (hvn : Vis X.env.scope n) (hj : X.N[j]? = some m) (hlm : X.env.kindOf m = some .local) (hij : i ≠ j) (ht : Tst X t f) (tk : Takes X Wout)
    (hdn : (n == ("__debug__" : Str)) = false := by decide) (hcn : (n == ("__classdict__" : Str)) = false := by decide) (hsw : swapsWith (.Name n pn') (some (.Name m pm)) sp.line X.env = pure false := by rfl)
    (hb : ∀ (W : WX) (pn : List (Addr × Obj)) (xe : Value → Shared → Prop), Takes (X.tr pn xe) W → PassesOwn (model X.prog X.w) X.A X.env xe → PSs (X.tr pn xe) body (tb W)) :
    PS X (.Try body [.ExceptHandler (some t) (some n) [.Assign [.Name m pm] (.Name n pn') sp] pos'] [] [] pos) (fun D σ H => tb (wKeep f i j Wout D) D σ H) := by
  refine ⟨fun pins s σ H D I h => wpAny_Try_except ?_⟩
  have hfr : X.A.frames = some (X.env :: X.outer) := by rw [I.ok.frames, hs]
  have out := (hb (wKeep f i j Wout D) (X.pn ++ pins) (fun e s₁ => wpAny (model X.prog X.w) X.A (noteFrame e X.env) (fun _ s₂ => wpAny (model X.prog X.w) X.A (setFlight e none) (fun _ s₃ =>
    wpAny (model X.prog X.w) X.A (handleBy e X.env [.ExceptHandler (some t) (some n) [.Assign [.Name m pm] (.Name n pn') sp] pos']) (SP X pins D) X.xe s₃) X.xe s₂) X.xe s₁) (fun u s1 air => ?_) PassesOwn.looking).run [] s σ H D (I.toTry _) h
  · refine wpAny_mono out (fun fl s1 told => ?_) fun _ _ z => z
    match fl, told with
    | .next, ⟨σ1, H1, J, q⟩ => exact wpAny_execs_nil ⟨σ1, H1, J.ofTry I.ok, q⟩
    | .brk, ⟨σ1, H1, J, q⟩ => exact ⟨σ1, H1, J.ofTry I.ok, q⟩
    | .cont, ⟨σ1, H1, J, q⟩ => exact ⟨σ1, H1, J.ofTry I.ok, q⟩
    | .ret u, ⟨v, σ1, H1, J, r, q⟩ => exact ⟨v, σ1, H1, J.ofTry I.ok, r, q⟩
  -- the body has raised
  obtain ⟨a, B, sI, pins', σ1, H1, cls, d, rfl, J0, nb, up, sky, na, os, ag, b, hb1, hyes, hno⟩ := air
  have J : Inv X pins σ1 H1 sI := J0.ofTry I.ok
  show wpAny (model X.prog X.w) X.A (noteFrame (.ref a) X.env) _ _ _
  refine Sky.land Zc.steady hfr hf (by rw [← hs]; exact sky) fun h3 fl up3 => ?_
  have J3 : Inv X pins σ1 H1 { s1 with heap := h3 } := J.landed nb fl.1 (up.trans up3) os ag
  obtain ⟨oe, vs, hoe, hz, hd⟩ := fl.there
  have nfr : a ∉ frs (X.env :: X.outer) := fun hm => by
    obtain ⟨_, o', e', hnf⟩ := fl.2.2.1.mem hm
    rw [hoe] at e'
    cases e'
    exact hnf _ hd
  have nL : a ≠ X.env.locals := fun z => nfr (List.mem_filterMap.mpr ⟨X.env, List.mem_cons_self, by rw [hf, z]⟩)
  have nF : a ∉ X.fs := fun hm => by
    obtain ⟨e, he, q⟩ := List.mem_filterMap.mp hm
    exact nfr (List.mem_filterMap.mpr ⟨e, List.mem_cons_of_mem _ he, q⟩)
  have nI : sI.heap.get? a = none := by
    cases e : sI.heap.get? a with
    | none => rfl
    | some o =>
      have z := nb a o e (by rw [hs]; exact nfr)
      rw [fl.2.1] at z
      cases z
  refine PySem.W.exc_clause_as (ht.run a ((a, oe) :: (X.pn ++ pins)) σ1 H1 _ _ _ cls b oe (J3.suite hoe hd na nL nF) hoe hz.1 hb1 fun u h4 k4 look => ⟨b, look, ?_⟩)
  have fl4 := flying_keep fl k4
  have up4 : sI.heap.UpToSlots h4 := (up.trans up3).trans (Heap.UpToSlots.of_keeps k4)
  cases b with
  | true =>
    rw [if_pos rfl]
    refine HandSPX.lands_againZ (s := { s1 with heap := h4 }) fl4 fun h5 fl5 up5 => ?_
    have J5 : Inv X pins σ1 H1 { s1 with heap := h5 } := J.landed nb fl5.1 (up4.trans up5) os ag
    obtain ⟨oe5, vs5, hoe5, hz5, hd5⟩ := fl5.there
    have S5 := J5.suite hoe5 hd5 na nL nF
    refine store_ok (X := X.suite a ((a, oe5) :: (X.pn ++ pins))) (v := .ref a) S5 hN hi (.inl hln) rfl (fun s6 S6 => ?_) (.inr hln)
    have suite : PSs (X.suite a ((a, oe5) :: (X.pn ++ pins))) [.Assign [.Name m pm] (.Name n pn') sp] (tAsg (tVar i) (gName j)) := pss_one (ps_set (X := X.suite a ((a, oe5) :: (X.pn ++ pins))) hN hj (.inl hlm) (pe_var (X := X.suite a ((a, oe5) :: (X.pn ++ pins))) hi hvn hdn hcn) hsw (.inr hlm))
    have hlen : i < σ1.length := by rw [J.len]; exact (List.getElem?_eq_some_iff.mp hi).1
    refine wpAny_mono (suite.run [] s6 _ H1 { nx := fun σ2 H2 => σ2 = (σ1.set i (some (.ref a))).set j (some (.ref a)) ∧ H2 = H1, rt := fun _ _ => False } S6 ⟨.ref a, List.getElem?_set_self hlen, rfl, rfl⟩) (fun fl7 s7 told => ?_) fun _ _ z => False.elim z
    match fl7, told with
    | .next, ⟨σ7, H7, S7, e7, e8⟩ =>
      subst e7 e8
      refine gone_ok (X := X.suite a ((a, oe5) :: (X.pn ++ pins))) S7 hN hi hln fun s8 S8 => ?_
      have pa := (S8.pin (a, oe5) (by simp)).1
      have J8 : Inv X pins (((σ1.set i (some (.ref a))).set j (some (.ref a))).set i none) H7 s8 := S8.unsuite I.ok
      refine ⟨_, _, Inv.track J8 na ?_ nL (fun x c e z => ?_) (fun p hp z => ?_) (excO_ok (cls := cls) (d := d) pa hz5 hd5), hyes rfl a na⟩
      · cases e : X.s_0.heap.get? a with
        | none => rfl
        | some o =>
          obtain ⟨o', q⟩ := J.base.there a o e (by rw [hex]; exact fun z => nomatch z)
          rw [nI] at q
          cases q
      · obtain ⟨v, o, ho, hv⟩ := J8.cell x c e
        have pa' : s8.heap.get? a = some oe5 := pa
        rw [z, pa'] at ho
        cases ho
        rw [hd5] at hv
        cases hv
      · have q := (J.pin p hp).1
        rw [z, nI] at q
        cases q
    | .brk, ⟨_, _, _, q⟩ => exact False.elim q
    | .cont, ⟨_, _, _, q⟩ => exact False.elim q
    | .ret u, ⟨_, _, _, _, _, q⟩ => exact False.elim q
  | false =>
    rw [if_neg Bool.false_ne_true]
    refine wpAny_handleBy_nil ?_
    obtain ⟨k1, k2, k3, oe4, vs4, T, oT, ts', he, hz4, hd4, h1, hr⟩ := id fl4
    have fin : wpAny (model X.prog X.w) X.A (setFlight (.ref a) X.env.frame) (fun _ s4 => wpAny (model X.prog X.w) X.A (throw (.ref a) : Sem Flow) (SP X pins D) X.xe s4) X.xe { s1 with heap := h4 } := by
      rw [hf]
      refine HandSPX.setFlight_upZ (s := { s1 with heap := h4 }) fl4 fun h5 held up5 => wpAny_throw (tk _ _ ?_)
      exact ⟨a, B, sI, pins, σ1, H1, cls, d, rfl, J, nb, up4.trans up5, .inr (.inr (by rw [hs]; exact held)), na, os, ag, hno rfl⟩
    unfold PySem.passOn
    refine wpAny_bind (wpAny_field (s := { s1 with heap := h4 }) he hd4 h1 ?_)
    rw [if_neg (show ¬ ((Value.ref T == Value.none) = true) from by simp)]
    first
      | exact wpAny_bind (wpAny_pure (wpAny_bind fin))
      | exact wpAny_bind fin
end
end Zz
set_option maxRecDepth 100000
set_option maxHeartbeats 4000000
namespace Zz
open PySem PySem.Spec PyProof.Rows L2
section
variable {X : Cx} {n : Nat} {W : WX} {pos p p2 p3 : Pos} {a b e : Expr} {es : List Expr} {f g h : Env' → M Val} {x : Str}
/-! ### raise -/
def sRaise (nm : Str) (g : Env' → M (List Val)) : SD := fun ρ S => (g ρ S).then_ ρ fun vs S' => if vs.length ≤ 16777216 then .ex ⟨nm, []⟩ ρ S' else .st
theorem sd_raise {C : Addr} {bmB : List Value} {B newId initId : String} {g : Env' → M (List Val)} (K : CxOk X n) (tk : Takes X W) (F : ExcBaseFacts B newId initId bmB) (q : PySem.W.excIn X.K C bmB newId = true) (gC : X.mg x = some (.ref C)) (kC : PySem.W.keepIn X.K (.ref C) = true) (r : Raises X (.ref C)) (ha : AD X W (e :: es) g) (hg : Gl X x := by rfl) (hdb : (x == ("__debug__" : Str)) = false := by decide)
    (he : starEach (e :: es) X.env = (false, eval e X.env) :: starEach es X.env := by rfl) (hpl : (backTo p2 (starEach es X.env)).any (·.1) = false := by rfl) : StD X W (.Raise (some (.Call (.Name x p) (e :: es) [] p2)) none pos) (sRaise x g) :=
  PS.imp (ps_raise K.hc tk (pmk_ownA F q gC kC r hg ha hdb he hpl)) fun D σ H ⟨α, S, ρ, R, re, q⟩ => ⟨α, S, ρ, R, re, After.imp (AfterS.split (rel := RVs X.K) q re) (fun vs H1 ⟨α1, S1, xs, e1, R1, r1, re1, q1⟩ => by
    split at q1
    · rename_i hz
      exact ⟨by rw [sizeLine_eq, r1.length]; exact hz, q1 α1 H1 σ _ _ (Ext.refl _) R1 re1 ⟨C, gC, rfl, rfl⟩⟩
    · exact False.elim q1) fun _ _ _ z => z⟩
/-! ### try: .. except T as n: m = n -/
def sKeep (body : SD) (f : Str → Option Bool) (i j : Nat) : SD := fun ρ S => match body ρ S with
  | .ex y ρ' S' => (match f y.cls with
    | some true => .nx (((ρ'.set i (some (.c S'.length))).set j (some (.c S'.length))).set i none) (S' ++ [.exc y])
    | some false => .ex y ρ' S'
    | none => .st)
  | .st => .st
  | .nx ρ' S' => .nx ρ' S'
  | .rt v S' => .rt v S'
  | .bk ρ' S' => .bk ρ' S'
  | .ct ρ' S' => .ct ρ' S'
theorem Rep.cellx {K : PySem.W.Frag} {mg : Str → Option Value} {w : Wd} (R : Rep K mg w) {q : Addr} (hp : w.H q = Option.none) {o : HO} {c : Cell} (hc : c.mut = false) (ok : ∀ F, Same w.F F → F q = some o → CellOk K mg F (upd w.H q o) q c) :
    Rep K mg ⟨w.α ++ [q], w.S ++ [c], upd w.H q o⟩ ∧ Ext w ⟨w.α ++ [q], w.S ++ [c], upd w.H q o⟩ := by
  have hm := R.fresh hp
  have hnot : q ∉ w.α := fun z => by
    obtain ⟨o, e⟩ := R.al q z
    rw [hp] at e; cases e
  have em : Wd.muts ⟨w.α ++ [q], w.S ++ [c], upd w.H q o⟩ = w.muts := by
    rw [muts_snoc R.len, hc]; simp; rfl
  have eF : ∀ u, Wd.F ⟨w.α ++ [q], w.S ++ [c], upd w.H q o⟩ u = if u ∈ w.muts then Option.none else upd w.H q o u := fun u => by
    unfold Wd.F
    rw [em]
  have e : Same w.F (Wd.F ⟨w.α ++ [q], w.S ++ [c], upd w.H q o⟩) := fun b u h => by
    rw [eF]
    unfold Wd.F at h
    split at h
    · cases h
    · rename_i hb
      rw [if_neg hb, upd_ne (ne_of_none h hp)]
      exact h
  refine ⟨⟨by simp [R.len], ?_, fun b hb => ?_, fun l b c' h1 h2 => ?_⟩, List.prefix_append _ _, e⟩
  · exact List.nodup_append.mpr ⟨R.nd, by simp, fun b hb b' hb' z => by
      have : b' = q := by simpa using hb'
      subst this; subst z; exact hnot hb⟩
  · rcases List.mem_append.mp hb with hb | hb
    · obtain ⟨u, hu⟩ := R.al b hb
      exact ⟨u, (upd_ne (ne_of_none hu hp)).trans hu⟩
    · have z : b = q := by simpa using hb
      subst z
      exact ⟨o, upd_same⟩
  · by_cases hl : l < w.α.length
    · have h1' : w.α[l]? = some b := by
        have : (w.α ++ [q])[l]? = some b := h1
        rwa [List.getElem?_append_left hl] at this
      have h2' : w.S[l]? = some c' := by
        have : (w.S ++ [c])[l]? = some c' := h2
        rwa [List.getElem?_append_left (by rw [← R.len]; exact hl)] at this
      exact (R.at_ l b c' h1' h2').mono e fun m => upd_ne fun z => hm (by rw [← z]; exact (mem_muts R.len).mpr ⟨l, c', h1', h2', m⟩)
    · have h1' : ([q] : List Addr)[l - w.α.length]? = some b := by
        have : (w.α ++ [q])[l]? = some b := h1
        rwa [List.getElem?_append_right (by omega)] at this
      have h2' : ([c] : List Cell)[l - w.S.length]? = some c' := by
        have : (w.S ++ [c])[l]? = some c' := h2
        rwa [List.getElem?_append_right (by rw [← R.len]; omega)] at this
      obtain ⟨h3, _⟩ := List.getElem?_eq_some_iff.mp h1'
      have hz : l - w.α.length = 0 := by simpa using h3
      have hz2 : l - w.S.length = 0 := by rw [← R.len]; exact hz
      rw [hz] at h1'; rw [hz2] at h2'
      have e1 : q = b := by simpa using h1'
      have e2 : c = c' := by simpa using h2'
      subst e1 e2
      refine ok _ e ?_
      rw [eF, if_neg hm, upd_same]
theorem sd_keep {nn m : Str} {i j : Nat} {body : List Stmt} {t : Expr} {F : Value → Option Bool} {fe : Str → Option Bool} {fb : SD} {pm pn' sp pos' : Pos} (hs : X.stack = X.env :: X.outer) (hf : X.env.frame = some X.env.locals) (hex : X.ex = []) (hN : X.N.Nodup) (tk : Takes X W) (ht : Tst X t F)
    (hF : ∀ y b, fe y = some b → ∀ C, X.mg y = some (.ref C) → F (.ref C) = some b) (hb : ∀ (W : WX) (pn : List (Addr × Obj)) (xe : Value → Shared → Prop), Takes (X.tr pn xe) W → PassesOwn (model X.prog X.w) X.A X.env xe → BkD (X.tr pn xe) W body fb)
    (hi : X.N[i]? = some nn := by rfl) (hln : X.env.kindOf nn = some .local := by rfl) (hvn : Vis X.env.scope nn := by first | exact Or.inl rfl | exact Or.inr (Or.inl rfl) | exact Or.inr (Or.inr rfl)) (hj : X.N[j]? = some m := by rfl) (hlm : X.env.kindOf m = some .local := by rfl) (hij : i ≠ j := by decide)
    (hdn : (nn == ("__debug__" : Str)) = false := by decide) (hcn : (nn == ("__classdict__" : Str)) = false := by decide) (hsw : swapsWith (.Name nn pn') (some (.Name m pm)) sp.line X.env = pure false := by rfl) :
    StD X W (.Try body [.ExceptHandler (some t) (some nn) [.Assign [.Name m pm] (.Name nn pn') sp] pos'] [] [] pos) (sKeep fb fe i j) :=
  PS.imp (ps_try_keep (tb := fun W => tS X.K X.mg W fb) hs hf hex hN hi hln hvn hj hlm hij ht tk hdn hcn hsw hb) fun D σ H ⟨α, S, ρ, R, re, q⟩ => ⟨α, S, ρ, R, re, by
    unfold sKeep at q
    cases er : fb ρ S with
    | st => rw [er] at q; exact q
    | nx ρ' S' => rw [er] at q; exact q
    | bk ρ' S' => rw [er] at q; exact q
    | ct ρ' S' => rw [er] at q; exact q
    | rt v S' => rw [er] at q; exact q
    | ex y ρ' S' =>
      rw [er] at q
      dsimp only at q
      intro α1 H1 σ1 cls d e1 R1 re1 rx
      obtain ⟨C, hC, rfl, hfs⟩ := rx
      cases ef : fe y.cls with
      | none => rw [ef] at q; exact False.elim q
      | some b =>
        rw [ef] at q
        refine ⟨b, hF _ _ ef C hC, fun hbt a na => ?_, fun hbf => ?_⟩
        · subst hbt
          obtain ⟨R2, e2⟩ := R1.cellx na (o := ExcO (.ref C) d a) (c := .exc y) rfl fun F eF h1 => ⟨C, d, hC, h1, hfs.mono eF⟩
          have ra : RV X.K ⟨α1 ++ [a], S' ++ [.exc y], upd H1 a (ExcO (.ref C) d a)⟩ (.ref a) (.c S'.length) := ⟨a, by
            show (α1 ++ [a])[S'.length]? = some a
            rw [List.getElem?_append_right (by rw [R1.len]; exact Nat.le_refl _), R1.len, Nat.sub_self]; rfl, rfl⟩
          exact q _ _ _ (e1.trans e2) R2 ((((re1.mono e2).set ra i).set ra j).del i none)
        · subst hbf
          exact q _ _ _ _ _ e1 R1 re1 ⟨C, hC, rfl, hfs⟩⟩
/-! ### e is None, e an exception or data -/
def noneV (S : List Cell) : Val → Option Bool
  | .d d => some (isNon d)
  | .c l => if l < S.length then some false else none
  | .f _ => some false
def dNone (k : Bool) (f : Env' → M Val) : Env' → M Val := fun ρ => (f ρ).bind fun x S => match noneV S x with
  | some b => .ok (.d (.bool (b == k))) S
  | none => .st
theorem noneV_ok {K : PySem.W.Frag} {mg : Str → Option Value} {w : Wd} {v : V} {x : Val} {b : Bool} (R : Rep K mg w) (r : RV K w v x) (h : noneV w.S x = some b) : decide (v = V.non) = b := by
  cases x with
  | d d =>
    cases h
    exact dv_non r
  | f z =>
    cases h
    obtain ⟨a, rfl, _⟩ := r
    rfl
  | c l =>
    obtain ⟨a, _, rfl⟩ := r
    have h' : (if l < w.S.length then some false else none) = some b := h
    by_cases z : l < w.S.length
    · rw [if_pos z] at h'
      cases h'
      simp
    · rw [if_neg z] at h'
      cases h'
theorem noneQ {σ : L2.St} {H : Hp} {Q : VK} (q : tD X.K X.mg W (dNone true f) σ H Q) : tOp (fun x y H Q => y = .non ∧ Q (.bl (decide (x = .non))) H) (tD X.K X.mg W f) (tC .non) σ H Q := by
  obtain ⟨α, S, ρ, R, re, q⟩ := q
  refine ⟨α, S, ρ, R, re, After.imp (After.split (rel := RV X.K) q) (fun v H1 ⟨α1, S1, x, e1, R1, r1, q1⟩ => ?_) fun _ _ _ z => z⟩
  cases en : noneV S1 x with
  | none => rw [en] at q1; exact False.elim q1
  | some b =>
    rw [en] at q1
    refine ⟨rfl, ?_⟩
    rw [noneV_ok (w := ⟨α1, S1, H1⟩) R1 r1 en]
    dsimp only at q1
    have z : (b == true) = b := by cases b <;> rfl
    rw [z] at q1
    exact q1 _ _ _ (Ext.refl _) R1 (.bl b)
theorem nonneQ {σ : L2.St} {H : Hp} {Q : VK} (q : tD X.K X.mg W (dNone false f) σ H Q) : tOp (fun x y H Q => y = .non ∧ Q (.bl (!decide (x = .non))) H) (tD X.K X.mg W f) (tC .non) σ H Q := by
  obtain ⟨α, S, ρ, R, re, q⟩ := q
  refine ⟨α, S, ρ, R, re, After.imp (After.split (rel := RV X.K) q) (fun v H1 ⟨α1, S1, x, e1, R1, r1, q1⟩ => ?_) fun _ _ _ z => z⟩
  cases en : noneV S1 x with
  | none => rw [en] at q1; exact False.elim q1
  | some b =>
    rw [en] at q1
    refine ⟨rfl, ?_⟩
    rw [noneV_ok (w := ⟨α1, S1, H1⟩) R1 r1 en]
    dsimp only at q1
    have z : (b == false) = !b := by cases b <;> rfl
    rw [z] at q1
    exact q1 _ _ _ (Ext.refl _) R1 (.bl _)
theorem ed_isno (ha : ED X W a f) {j} : ED X W (.Compare a [.Is] [.Constant .none j p] pos) (dNone true f) := PE.imp (pe_cmpR op_isN ha pe_non (nomark _)) fun _ _ _ q => noneQ q
theorem ed_isnotno (ha : ED X W a f) {j} : ED X W (.Compare a [.IsNot] [.Constant .none j p] pos) (dNone false f) := PE.imp (pe_cmpR op_notN ha pe_non (nomark _)) fun _ _ _ q => nonneQ q
theorem td_isno (ha : ED X W a f) {j} : TDt X W (.Compare a [.Is] [.Constant .none j p] pos) (toB (dNone true f)) := PT.imp (pt_cmpR op_isN ha pe_non (nomark _)) fun _ _ _ q => noneQ (toBQ q)
theorem td_isnotno (ha : ED X W a f) {j} : TDt X W (.Compare a [.IsNot] [.Constant .none j p] pos) (toB (dNone false f)) := PT.imp (pt_cmpR op_notN ha pe_non (nomark _)) fun _ _ _ q => nonneQ (toBQ q)
/-! ### isinstance of an exception that was caught -/
/-- the classes that are asked for, as they stand in the heap; for one class, or a tuple of them -/
def onX (f : Str → Option Bool) : Val → M Val := fun x S => match x with
  | .c l => (match S[l]? with
    | some (.exc y) => (match f y.cls, y.fs with
      | some b, [] => .ok (.d (.bool b)) S
      | _, _ => .st)
    | _ => .st)
  | _ => .st
def clsX (f : Str → Option Bool) (g : Env' → M Val) : Env' → M Val := fun ρ => (g ρ).bind (onX f)
theorem clsXQ {w : Wd} {v : V} {y : Val} {fx : Str → Option Bool} {Q : VK} {E : XK} (R : Rep X.K X.mg w) (r : RV X.K w v y) (q : After X.K X.mg (RV X.K) w (onX fx y w.S) Q E) : ∃ (l : Nat) (yy : Ex) (b : Bool) (C a : Addr), fx yy.cls = some b ∧ X.mg yy.cls = some (.ref C) ∧ v = .ref a ∧ w.F a = some (ExcO (.ref C) none a) ∧ After X.K X.mg (RV X.K) w (.ok (.d (.bool b)) w.S) Q E ∧ y = .c l := by
  unfold onX at q
  cases y with
  | d z => exact False.elim q
  | f z => exact False.elim q
  | c l =>
    obtain ⟨a, ha, rfl⟩ := r
    cases es : w.S[l]? with
    | none => simp only [es] at q; exact False.elim q
    | some c =>
      cases c with
      | lst ds => simp only [es] at q; exact False.elim q
      | dct ds => simp only [es] at q; exact False.elim q
      | ins c fs => simp only [es] at q; exact False.elim q
      | old ds => simp only [es] at q; exact False.elim q
      | exc yy =>
        simp only [es] at q
        obtain ⟨C, d, h1, h2, h3⟩ := R.at_ l a _ ha es
        cases ef : fx yy.cls with
        | none => simp only [ef] at q; exact False.elim q
        | some b =>
          cases efs : yy.fs with
          | cons u v => simp only [ef, efs] at q; exact False.elim q
          | nil =>
            simp only [ef, efs] at q
            rw [efs] at h3
            cases (show d = none from h3)
            exact ⟨l, yy, b, C, a, ef, h1, rfl, h2, q, rfl⟩
/-- an exception's class, as isinstance asks for it -/
theorem kit_exc {pins : List (Addr × Obj)} {σ : L2.St} {H : Hp} {s : Shared} {C a : Addr} (I : Inv X pins σ H s) (hc : ExcC X.K C) (e : H a = some (ExcO (.ref C) none a)) : ∃ P : Heap → Prop, PySem.W.KitX X.K (.ref a) (.ref C) P ∧ P s.heap := by
  obtain ⟨⟨oe, vs, h1, h2, h3⟩, _⟩ := (show ObjOk X.prog X.w H s.heap a (ExcO (.ref C) none a) from I.hok a _ e)
  refine ⟨_, PySem.W.handS_kitx_exc hc.hg hc.hk hc.hs hc.hd hc.ha hc.hn hc.ht hc.hm (x := a) (ox := oe), ?_⟩
  obtain ⟨oc, od, oda, osl⟩ := oe
  obtain ⟨z1, z2⟩ := h2
  dsimp only at z1 z2 h3
  subst z1 z2 h3
  exact ⟨h1, rfl, rfl, trivial⟩
/-- isinstance(e, C) -/
theorem ed_isX {c : V} {u : Value} {fx : Str → Option Bool} (hm : X.mg "isinstance" = none) (ha : ED X W a f) (hT : PE X b (tC c)) (kc : ClsV c u) (hF : ∀ y k, fx y = some k → ∀ C, X.mg y = some (.ref C) → ExcC X.K C ∧ PySem.W.kitOne X.K (.ref C) u = some k) (hx : x = Str.ofString "isinstance") (hg : Gl X x := by rfl)
    (he : starEach [a, b] X.env = (false, eval a X.env) :: starEach [b] X.env := by rfl) (he2 : starEach [b] X.env = (false, eval b X.env) :: starEach [] X.env := by rfl) (hpl : (backTo pos (starEach [b] X.env)).any (·.1) = false := by rfl) :
    ED X W (.Call (.Name x p2) [a, b] [] pos) (clsX fx f) := by
  subst hx
  have hc : CallR X (.builtin "isinstance") (fun xs H Q => ∃ C a k, xs = [.ref a, c] ∧ ExcC X.K C ∧ PySem.W.kitOne X.K (.ref C) u = some k ∧ H a = some (ExcO (.ref C) none a) ∧ Q (.bl k) H) := by
    intro pins s σ H xs us Q I r h
    obtain ⟨C, a, k, rfl, h1, h2, h3, q⟩ := h
    obtain ⟨u1, u2, rfl, r1, r2⟩ := vals2 r
    have e2 := kc.eq r2
    subst e2
    cases (show u1 = Value.ref a from r1)
    obtain ⟨P, Z, p⟩ := kit_exc I h1 h3
    exact PySem.W.kia_one Z I.kIn p h2 (fun z => nomatch z) fun tk => ⟨.bl k, H, I.tok tk, rfl, q⟩
  refine PE.imp (pe_callB hc hg hm (by decide +kernel) (pa_cons ha (pa_cons hT pa_nil he2) he) (by decide) (by decide) he hpl) fun σ H Q ⟨α, S, ρ, R, re, q⟩ => ⟨α, S, ρ, R, re, After.imp (After.split (rel := RV X.K) q) (fun v H1 ⟨α1, S1, y, e1, R1, r1, q1⟩ => ?_) fun _ _ _ z => z⟩
  obtain ⟨l, yy, k, C, a, h1, h2, rfl, h3, q2, _⟩ := clsXQ (w := ⟨α1, S1, H1⟩) (fx := fx) R1 r1 q1
  obtain ⟨g1, g2⟩ := hF _ _ h1 C h2
  exact ⟨C, a, k, rfl, g1, g2, Wd.F_same _ _ _ h3, q2 _ _ _ (Ext.refl _) R1 (.bl k)⟩
/-- isinstance(e, (C, ..)) -/
theorem ed_isXs {cs : List V} {us : List Value} {fx : Str → Option Bool} {kk : Nat} (hm : X.mg "isinstance" = none) (ha : ED X W a f) (hT : PA X es (fun _ H Q => Q cs H)) (kc : Paired ClsV cs us) (hF : ∀ y k, fx y = some k → ∀ C, X.mg y = some (.ref C) → ExcC X.K C ∧ PySem.W.kitAny X.K (.ref C) us = some k) (hsz : cs.length ≤ 16777216) (hx : x = Str.ofString "isinstance") (hg : Gl X x := by rfl)
    (he : starEach [a, .Tuple es kk p3] X.env = (false, eval a X.env) :: starEach [.Tuple es kk p3] X.env := by rfl) (he2 : starEach [.Tuple es kk p3] X.env = (false, eval (.Tuple es kk p3) X.env) :: starEach [] X.env := by rfl) (hpl : (backTo pos (starEach [.Tuple es kk p3] X.env)).any (·.1) = false := by rfl) :
    ED X W (.Call (.Name x p2) [a, .Tuple es kk p3] [] pos) (clsX fx f) := by
  subst hx
  have hc : CallR X (.builtin "isinstance") (fun xs H Q => ∃ C a k tp, xs = [.ref a, .ref tp] ∧ H tp = some (.tup cs) ∧ ExcC X.K C ∧ PySem.W.kitAny X.K (.ref C) us = some k ∧ H a = some (ExcO (.ref C) none a) ∧ Q (.bl k) H) := by
    intro pins s σ H xs vs Q I r h
    obtain ⟨C, a, k, tp, rfl, h0, h1, h2, h3, q⟩ := h
    obtain ⟨u1, u2, rfl, r1, r2⟩ := vals2 r
    cases (show u1 = Value.ref a from r1)
    cases (show u2 = Value.ref tp from r2)
    obtain ⟨P, Z, p⟩ := kit_exc I h1 h3
    obtain ⟨_, its, rv, o, g1, g2, n, g3⟩ := (show ObjOk X.prog X.w H s.heap tp (.tup cs) from I.hok tp _ h0)
    have e3 := ClsV.all kc rv
    subst e3
    obtain ⟨oc, od, dt, sl⟩ := o
    simp only at g2 g3
    subst g2 g3
    exact PySem.W.kia_tup Z I.kIn p g1 h2 (fun z => nomatch z) fun tk => ⟨.bl k, H, I.tok tk, rfl, q⟩
  refine PE.imp (pe_callB hc hg hm (by decide +kernel) (pa_cons ha (pa_cons (pe_tup hT) pa_nil he2) he) (by decide) (by decide) he hpl) fun σ H Q ⟨α, S, ρ, R, re, q⟩ => ⟨α, S, ρ, R, re, After.imp (After.split (rel := RV X.K) q) (fun v H1 ⟨α1, S1, y, e1, R1, r1, q1⟩ => ?_) fun _ _ _ z => z⟩
  obtain ⟨l, yy, k, C, a, h1, h2, rfl, h3, q2, _⟩ := clsXQ (w := ⟨α1, S1, H1⟩) (fx := fx) R1 r1 q1
  obtain ⟨g1, g2⟩ := hF _ _ h1 C h2
  refine ⟨by rw [sizeLine_eq]; exact hsz, fun tp hp => ?_⟩
  obtain ⟨r3, x3, f3⟩ := R1.new hp (.tup cs)
  have ne : a ≠ tp := ne_of_none (Wd.F_same _ _ _ h3) hp
  exact ⟨C, a, k, tp, rfl, upd_same, g1, g2, by rw [upd_ne ne]; exact Wd.F_same _ _ _ h3, q2 _ _ _ x3 r3 (.bl k)⟩
/-- names of classes, one by one -/
theorem pa_cls {cs : List V} {c : V} (h : PE X e (tC c)) (hr : PA X es (fun _ H Q => Q cs H)) (hs : starEach (e :: es) X.env = (false, eval e X.env) :: starEach es X.env := by rfl) : PA X (e :: es) (fun _ H Q => Q (c :: cs) H) := PA.imp (pa_cons h hr hs) fun _ _ _ q => q
theorem pa_cls0 : PA X [] (fun _ H Q => Q [] H) := pa_nil
end
end Zz
set_option maxRecDepth 100000
set_option maxHeartbeats 4000000
namespace Zz
open PySem PySem.Spec PyProof.Rows L2
/-! ### len(set(texts)) -/
/-- the unlike ones -/
def dist : List Str → List Str := fun xs => xs.foldl (fun acc x => if x ∈ acc then acc else acc ++ [x]) []
theorem dist_snoc (xs : List Str) (x : Str) : dist (xs ++ [x]) = if x ∈ dist xs then dist xs else dist xs ++ [x] := by
  unfold dist
  rw [List.foldl_append]
  rfl
theorem snocInd {P : List Str → Prop} (h0 : P []) (h1 : ∀ xs x, P xs → P (xs ++ [x])) (xs : List Str) : P xs := by
  have h : ∀ ys : List Str, P ys.reverse := fun ys => by
    induction ys with
    | nil => exact h0
    | cons y ys ih => rw [List.reverse_cons]; exact h1 _ _ ih
  have z := h xs.reverse
  rwa [List.reverse_reverse] at z
theorem mem_dist (xs : List Str) : ∀ k, k ∈ dist xs ↔ k ∈ xs := by
  induction xs using snocInd with
  | h0 => intro k; exact Iff.rfl
  | h1 xs x ih =>
    intro k
    rw [dist_snoc]
    split
    · rename_i h
      rw [ih, List.mem_append, List.mem_singleton]
      exact ⟨.inl, fun z => z.elim id fun e => by rw [e]; exact (ih x).mp h⟩
    · rw [List.mem_append, List.mem_append, ih]
theorem dist_le (xs : List Str) : (dist xs).length ≤ xs.length := by
  induction xs using snocInd with
  | h0 => exact Nat.le_refl _
  | h1 xs x ih =>
    rw [dist_snoc]
    split
    · rw [List.length_append]; exact Nat.le_trans ih (Nat.le_add_right _ _)
    · rw [List.length_append, List.length_append]; exact Nat.add_le_add_right ih _
theorem take_next {xs : List Str} {i : Nat} (h : i < xs.length) : xs.take (i + 1) = xs.take i ++ [xs.getD i Str.empty] := by
  rw [List.take_add_one, List.getElem?_eq_getElem h]
  simp [List.getD, h]
section
variable {prog : Program} {w : World} {A : Around} {R : Result → Shared → Prop} {I : Addr} {fp wr : List Addr} {G : Array GenState → Array GenState → Prop} {n : Nat} {P : Nat → Value → Prop} {St : Nat → Shared → Prop}
/-- the texts that were met among the first i -/
abbrev Met (prog : Program) (w : World) (S : Addr) (xs : List Str) (i : Nat) (h : Heap) : Prop := h.SetOf (PySem.strKind prog w) S (fun k => decide (k ∈ xs.take i)) (dist (xs.take i)).length
theorem fill_texts (W : WalksS prog w A.in1 I fp wr G n P St) (S : Addr) (hSf : S ∉ fp) (xs : List Str) (hsz : xs.length = n) (hb : n + 1 < scanBound) (hval : ∀ i v, P i v → ∃ t, v = .str (xs.getD i Str.empty) t) :
    ∀ (m i : Nat) (s : Shared), n - i = m → i ≤ n → St i s → Met prog w S xs i s.heap → (∀ s', Moved (S :: wr) G s s' → Met prog w S xs n s'.heap → R (.ok (.ret .none)) s') →
      codeAny (model prog w) A (.builtin "set.update.loop" ⟨[.ref S, .ref I], []⟩) R s := by
  have outW : S ∉ wr := fun z => hSf (W.sub _ z)
  have more : ∀ b ∈ wr, b ∈ S :: wr := fun b q => List.mem_cons_of_mem _ q
  have moved : ∀ {s s' : Shared} {i : Nat}, Moved wr G s s' → Met prog w S xs i s.heap → Met prog w S xs i s'.heap := fun mv ⟨o, es, ep, t, ho, r⟩ => ⟨o, es, ep, t, mv.heap S _ outW ho, r⟩
  intro m
  induction m with
  | zero =>
    intro i s e1 e2 st met fin
    obtain rfl : i = n := by omega
    refine codeAny_builtin F.entry_set_update_loop ?_
    rw [Around.under_plainId F.plain_set_update_loop _]
    show wpAny _ A.in1 (pyNext (.ref I) >>= _) _ _ s
    refine wpAny_bind (W.done s _ _ st fun s1 mv => ?_)
    show wpAny _ A.in1 (ret Value.none) _ _ s1
    exact wpAny_pure (fin s1 (mv.mono more) (moved mv met))
  | succ m ih =>
    intro i s e1 e2 st met fin
    have lt : i < n := by omega
    refine codeAny_builtin F.entry_set_update_loop ?_
    rw [Around.under_plainId F.plain_set_update_loop _]
    show wpAny _ A.in1 (pyNext (.ref I) >>= _) _ _ s
    refine wpAny_bind (W.item i s _ _ lt st fun v s1 hv st1 mv => ?_)
    obtain ⟨t, rfl⟩ := hval i v hv
    have met1 := moved mv met
    show wpAny _ A.in1 (holding [Value.str (xs.getD i Str.empty) t] (setAdd S (.str (xs.getD i Str.empty) t)) >>= _) _ _ s1
    unfold setAdd
    refine wpAny_bind (wpAny_holding (wpAny_holding (wpAny_bind ((PySem.strKind prog w).pyHash (k := xs.getD i Str.empty) (strKind_is _ _ _ _) ?_))))
    have few : (dist (xs.take i)).length + 1 < scanBound := by
      have z := dist_le (xs.take i)
      rw [List.length_take] at z
      omega
    refine wpAny_setAddHashed_of (knd := PySem.strKind prog w) (s := { s1 with toks := s1.toks + 1 }) (strKind_is _ _ _ _) rfl met1 few fun h' but grown => ?_
    have ltx : i < xs.length := by omega
    have met2 : Met prog w S xs (i + 1) h' := by
      refine SetOf_congr grown (fun k => ?_) ?_
      · rw [take_next ltx, Bool.eq_iff_iff]
        simp only [Bool.or_eq_true, decide_eq_true_eq, List.mem_append, List.mem_singleton]
      · rw [take_next ltx, dist_snoc]
        by_cases z : xs.getD i Str.empty ∈ xs.take i
        · rw [if_pos (decide_eq_true z), if_pos ((mem_dist _ _).mpr z)]
        · rw [if_neg (by simpa using z), if_neg fun q => z ((mem_dist _ _).mp q), List.length_append]; rfl
    refine wpAny_pure ⟨plainId_quiet F.plain_set_update_loop _, ih (i + 1) _ (by omega) lt (W.frame _ s1 _ _ st1 (Nat.le_succ _) fun b q o e => ?_) met2 fun s2 mv2 met3 => ?_⟩
    · rw [but.2 b fun z => hSf (by rw [← z]; exact q)]; exact e
    · refine fin s2 (Moved.trans W.gtrans ((mv.mono more).then_heap (Nat.le_succ _) fun b o q e => ?_) mv2) met3
      rw [but.2 b fun z => q (by rw [z]; exact List.mem_cons_self)]; exact e
end
section
variable {prog : Program} {w : World} {A : Around} {E : Value → Shared → Prop} {s : Shared}
set_option maxHeartbeats 3200000 in
theorem set_of_texts {l : Addr} {items : Array Value} {xs : List Str} {Q : Value → Shared → Prop} (hh : A.handled = none) (hl : s.heap.IsList l items) (hi : StrsAre items.toList xs) (hb : xs.length + 1 < scanBound)
    (h : ∀ (h' : Heap) (tk : Nat), Met prog w s.heap.objs.size xs xs.length h' → (∀ b o, b < s.heap.objs.size → s.heap.get? b = some o → h'.get? b = some o) → Q (.ref s.heap.objs.size) { s with heap := h', toks := tk }) :
    wpAny (model prog w) A (call (.type "set") [.ref l]) Q E s := by
  obtain ⟨c, tl, mro⟩ := PySem.F.called_set.mro
  have made := PySem.F.called_set.made
  have sub := PySem.F.called_set.sub
  refine wpAny_call (codeAny_of_tree ?_)
  show wpAny _ _ (callAny (.type "set") _) _ _ _
  refine wpAny_pure ⟨Code.quiet_builtin _ (by decide +kernel), codeAny_builtin PySem.F.entry_type_call ?_⟩
  rw [Around.under_plain (weight_type_call_type "set" [.ref l] []) rfl]
  have f1 := PySem.F.called_set.notType
  have f2 := PySem.F.called_set.canCreate
  have f3 := PySem.F.typeCall_set_1 (.ref l)
  repeat (any_goals (first | assumption | wp_step))
  refine codeAny_mono (code_set_new_1 (.ref l) (E := E) (Q₁ := fun obj s₁ => ∃ led : Bool, obj = .ref s.heap.objs.size ∧ s₁ = { s with heap := s.heap.push { cls := .type "set", dict := none, data := .set #[] 0 (.fresh 0 0 led) } }) fun led => ⟨led, rfl, rfl⟩) fun r s1 hr => ?_
  cases r with
  | error e => exact hr
  | ok fl =>
    cases fl with
    | brk => exact hr
    | cont => exact hr
    | next => exact hr
    | ret obj =>
      obtain ⟨led, rfl, rfl⟩ := hr
      have here : (s.heap.push { cls := .type "set", dict := none, data := .set #[] 0 (.fresh 0 0 led) }).get? s.heap.objs.size = some { cls := .type "set", dict := none, data := .set #[] 0 (.fresh 0 0 led) } := Heap.get?_push_size _ rfl
      have ty : Shared.TypeIs { s with heap := s.heap.push { cls := .type "set", dict := none, data := .set #[] 0 (.fresh 0 0 led) } } (.ref s.heap.objs.size) "set" := ⟨_, here, rfl⟩
      have g1 := PySem.F.called_set.init.lookup
      have g2 := PySem.F.called_set.init.bind (.ref s.heap.objs.size)
      repeat (any_goals (first | assumption | wp_step))
      refine codeAny_mono (codeAny_call_builtin (R := wants (fun r s2 => r = .none ∧ ∃ h' tk, s2 = { s with heap := h', toks := tk } ∧ Met prog w s.heap.objs.size xs xs.length h' ∧ (∀ b o, b < s.heap.objs.size → s.heap.get? b = some o → h'.get? b = some o)) E)
        PySem.F.called_set.init.plain PySem.F.entry_set_init (check_set_init_1 ty ?_)) fun r2 s2 hr2 => ?_
      · obtain ⟨⟨oc, od, ot, os⟩, hol, hcl, nl, hdl⟩ := hl
        simp only at hcl hdl
        subst hcl hdl
        have hol' : (s.heap.push { cls := .type "set", dict := none, data := .set #[] 0 (.fresh 0 0 led) }).get? l = some { cls := .type "list", dict := od, data := .seq items nl, slots := os } := Heap.get?_push_of_some _ hol
        have k1 := PySem.F.sub_list_set
        have k2 := PySem.F.sub_list_frozenset
        have k3 : (Value.type "list" == Value.type "dict") = false := by decide
        have lst : (s.heap.push { cls := .type "set", dict := none, data := .set #[] 0 (.fresh 0 0 led) }).IsList l items := ⟨_, hol', rfl, nl, rfl⟩
        unfold Builtin.«set.__init__» noKeywords Builtin.Frozenset.updateFrom
        generalize hPI : pyIter = PI
        wp_walk
        subst hPI
        refine wpAny_pyIter_list lst ?_
        refine wpAny_bind (wpAny_runValue ?_)
        have lt : l < s.heap.objs.size := Heap.lt_size hol
        have sz1 : (s.heap.push { cls := .type "set", dict := none, data := .set #[] 0 (.fresh 0 0 led) }).objs.size = s.heap.objs.size + 1 := Heap.size_push ..
        have eq1 : xs.length = items.size := by rw [← StrsAre.len_eq hi, Array.length_toList]
        refine fill_texts ((Walks.list (show A.in1.in1.in1.handled = none by simp [hh]) _ l (by rw [sz1]; exact Nat.ne_of_lt (Nat.lt_succ_of_lt lt)) items).toS) s.heap.objs.size
          (by rw [sz1]; simp only [List.mem_cons, List.not_mem_nil, or_false, not_or]; exact ⟨Nat.ne_of_lt (Nat.lt_succ_self _), Nat.ne_of_gt lt⟩) xs eq1 (by rw [← eq1]; exact hb) (fun i v hv => SS.strs_at hi i v (by rw [Array.getElem?_toList]; exact hv)) (items.size - 0) 0 _ (by omega) (Nat.zero_le _)
          ⟨⟨_, Heap.get?_push_size _ rfl, rfl, rfl⟩, lst.push _⟩ ?start ?fin
        case start =>
          have q : ((s.heap.push { cls := .type "set", dict := none, data := .set #[] 0 (.fresh 0 0 led) }).push { cls := .type "list_iterator", data := .fields #[.ref l, .int 0 0] }).get? s.heap.objs.size = some { cls := .type "set", dict := none, data := .set #[] 0 (.fresh 0 0 led) } := Heap.get?_push_of_some _ here
          exact SetOf_congr ((setObjOf_fresh (knd := PySem.strKind prog w) led).setOf q (by unfold scanBound; omega)) (fun _ => by simp) rfl
        case fin =>
          intro ⟨h', g', d', tk', os'⟩ mv met
          have e1 : g' = s.gens := mv.gens
          have e2 : d' = s.drawn := mv.drawn
          have e3 : os' = s.os := mv.os
          subst e1 e2 e3
          show wpAny _ _ _ _ _ _
          refine wpAny_pure ?_
          show wpAny _ _ (ret Value.none) _ _ _
          rw [← eq1] at met
          refine wpAny_pure ⟨rfl, h', tk', rfl, met, fun b o q e => ?_⟩
          exact mv.heap b o (by simp only [List.mem_cons, List.not_mem_nil, or_false, not_or]; exact ⟨Nat.ne_of_lt q, by rw [sz1]; exact Nat.ne_of_lt (Nat.lt_succ_of_lt q)⟩) (Heap.get?_push_of_some _ (Heap.get?_push_of_some _ e))
      · cases r2 with
        | error e => exact hr2
        | ok fl2 =>
          cases fl2 with
          | brk => exact hr2
          | cont => exact hr2
          | next => exact hr2
          | ret r =>
            obtain ⟨rfl, h', tk, rfl, met, kk⟩ := hr2
            repeat (any_goals (first | assumption | wp_step))
            exact h _ _ met kk
end
section
variable {X : Cx} {n : Nat} {W : WX} {a : Expr} {f : Env' → M Val} {p p2 q pos : Pos}
/-- how many unlike texts -/
def oLenSet : D → Option D
  | .list xs => (xs.mapM asStr).bind fun ys => if ys.length < 4000 then some (.int (dist ys).length) else none
  | _ => none
theorem ed_lenSet (C : CxOk X n) (hm : X.mg "len" = none) (hm2 : X.mg "set" = none) (ha : ED X W a f) (hg : Gl X "len" := by rfl) (hg2 : Gl X "set" := by rfl) (na : starEach [a] X.env = (false, eval a X.env) :: starEach [] X.env := by rfl) :
    ED X W (.Call (.Name "len" p) [.Call (.Name "set" p2) [a] [] q] [] pos) (dFn1 oLenSet f) := by
  have core : PE X (.Call (.Name "len" p) [.Call (.Name "set" p2) [a] [] q] [] pos) (fun σ H Q => tD X.K X.mg W f σ H fun x H1 => ∃ (l : Addr) (xs : List Str), x = .ref l ∧ SqL X.K H1 l (xs.map V.str) ∧ xs.length < 4000 ∧ Q (.int (dist xs).length) H1) := by
    refine ⟨fun pins s σ H Q I h => Call_ (ld_blt I hg hm boot_len ?_)⟩
    refine PyProof.Rows.callWith_builtin1 (PyProof.Rows.args_cons (Call_ (ld_blt I hg2 hm2 boot_set ?_)) rfl) rfl rfl
    refine PyProof.Rows.callWith_type1 (PyProof.Rows.args_cons (thn (ha.run pins s σ H _ I h) fun v s1 ⟨x, H1, I1, r1, q1⟩ => PyProof.Rows.args_nil ?_) na) na rfl
    obtain ⟨l, xs, rfl, hq, hz, q1⟩ := q1
    cases r1
    obtain ⟨its, r, pl, _⟩ := I1.list hq
    refine set_of_texts (I1.ok.hd C.hc) pl.isList (by simpa using strsAre_of r) (by unfold scanBound; omega) fun h' tk met kk => PyProof.Rows.args_nil ?_
    rw [Met, List.take_length] at met
    obtain ⟨o, es, ep, t, ho, hx, hd, _, _, _, hf, hn⟩ := met
    have I2 : Inv X pins σ H1 { s1 with heap := h', toks := tk } := I1.kept fun b o e => kk b o (Heap.lt_size e) e
    have le := dist_le xs
    refine call_len_set ho hx hd hf (by rw [hn] <;> omega) ⟨.int (dist xs).length, H1, I2.tok _, ⟨_, by rw [hn]⟩, q1⟩
  refine PE.imp core fun σ H Q ⟨α, S, ρ, R, re, q⟩ => ⟨α, S, ρ, R, re, After.imp (After.split (rel := RV X.K) q) (fun v H1 ⟨α1, S1, x, e1, R1, r1, q1⟩ => ?_) fun _ _ _ z => z⟩
  obtain ⟨w, y, z, da, c, rfl, e3, Rw, rx, ea2, ec, ans⟩ := on1_ok (w := ⟨α1, S1, H1⟩) R1 r1 q1
  cases e3
  unfold oLenSet at ec
  split at ec
  · obtain ⟨ys, e4, e5⟩ := Option.bind_eq_some_iff.mp ec
    split at e5
    · rename_i hz
      cases e5
      obtain ⟨l, vs, rfl, h1, g1⟩ := Rw.list rx ea2
      cases strs_dv g1 e4
      exact ⟨l, ys, rfl, h1, hz, ans.here Rw (.int _)⟩
    · cases e5
  · cases ec
end
end Zz
set_option maxRecDepth 100000
set_option maxHeartbeats 4000000
namespace Zz
open PySem PySem.Spec PyProof.Rows L2
/-! ### the law's own call -/
/-- a script's whole numbers as data -/
def intsD (ns : List Int) : List D := ns.map .int
theorem dv_ints {K : PySem.W.Frag} {F : Hp} : ∀ ns : List Int, DvAll K F (ns.map V.int) (intsD ns)
  | [] => .nil
  | n :: r => .cons (.int n) (dv_ints r)
section
variable {P : Program} {w : World} {K : PySem.W.Frag} {mg mb : Str → Option Value} {k : Nat} {fa a : Addr} {fd : FuncData} {x : Str} {F : Fn} {s : Shared} {vs : List Value} {ns : List Int}
/-- the abstract heap: the script alone, if anything -/
structure Seen (P : Program) (w : World) (K : PySem.W.Frag) (s : Shared) (a : Addr) (ns : List Int) (H : Hp) : Prop where
  only : L2.Only H
  seq : SqL K H a (ns.map V.int)
  ok : HOk P w H s.heap
  at_ : ∀ b, H b ≠ none → b = a
  out : H a ≠ none → K.lookup a = none
theorem seenAt (KX : K.In s.heap) (ha : s.heap.get? a = some { cls := .type "list", data := .seq vs.toArray }) (hi : IntsAre vs ns) (hl : ns.length ≤ sizeLine) : ∃ H, Seen P w K s a ns H := by
  have rv := vals_ints hi
  have hlen : vs.length = ns.length := hi.length
  cases hk : K.lookup a with
  | some o =>
    have e := KX a o hk
    rw [ha] at e
    cases e
    exact ⟨fun _ => none, fun _ => .inl rfl, .inr ⟨_, vs.toArray, _, hk, rfl, rfl, rfl, by rw [List.size_toArray, hlen]; exact hl, by simpa using rv⟩, fun b u z => (by have z' : (none : Option HO) = some u := z; cases z'), fun b z => absurd rfl z, fun z => absurd rfl z⟩
  | none =>
    let o : Obj := { cls := .type "list", data := .seq vs.toArray }
    have yes : ∀ {b : Addr}, b = a → (fun b => if b = a then some (HO.frz o (.lst (ns.map V.int))) else none : Hp) b = some (.frz o (.lst (ns.map V.int))) := fun e => if_pos e
    have no : ∀ {b : Addr}, b ≠ a → (fun b => if b = a then some (HO.frz o (.lst (ns.map V.int))) else none : Hp) b = none := fun e => if_neg e
    refine ⟨fun b => if b = a then some (.frz o (.lst (ns.map V.int))) else none, fun b => ?_, .inl (.inr ⟨o, yes rfl⟩), fun b u z => ?_, fun b z => ?_, fun _ => hk⟩
    · by_cases e : b = a
      · exact .inr ⟨_, _, yes e⟩
      · exact .inl (no e)
    · by_cases e : b = a
      · have q := (yes e).symm.trans z
        cases q
        subst e
        exact ⟨ha, by rw [List.length_map]; exact hl, vs, _, rv, ha⟩
      · have q := (no e).symm.trans z
        cases q
    · by_cases e : b = a
      · exact e
      · exact absurd (no e) z
theorem law_run (KX : K.In s.heap) (hns : s.heap.Ns mainGlobals mg) (hb : s.heap.Ns builtinsNs mb) (hbb : ∀ x : Str, x ≠ "__name__" → mb x = bootBuiltins x) (hlim : s.heap.NoLimit) (hg : s.gens = #[])
    (ha : s.heap.get? a = some { cls := .type "list", data := .seq vs.toArray }) (hi : IntsAre vs ns) (hl : ns.length ≤ sizeLine) (hr : Room k callerA)
    (hF : ∀ base : Heap, K.In base → base.Ns mainGlobals mg → FnG P w K mg base k fa fd [x] F) (hbind : ∀ (s : Shared) (u : Value), BindsTo s fd ⟨[u], []⟩ [(x, u)])
    (told : ∃ S, F [.d (.list (intsD ns))] [] = .ok (.d (.bool true)) S) :
    codeAny (model P w) callerA (.call (.ref fa) ⟨[.ref a], []⟩) (fun r s' => r = .ok (.ret (.bool true)) ∧ OldK s.heap s'.heap ∧ s'.os = s.os ∧ AllBare s'.gens) s := by
  obtain ⟨H, sn⟩ := seenAt (P := P) (w := w) KX ha hi hl
  -- what is no script stands in the base
  have free : ∀ {b : Addr} {o : Obj}, s.heap.get? b = some o → (∀ its n, o.data ≠ .seq its n) → H b = none := fun {b o} e ne => by
    cases q : H b with
    | none => rfl
    | some u =>
      obtain rfl := sn.at_ b (by rw [q]; simp)
      rw [ha] at e
      cases e
      exact absurd rfl (ne _ _)
  have ns' : ∀ {b : Addr} {m : Str → Option Value}, s.heap.Ns b m → (hidT s.heap H).Ns b m := fun ⟨o, es, ep, e, d, r⟩ => ⟨o, es, ep, hidT_get e (free e fun _ _ z => by rw [d] at z; cases z), d, r⟩
  have hK : K.In (hidT s.heap H) := fun b o e => hidT_get (KX b o e) (by
    cases q : H b with
    | none => rfl
    | some u =>
      obtain rfl := sn.at_ b (by rw [q]; simp)
      rw [sn.out (by rw [q]; simp)] at e
      cases e)
  have e0 : Env0 P w K mg (hidT s.heap H) callerA [] s H :=
    ⟨rfl, ⟨hK, ns' hns, ⟨mb, ns' hb, hbb⟩, let ⟨mc, h1, h2⟩ := hlim; ⟨mc, ns' h1, h2⟩⟩, fun b o e => of_hidT e, Nat.le_of_eq (hidT_size _ _), trivial, fun b hb => absurd (show b ∈ ([] : List Addr) from hb) (by simp), sn.ok, .of_eq hg⟩
  obtain ⟨S, told⟩ := told
  have rep : Rep K mg ⟨[], [], H⟩ := ⟨rfl, List.nodup_nil, fun a ha => (by cases ha), fun l a c h => (by simp at h)⟩
  have eF : Wd.F ⟨[], [], H⟩ = H := funext fun b => by
    unfold Wd.F Wd.muts
    simp
  have arg : RVs K ⟨[], [], H⟩ [.ref a] [.d (.list (intsD ns))] := .cons (by
    show Dv K (Wd.F ⟨[], [], H⟩) (.ref a) (.list (intsD ns))
    rw [eF]
    exact .lst sn.seq (dv_ints ns)) .nil
  refine codeAny_mono ((hF _ hK (ns' hns)).run callerA [] s H ⟨[.ref a], []⟩ [.ref a] [.ref a] (fun v _ => v = .bl true) (fun _ _ _ => False) rfl hr e0 (hbind s (.ref a)) (.cons rfl .nil) rfl ⟨[], [], _, rep, arg, ?_⟩) fun r s' h => ?_
  · rw [told]
    intro α H' b _ _ rb
    cases (show Dv K _ b (.bool true) from rb)
    rfl
  · cases r with
    | error e =>
      obtain ⟨_, _, _, _, _, _, _, _, _, _, _, _, z⟩ := (show L2.CX P w [] H s (fun _ _ _ => False) e s' from h)
      exact z.elim
    | ok fl =>
      cases fl with
      | next => exact False.elim h
      | brk => exact False.elim h
      | cont => exact False.elim h
      | ret u =>
        obtain ⟨v, H', os, bare, un, hok, r', q⟩ := h
        have q' : v = .bl true := q
        subst q'
        obtain rfl : u = Value.bool true := r'
        refine ⟨rfl, OldK.of_keep fun b o e => ?_, os, bare⟩
        cases q : H b with
        | none => exact un.keep b o e q (by intro z; exact absurd (show b ∈ ([] : List Addr) from z) (by simp)) (by simp)
        | some u =>
          rcases sn.only b with z | ⟨ob, xs, z⟩
          · rw [q] at z; cases z
          · obtain ⟨e1, _⟩ := sn.ok b _ z
            obtain ⟨e2, _⟩ := hok b _ (un.frzs b ob _ z)
            rw [e] at e1; cases e1
            exact e2
end
/-- the goal that the head leaves -/
theorem walkG {l : PySem.W.OpenLaw} {n k : Nat} {q : Program} {loose : List Str} {XP : (Str → Option Value) → Heap → Prop} {YP : World → Heap → Prop} {d : DefRec} {K : Params → PySem.W.Frag} {x : Str} {F : Fn}
    (hn : l.most = some n) (hn2 : n ≤ sizeLine) (hdf : d.params.defaults = []) (hr : Room k callerA) (hY : ∀ (w : World) (h : Heap), YP w h → (K w.params).In h)
    (hF : ∀ (w : World) (mg : Str → Option Value) (fa : Addr) (h : Heap), (K w.params).In h → h.Ns mainGlobals mg → mg d.name = some (.ref fa) →
      ∃ fd : FuncData, (∀ (s : Shared) (u : Value), BindsTo s fd ⟨[u], []⟩ [(x, u)]) ∧ ∀ base : Heap, (K w.params).In base → base.Ns mainGlobals mg → FnG l.prog w (K w.params) mg base k fa fd [x] F)
    (told : ∀ ns : List Int, ns.length ≤ n → (∀ z ∈ ns, Builtin.Int.intBits z ≤ 1048576) → ∃ S, F [.d (.list (intsD ns))] [] = .ok (.d (.bool true)) S) :
    PySem.W.WalkO q loose XP YP l.row.toRowW d [] (fun f vs => PySem.call f vs) := by
  refine Att.attach_callB hn hdf fun w s₀ s₁ mg mb fa o pm cd doc a vs ns G Y ho hd hcd hmg hobj hints hlen hbits hg => ?_
  have KX := hY w _ Y
  obtain ⟨fd, hb, hF⟩ := hF w mg fa _ KX G.T.g hmg
  exact law_run KX G.T.g G.T.b G.T.builtins G.T.nolimit hg hobj hints (Nat.le_trans hlen hn2) hr hF hb (told ns hlen hbits)
end Zz
set_option maxRecDepth 100000
set_option maxHeartbeats 4000000
namespace Zz
open PySem PySem.Spec PyProof.Rows L2
/-! ### dict displays -/
/-- in its place, or at the end -/
def putD (kds : List (D × D)) (k : Key) (d : D) : List (D × D) :=
  if (kds.any fun p => decide (toKey p.1 = some k)) = true then kds.map (fun p => if toKey p.1 = some k then (p.1, d) else p) else kds ++ [(keyD k, d)]
def mergeD (kds : List (D × D)) (more : List (Key × D)) : List (D × D) := more.foldl (fun acc p => putD acc p.1 p.2) kds
theorem toKey_keyD (k : Key) : toKey (keyD k) = some k := by cases k <;> rfl
section
variable {K : PySem.W.Frag} {F : Hp}
theorem DvKV.any (k : Key) : ∀ {ks : List (Key × V)} {kds : List (D × D)}, DvKV K F ks kds → (ks.any fun p => decide (p.1 = k)) = (kds.any fun p => decide (toKey p.1 = some k))
  | _, _, .nil => rfl
  | _, _, .cons (k := k') _ t => by
    rw [List.any_cons, List.any_cons, DvKV.any k t, toKey_keyD]
    congr 1
    exact decide_eq_decide.mpr ⟨fun e => (by have e' : k' = k := e; rw [e']), fun e => Option.some.inj e⟩
theorem DvKV.over (k : Key) {v : V} {d : D} (h : Dv K F v d) : ∀ {ks : List (Key × V)} {kds : List (D × D)}, DvKV K F ks kds → DvKV K F (ks.map fun p => if p.1 = k then (p.1, v) else p) (kds.map fun p => if toKey p.1 = some k then (p.1, d) else p)
  | _, _, .nil => .nil
  | _, _, .cons (k := k') (v := v') (d := d') r t => by
    rw [List.map_cons, List.map_cons]
    show DvKV K F ((if k' = k then (k', v) else (k', v')) :: _) ((if toKey (keyD k') = some k then (keyD k', d) else (keyD k', d')) :: _)
    rw [toKey_keyD]
    by_cases e : k' = k
    · rw [if_pos e, if_pos (by rw [e])]
      exact .cons h (DvKV.over k h t)
    · rw [if_neg e, if_neg fun z => e (Option.some.inj z)]
      exact .cons r (DvKV.over k h t)
theorem DvKV.snoc {k : Key} {v : V} {d : D} (h : Dv K F v d) : ∀ {ks : List (Key × V)} {kds : List (D × D)}, DvKV K F ks kds → DvKV K F (ks ++ [(k, v)]) (kds ++ [(keyD k, d)])
  | _, _, .nil => .cons h .nil
  | _, _, .cons r t => .cons r (DvKV.snoc h t)
theorem DvKV.put (k : Key) {v : V} {d : D} (h : Dv K F v d) {ks : List (Key × V)} {kds : List (D × D)} (t : DvKV K F ks kds) : DvKV K F (putK ks k v) (putD kds k d) := by
  unfold putK putD
  rw [DvKV.any k t]
  split
  · exact DvKV.over k h t
  · exact DvKV.snoc h t
/-- pairs of values and their data -/
abbrev RP (K : PySem.W.Frag) (F : Hp) : List (V × V) → List (Key × D) → Prop := Paired fun a b => a.1 = kV b.1 ∧ Dv K F a.2 b.2
theorem RP.keys : ∀ {ps : List (V × V)} {kds : List (Key × D)}, RP K F ps kds → ∃ kvs : List (Key × V), ps = kvs.map (fun kv => (kV kv.1, kv.2)) ∧ kvs.length = kds.length ∧ Paired (fun (a : Key × V) (b : Key × D) => a.1 = b.1 ∧ Dv K F a.2 b.2) kvs kds
  | _, _, .nil => ⟨[], rfl, rfl, .nil⟩
  | _, _, .cons (a := a) (b := b) h t => by
    obtain ⟨kvs, e1, e2, e3⟩ := RP.keys t
    obtain ⟨a1, a2⟩ := a
    obtain ⟨h1, h2⟩ := h
    have h1' : a1 = kV b.1 := h1
    subst h1'
    exact ⟨(b.1, a2) :: kvs, by rw [e1]; rfl, by rw [List.length_cons, List.length_cons, e2], .cons ⟨rfl, h2⟩ e3⟩
theorem merge_dv : ∀ {kvs : List (Key × V)} {kds : List (Key × D)} {ks : List (Key × V)} {ds : List (D × D)}, Paired (fun (a : Key × V) (b : Key × D) => a.1 = b.1 ∧ Dv K F a.2 b.2) kvs kds → DvKV K F ks ds → DvKV K F (mergeK ks kvs) (mergeD ds kds)
  | _, _, _, _, .nil, t => t
  | _, _, ks, ds, .cons (a := a) (b := b) h r, t => by
    obtain ⟨a1, a2⟩ := a
    obtain ⟨b1, b2⟩ := b
    obtain ⟨h1, h2⟩ := h
    have h1' : a1 = b1 := h1
    subst h1'
    exact merge_dv (ks := putK ks a1 a2) (ds := putD ds a1 b2) r (DvKV.put a1 h2 t)
end
def dPairs : List ((Env' → M Val) × (Env' → M Val)) → Env' → M (List (Key × D))
  | [], _ => M.ret []
  | (f, g) :: r, ρ => (f ρ).bind fun x S => match (rd S x).bind toKey with
    | some k => ((g ρ S).bind frz).bind fun d => (dPairs r ρ).bind fun ps => M.ret ((k, d) :: ps)
    | none => .st
def dDict (ps : List ((Env' → M Val) × (Env' → M Val))) : Env' → M Val := fun ρ S => (dPairs ps ρ (S ++ [.dct []])).bind fun kds S' => match S'[S.length]? with
  | some (.dct []) => if kds.length ≤ 15 then .ok (.d (.dict (mergeD [] kds))) (S'.take S.length) else .st
  | _ => .st
def dDict0 : Env' → M Val := fun _ S => .ok (.d (.dict [])) S
section
variable {X : Cx} {n : Nat} {W : WX} {pos : Pos} {k v : Expr} {f g : Env' → M Val}
theorem ed_dict0 : ED X W (.Dict [] [] pos) dDict0 := PE.imp pe_dnewK fun σ H Q ⟨α, S, ρ, R, re, q⟩ => fun p hp => by
  obtain ⟨r3, x3, f3⟩ := R.new hp (.dK [])
  exact q _ _ _ x3 r3 (.dct f3 .nil)
abbrev trsD (X : Cx) (W : WX) (ps : List ((Env' → M Val) × (Env' → M Val))) : List (TE × TE) := ps.map fun p => (tD X.K X.mg W p.1, tD X.K X.mg W p.2)
theorem pairsQ {σ : L2.St} : ∀ (ps : List ((Env' → M Val) × (Env' → M Val))) {α : List Addr} {S : List Cell} {H : Hp} {ρ : Env'} {Q : List (V × V) → Hp → Prop}, Rep X.K X.mg ⟨α, S, H⟩ → RE X.K ⟨α, S, H⟩ σ ρ →
    After X.K X.mg (fun w a b => RP X.K w.F a b) ⟨α, S, H⟩ (dPairs ps ρ S) Q (fun c d H' => W c d σ H') → tPairs (trsD X W ps) σ H Q
  | [], α, S, H, ρ, Q, R, re, q => q α H [] (Ext.refl _) R .nil
  | (f, g) :: r, α, S, H, ρ, Q, R, re, q => by
    unfold dPairs at q
    refine ⟨α, S, ρ, R, re, After.imp (After.split (rel := RV X.K) q) (fun x H1 ⟨α1, S1, xa, e1, R1, r1, q1⟩ => ?_) fun _ _ _ z => z⟩
    cases ek : (rd S1 xa).bind toKey with
    | none => rw [ek] at q1; exact False.elim q1
    | some kk =>
      rw [ek] at q1
      dsimp only at q1
      obtain ⟨da, ed, et⟩ := Option.bind_eq_some_iff.mp ek
      have hx : x = kV kk := dv_key (R1.any r1 ed) et
      rw [Res.bind_assoc] at q1
      refine ⟨α1, S1, ρ, R1, re.mono e1, After.imp (After.split (rel := RV X.K) q1) (fun y H2 ⟨α2, S2, ya, e2, R2, r2, q2⟩ => ?_) fun _ _ _ z => z⟩
      obtain ⟨S3, d, e3, R3, dv, q3⟩ := frz_ok (w := ⟨α2, S2, H2⟩) R2 r2 q2
      refine pairsQ r (α := α2) (S := S3) (ρ := ρ) R3 ((re.mono e1).mono (e2.trans e3)) (After.imp (After.split (rel := fun w a b => RP X.K w.F a b) q3) (fun ps H4 ⟨α4, S4, kds, e4, R4, r4, q4⟩ => ?_) fun _ _ _ z => z)
      exact q4 α4 H4 _ (Ext.refl _) R4 (.cons ⟨hx, dv.mono e4.same⟩ r4)
/-- as After.split, the second part still told of the first world -/
theorem After.split0 {K : PySem.W.Frag} {mg : Str → Option Value} {A A' B B' : Type} {rel : Wd → B → A → Prop} {rel' : Wd → B' → A' → Prop} {w w1 : Wd} {r : Res A} {k : A → M A'} {Q : B' → Hp → Prop} {E : XK} (h : After K mg rel' w (r.bind k) Q E) (e : Ext w w1) :
    After K mg rel w1 r (fun b H => ∃ α S a, Ext w1 ⟨α, S, H⟩ ∧ Rep K mg ⟨α, S, H⟩ ∧ rel ⟨α, S, H⟩ b a ∧ After K mg rel' w (k a S) Q E) E := by
  cases r with
  | st => exact h
  | ok a S => exact fun α H b e1 e2 e3 => ⟨α, S, a, e1, e2, e3, h⟩
  | ex x S => exact After.later (r := Res.ex x S) (rel := rel) h e
theorem ed_dict {keys : List (Option Expr)} {values : List Expr} {ps : List ((Env' → M Val) × (Env' → M Val))} (h : PPs X pos keys values (trsD X W ps)) (hall : keys.all (·.isSome) = true := by rfl) (hl : keys.length = values.length := by rfl) (h0 : keys ≠ [] := by exact fun z => nomatch z) (h15 : keys.length ≤ 15 := by decide) :
    ED X W (.Dict keys values pos) (dDict ps) := PE.imp (pe_disp h hall hl h0 h15) fun σ H Q ⟨α, S, ρ, R, re, q⟩ => fun p hp => by
  obtain ⟨Rc, ec⟩ := R.cell hp (c := .dct []) (o := .dK []) rfl ⟨[], upd_same, .nil⟩
  have ha : ((α ++ [p]) : List Addr)[S.length]? = some p := by
    have z : α.length = S.length := R.len
    rw [List.getElem?_append_right (by rw [z]; exact Nat.le_refl _), z, Nat.sub_self]; rfl
  refine pairsQ ps Rc (re.mono ec) (After.imp (After.split0 (rel := fun w a b => RP X.K w.F a b) q ec) (fun pv H1 ⟨α1, S1, kds, e1, R1, r1, q1⟩ => ?_) fun _ _ _ z => z)
  have ha1 := e1.at_ ha
  split at q1
  · rename_i hs
    split at q1
    · rename_i hz
      obtain ⟨ks, h1, h2⟩ := R1.at_ S.length p _ ha1 hs
      cases h2
      obtain ⟨kvs, g1, g2, g3⟩ := RP.keys r1
      refine ⟨h1, kvs, g1, by rw [g2]; exact hz, ?_⟩
      have dm : DvKV X.K (Wd.F ⟨α1, S1, H1⟩) (mergeK [] kvs) (mergeD [] kds) := merge_dv g3 .nil
      obtain ⟨R4, e4⟩ := R1.write (c' := .dct (mergeD [] kds)) (o := .dK (mergeK [] kvs)) ha1 hs rfl rfl ⟨_, upd_same, dm⟩
      have hs4 : (S1.set S.length (.dct (mergeD [] kds)))[S.length]? = some (.dct (mergeD [] kds)) := List.getElem?_set_self (List.getElem?_eq_some_iff.mp hs).1
      obtain ⟨R5, e5, d5⟩ := R4.seal (d := .dict (mergeD [] kds)) ha1 hs4 rfl upd_same fun F eF h => .dct h (dm.mono (e4.same.trans eF))
      have cut := Ext.cut R R5 (((ec.trans e1).trans e4).trans e5)
      have st : ((S1.set S.length (.dct (mergeD [] kds))).set S.length (.old (.dict (mergeD [] kds)))).take S.length = S1.take S.length := by
        rw [List.take_set_of_le (Nat.le_refl _), List.take_set_of_le (Nat.le_refl _)]
      have R6 := (R5.cut S.length).1
      have d6 := Dv.mono (R5.cut S.length).2 d5
      dsimp only at cut R6 d6
      rw [st] at cut R6 d6
      exact q1 _ _ _ cut R6 d6
    · exact False.elim q1
  · exact False.elim q1
theorem dd_nil : PPs X pos [] [] (trsD X W []) := pps_nil
theorem dd_cons {ks : List (Option Expr)} {vs : List Expr} {ps : List ((Env' → M Val) × (Env' → M Val))} (hk : ED X W k f) (hv : ED X W v g) (hr : PPs X pos ks vs (trsD X W ps)) : PPs X pos (some k :: ks) (v :: vs) (trsD X W ((f, g) :: ps)) := pps_cons hk hv hr
end
end Zz
set_option maxRecDepth 100000
set_option maxHeartbeats 4000000
namespace Zz
open PySem PySem.Spec PyProof.Rows L2
/-! ### any iterable of ours -/
/-- what one walks of a value -/
def itemsD : D → Option (List D)
  | .list ds => some ds
  | .tuple ds => some ds
  | .str x => some (x.cps.toList.map fun c => .str ⟨#[c]⟩)
  | _ => none
def itAny (f : Env' → M Val) : Env' → M (List D) := fun ρ => (f ρ).bind fun x => (frz x).bind fun d => match itemsD d with
  | some ds => M.ret ds
  | none => M.st
section
variable {X : Cx} {n : Nat} {W : WX} {pos p : Pos} {tg e a b : Expr} {f : Env' → M Val}
theorem PI.or {t t' : TI} (h : PI X tg e t) (h' : PI X tg e t') : PI X tg e (fun σ H R => t σ H R ∨ t' σ H R) := ⟨fun pins s σ H R I q => q.elim (h.run pins s σ H R I) (h'.run pins s σ H R I)⟩
theorem id_any (he : ED X W e f) : ID X W tg e (itAny f) := PI.imp (Zz.PI.or (id_seq (W := W) he) (Zz.PI.or (id_tup (W := W) he) (id_str (W := W) he))) fun σ H R ⟨α, S, ρ, h1, h2, q⟩ => by
  have z : (f ρ S).bind (fun x => (frz x).bind fun d => match itemsD d with | some ds => M.ret ds | none => M.st) = itAny f ρ S := rfl
  rw [← z] at q
  cases ef : f ρ S with
  | st => rw [ef] at q; exact False.elim q
  | ex x S1 =>
    refine .inl ⟨α, S, ρ, h1, h2, ?_⟩
    rw [ef] at q
    show After X.K X.mg (Yields X.K X.mg) ⟨α, S, H⟩ ((f ρ S).bind _) _ _
    rw [ef]
    exact q
  | ok x S1 =>
    rw [ef] at q
    have q' : After X.K X.mg (Yields X.K X.mg) ⟨α, S, H⟩ ((frz x S1).bind fun d => match itemsD d with | some ds => M.ret ds | none => M.st) R (fun c d H' => W c d σ H') := q
    cases ez : frz x S1 with
    | st => rw [ez] at q'; exact False.elim q'
    | ex y S2 => exact absurd ez (frz_noex _ _ _ _)
    | ok d S2 =>
      rw [ez] at q'
      cases d with
      | list ds =>
        refine .inl ⟨α, S, ρ, h1, h2, ?_⟩
        show After X.K X.mg (Yields X.K X.mg) ⟨α, S, H⟩ ((f ρ S).bind _) _ _
        rw [ef]
        show After X.K X.mg (Yields X.K X.mg) ⟨α, S, H⟩ ((frz x S1).bind _) _ _
        rw [ez]
        exact q'
      | tuple ds =>
        refine .inr (.inl ⟨α, S, ρ, h1, h2, ?_⟩)
        show After X.K X.mg (Yields X.K X.mg) ⟨α, S, H⟩ ((f ρ S).bind _) _ _
        rw [ef]
        show After X.K X.mg (Yields X.K X.mg) ⟨α, S, H⟩ ((frz x S1).bind _) _ _
        rw [ez]
        exact q'
      | str x =>
        refine .inr (.inr ⟨α, S, ρ, h1, h2, ?_⟩)
        show After X.K X.mg (Yields X.K X.mg) ⟨α, S, H⟩ ((f ρ S).bind _) _ _
        rw [ef]
        show After X.K X.mg (Yields X.K X.mg) ⟨α, S, H⟩ ((frz _ S1).bind _) _ _
        rw [ez]
        exact q'
      | none => exact False.elim q'
      | bool b => exact False.elim q'
      | int i => exact False.elim q'
      | dict ds => exact False.elim q'
end
/-! ### built-ins of two arguments -/
section
variable {X : Cx} {n : Nat} {W : WX} {pos : Pos} {a b : Expr} {f g : Env' → M Val}
theorem ed_fn2 {id : String} {x : Str} {p : Pos} {o : O2} (hc : CallR X (.builtin id) (fun xs H Q => ∃ u v, xs = [u, v] ∧ r2D X.K X.mg o u v H Q)) (hm : X.mg x = none) (hv : bootBuiltins x = some (.builtin id)) (ha : ED X W a f) (hb : ED X W b g) (hg : Gl X x := by rfl) (hn : x ≠ "__name__" := by decide) (hdb : (x == ("__debug__" : Str)) = false := by decide)
    (he : starEach [a, b] X.env = (false, eval a X.env) :: starEach [b] X.env := by rfl) (he2 : starEach [b] X.env = (false, eval b X.env) :: starEach [] X.env := by rfl) (hpl : (backTo pos (starEach [b] X.env)).any (·.1) = false := by rfl) : ED X W (.Call (.Name x p) [a, b] [] pos) (dBin o f g) :=
  PE.imp (pe_callB hc hg hm hv (pa_cons ha (pa_cons hb pa_nil he2) he) hn hdb he hpl) fun σ H Q q => by
    obtain ⟨α, S, ρ, R, re, q⟩ := binQ q
    refine ⟨α, S, ρ, R, re, After.imp q (fun v H1 q1 => ?_) fun _ _ _ z => z⟩
    obtain ⟨α1, S1, ρ1, R1, re1, q2⟩ := q1
    exact ⟨α1, S1, ρ1, R1, re1, After.imp q2 (fun u H2 q3 => ⟨v, u, rfl, q3⟩) fun _ _ _ z => z⟩
def oMin : O2 := fun a b => match a, b with
  | .int i, .int j => some (.int (if j < i then j else i))
  | _, _ => none
def oMax : O2 := fun a b => match a, b with
  | .int i, .int j => some (.int (if j > i then j else i))
  | _, _ => none
theorem cd_min (C : CxOk X n) : CallR X (.builtin "min") (fun xs H Q => ∃ u v, xs = [u, v] ∧ r2D X.K X.mg oMin u v H Q) := by
  refine CallR.imp (call_min2 C.hc) fun xs H Q h => ?_
  obtain ⟨u, v, rfl, w, a, b, da, db, c, rfl, R, ra, rb, ea, eb, ec, q⟩ := h
  unfold oMin at ec
  split at ec
  · cases ec
    cases R.int ra ea
    cases R.int rb eb
    exact ⟨_, _, rfl, q.here R (.int _)⟩
  · cases ec
theorem cd_max (C : CxOk X n) : CallR X (.builtin "max") (fun xs H Q => ∃ u v, xs = [u, v] ∧ r2D X.K X.mg oMax u v H Q) := by
  refine CallR.imp (call_max2 C.hc) fun xs H Q h => ?_
  obtain ⟨u, v, rfl, w, a, b, da, db, c, rfl, R, ra, rb, ea, eb, ec, q⟩ := h
  unfold oMax at ec
  split at ec
  · cases ec
    cases R.int ra ea
    cases R.int rb eb
    exact ⟨_, _, rfl, q.here R (.int _)⟩
  · cases ec
end
/-! ### classes asked of classes -/
section
variable {K : PySem.W.Frag} {C D : Addr} {b d : Bool} {T : String} {t c : Value} {r : List Value}
theorem kit_ref (hne : D ≠ C) (hd : PySem.W.hasDictIn K C = true) (ht : PySem.W.typeIn K (.ref C) = some (.type "type")) (h : PySem.W.subIn K (.ref D) (.ref C) = some b) : PySem.W.kitOne K (.ref D) (.ref C) = some b := by
  obtain ⟨cd, hc, _⟩ := PySem.W.any_some hd
  have e1 : (Value.ref D == Value.ref C) = false := beq_eq_false_iff_ne.mpr fun z => hne (Value.ref.inj z)
  have e2 : ((PySem.W.clsIn K C).isSome && PySem.W.typeIn K (.ref C) == some (.type "type")) = true := by rw [hc, ht] <;> rfl
  unfold PySem.W.kitOne
  rw [e1, if_neg Bool.false_ne_true]
  show (if ((PySem.W.clsIn K C).isSome && PySem.W.typeIn K (.ref C) == some (.type "type")) = true then PySem.W.subIn K (.ref D) (.ref C) else none) = some b
  rw [if_pos e2]
  exact h
theorem kit_same : PySem.W.kitOne K t t = some true := by
  unfold PySem.W.kitOne
  rw [if_pos (beq_self_eq_true t)]
theorem kit_typ (hm : PySem.W.kitMeta T = true) (h : PySem.W.subIn K (.ref D) (.type T) = some b) : PySem.W.kitOne K (.ref D) (.type T) = some b := by
  have e1 : (Value.ref D == Value.type T) = false := rfl
  unfold PySem.W.kitOne
  rw [e1, if_neg Bool.false_ne_true]
  show (if PySem.W.kitMeta T = true then PySem.W.subIn K (.ref D) (.type T) else none) = some b
  rw [if_pos hm]
  exact h
theorem exms_nil : PySem.W.exmAny K t [] = some false := rfl
theorem exms_cons (h : PySem.W.exmOne K t c = some b) (hr : PySem.W.exmAny K t r = some d) : PySem.W.exmAny K t (c :: r) = some (b || d) := by
  unfold PySem.W.exmAny
  rw [h, hr]
theorem kits_nil : PySem.W.kitAny K t [] = some false := rfl
theorem kits_no (h : PySem.W.kitOne K t c = some false) (hr : PySem.W.kitAny K t r = some d) : PySem.W.kitAny K t (c :: r) = some d := by
  unfold PySem.W.kitAny
  rw [h]
  exact hr
theorem kits_yes (h : PySem.W.kitOne K t c = some true) : PySem.W.kitAny K t (c :: r) = some true := by
  unfold PySem.W.kitAny
  rw [h]
end
/-! ### keywords in another order -/
def swap2 {T : Type} : List T → List T
  | [x, y] => [y, x]
  | l => l
theorem swap2_p {T U : Type} {r : T → U → Prop} : ∀ {a : List T} {b : List U}, Paired r a b → Paired r (swap2 a) (swap2 b)
  | _, _, .nil => .nil
  | _, _, .cons h .nil => .cons h .nil
  | _, _, .cons h (.cons k .nil) => .cons k (.cons h .nil)
  | _, _, .cons h (.cons k (.cons m t)) => .cons h (.cons k (.cons m t))
theorem swap2_l {T : Type} : ∀ a : List T, (swap2 a).length = a.length
  | [] => rfl
  | [_] => rfl
  | [_, _] => rfl
  | _ :: _ :: _ :: _ => rfl
/-- the same order -/
def same2 {T : Type} (a : List T) : List T := a
end Zz
set_option maxRecDepth 100000
set_option maxHeartbeats 4000000
namespace Zz
open PySem PySem.Spec PyProof.Rows L2
/-! ### reckoning with readings -/
@[simp] theorem rd_d (S : List Cell) (x : D) : rd S (.d x) = some x := rfl
@[simp] theorem frz_d (x : D) (S : List Cell) : frz (.d x) S = .ok x S := rfl
@[simp] theorem Res.bind_ok {A B : Type} (a : A) (S : List Cell) (k : A → M B) : (Res.ok a S).bind k = k a S := rfl
@[simp] theorem Res.bind_st {A B : Type} (k : A → M B) : (Res.st : Res A).bind k = .st := rfl
@[simp] theorem Res.bind_ex {A B : Type} (x : Ex) (S : List Cell) (k : A → M B) : (Res.ex x S : Res A).bind k = .ex x S := rfl
@[simp] theorem Res.then_ok {A : Type} (a : A) (S : List Cell) (ρ : Env') (k : A → List Cell → SRes) : (Res.ok a S).then_ ρ k = k a S := rfl
@[simp] theorem Res.then_ex {A : Type} (x : Ex) (S : List Cell) (ρ : Env') (k : A → List Cell → SRes) : (Res.ex x S : Res A).then_ ρ k = .ex x ρ S := rfl
@[simp] theorem M.bind_at {A B : Type} (m : M A) (k : A → M B) (S : List Cell) : M.bind m k S = (m S).bind k := rfl
@[simp] theorem M.ret_at {A : Type} (a : A) (S : List Cell) : M.ret a S = .ok a S := rfl
@[simp] theorem dC_at (d : D) (ρ : Env') (S : List Cell) : dC d ρ S = .ok (.d d) S := rfl
theorem dVar_at {i : Nat} {ρ : Env'} {S : List Cell} {x : Val} (h : ρ[i]? = some (some x)) : dVar i ρ S = .ok x S := by unfold dVar; rw [h]
@[simp] theorem on1_d (o : D → Option D) (x c : D) (S : List Cell) (h : o x = some c) : on1 o (.d x) S = .ok (.d c) S := by unfold on1; simp [h]
theorem dFn1_at {o : D → Option D} {f : Env' → M Val} {ρ : Env'} {S S' : List Cell} {v : Val} {x c : D} (h : f ρ S = .ok v S') (hr : rd S' v = some x) (e : o x = some c) : dFn1 o f ρ S = .ok (.d c) S' := by
  show (f ρ S).bind (on1 o) = _
  rw [h]
  show on1 o v S' = _
  unfold on1
  rw [hr]
  simp [e]
theorem dBin_at {o : O2} {f g : Env' → M Val} {ρ : Env'} {S S1 S2 : List Cell} {v u : Val} {x y c : D} (h : f ρ S = .ok v S1) (h2 : g ρ S1 = .ok u S2) (hr : rd S2 v = some x) (hr2 : rd S2 u = some y) (e : o x y = some c) : dBin o f g ρ S = .ok (.d c) S2 := by
  show (f ρ S).bind (fun x => (g ρ).bind fun y => on2 o x y) = _
  rw [h]
  show (g ρ S1).bind (fun y => on2 o v y) = _
  rw [h2]
  show on2 o v u S2 = _
  unfold on2
  rw [hr, hr2]
  simp [e]
/-! ### comprehensions that only tell -/
theorem lcGo_pure {g : Tg} {ts : Env' → M Bool} {f : Env' → M Val} {ρ0 : Env'} {S : List Cell} {ρ1 : D → Env'} {p : D → Bool} {v : D → D} : ∀ (ds acc : List D), acc.length + ds.length ≤ 16777216 →
    (∀ d ∈ ds, g (.d d) ρ0 = some (ρ1 d)) → (∀ d ∈ ds, ∀ R, ts (ρ1 d) (S ++ R) = .ok (p d) (S ++ R)) → (∀ d ∈ ds, p d = true → ∀ R, f (ρ1 d) (S ++ R) = .ok (.d (v d)) (S ++ R)) →
    lcGo g (kTest ts (kPush S.length f)) ρ0 ds (S ++ [.lst acc]) = some (S ++ [.lst (acc ++ (ds.filter p).map v)])
  | [], acc, _, _, _, _ => by simp [lcGo]
  | d :: ds, acc, hl, h1, h2, h3 => by
    have hl' : acc.length + (ds.length + 1) ≤ 16777216 := hl
    unfold lcGo
    rw [h1 d List.mem_cons_self]
    show (kTest ts (kPush S.length f) (ρ1 d) (S ++ [.lst acc])).bind _ = _
    have get : (S ++ [Cell.lst acc])[S.length]? = some (.lst acc) := by rw [List.getElem?_append_right (Nat.le_refl _), Nat.sub_self]; rfl
    unfold kTest
    rw [h2 d List.mem_cons_self]
    dsimp only
    by_cases hp : p d = true
    · rw [if_pos hp]
      unfold kPush
      rw [h3 d List.mem_cons_self hp]
      show (push S.length (v d) (S ++ [.lst acc])).bind _ = _
      unfold push
      rw [get]
      dsimp only
      rw [if_pos (by omega)]
      have st : (S ++ [Cell.lst acc]).set S.length (.lst (acc ++ [v d])) = S ++ [.lst (acc ++ [v d])] := by
        rw [List.set_append_right _ _ (Nat.le_refl _), Nat.sub_self]; rfl
      rw [st]
      show lcGo g (kTest ts (kPush S.length f)) ρ0 ds (S ++ [.lst (acc ++ [v d])]) = _
      rw [lcGo_pure ds (acc ++ [v d]) (by simp; omega) (fun e he => h1 e (List.mem_cons_of_mem _ he)) (fun e he => h2 e (List.mem_cons_of_mem _ he)) (fun e he => h3 e (List.mem_cons_of_mem _ he)), List.filter_cons_of_pos hp, List.map_cons, List.append_assoc]
      rfl
    · rw [if_neg hp]
      show lcGo g (kTest ts (kPush S.length f)) ρ0 ds (S ++ [.lst acc]) = _
      rw [lcGo_pure ds acc (by omega) (fun e he => h1 e (List.mem_cons_of_mem _ he)) (fun e he => h2 e (List.mem_cons_of_mem _ he)) (fun e he => h3 e (List.mem_cons_of_mem _ he)), List.filter_cons_of_neg hp]
theorem lcEnd_at (S : List Cell) (es : List D) : lcEnd S.length (some (S ++ [.lst es])) = .ok (.d (.list es)) S := by
  unfold lcEnd
  have get : (S ++ [Cell.lst es])[S.length]? = some (.lst es) := by rw [List.getElem?_append_right (Nat.le_refl _), Nat.sub_self]; rfl
  have z : frz (.c S.length) (S ++ [Cell.lst es]) = .ok (.list es) ((S ++ [Cell.lst es]).set S.length (.old (.list es))) := by
    unfold frz
    simp only [get]
  show (frz (.c S.length) (S ++ [Cell.lst es])).bind (fun d T' => Res.ok (Val.d d) (T'.take S.length)) = _
  rw [z]
  show Res.ok _ (((S ++ [Cell.lst es]).set S.length (.old (.list es))).take S.length) = _
  rw [List.take_set_of_le (Nat.le_refl _), List.take_left']
  rfl
theorem dLc_pure {it : Env' → M (List D)} {g : Tg} {ts : Env' → M Bool} {f : Env' → M Val} {vs : List Nat} {ρ : Env'} {S S1 : List Cell} {ds : List D} {ρ1 : D → Env'} {p : D → Bool} {v : D → D} (hi : it ρ S = .ok ds S1) (hl : ds.length ≤ 16777216)
    (h1 : ∀ d ∈ ds, g (.d d) (wipeE ρ vs) = some (ρ1 d)) (h2 : ∀ d ∈ ds, ∀ R, ts (ρ1 d) (S1 ++ R) = .ok (p d) (S1 ++ R)) (h3 : ∀ d ∈ ds, p d = true → ∀ R, f (ρ1 d) (S1 ++ R) = .ok (.d (v d)) (S1 ++ R)) :
    dLc it g (fun l => kTest ts (kPush l f)) vs ρ S = .ok (.d (.list ((ds.filter p).map v))) S1 := by
  show (it ρ S).bind _ = _
  rw [hi]
  show lcEnd S1.length (lcGo g (kTest ts (kPush S1.length f)) (wipeE ρ vs) ds (S1 ++ [.lst []])) = _
  rw [lcGo_pure ds [] (by simpa using hl) h1 h2 h3, List.nil_append, lcEnd_at]
/-- the signs of a text, each a text -/
def signs (x : Str) : List D := x.cps.toList.map fun c => .str ⟨#[c]⟩
theorem itAny_at {f : Env' → M Val} {ρ : Env'} {S S1 : List Cell} {d : D} {ds : List D} (h : f ρ S = .ok (.d d) S1) (e : itemsD d = some ds) : itAny f ρ S = .ok ds S1 := by
  show (f ρ S).bind _ = _
  rw [h]
  show (match itemsD d with | some ds => M.ret ds | none => M.st) S1 = _
  rw [e]
  rfl
theorem itRng_at {f : Env' → M Val} {ρ : Env'} {S S1 : List Cell} {j : Int} (h : f ρ S = .ok (.d (.int j)) S1) (hz : -(2 ^ 62) ≤ j ∧ j < 2 ^ 62) : itRng f ρ S = .ok ((List.range j.toNat).map fun i : Nat => .int (0 + i)) S1 := by
  show (f ρ S).bind _ = _
  rw [h]
  show (if -(2 ^ 62) ≤ j ∧ j < 2 ^ 62 then M.ret ((List.range j.toNat).map fun i : Nat => PyData.int (0 + i)) else M.st) S1 = _
  rw [if_pos hz]
  rfl
theorem iteA {A B : Type} {c : Prop} [Decidable c] (f g : A → B) (a : A) : (if c then f else g) a = if c then f a else g a := by split <;> rfl
theorem size_len (x : Str) : x.cps.toList.length = x.length := by simp [Str.length]
theorem filter_yes {A : Type} (l : List A) : l.filter (fun _ => true) = l := by induction l with | nil => rfl | cons a l ih => rw [List.filter_cons_of_pos rfl, ih]
theorem at0 {A : Type} (a : A) (r : List A) : atI (a :: r) 0 = some a := atI_nat (j := 0) rfl
end Zz
set_option maxRecDepth 100000
set_option maxHeartbeats 4000000
namespace Zz
open PySem PySem.Spec PyProof.Rows L2
/-! ### reckoning step by step -/
section
variable {ρ ρ' : Env'} {S S' S1 S2 : List Cell}
theorem sSeq_nx {f g : SD} (h : f ρ S = .nx ρ' S') : sSeq f g ρ S = g ρ' S' := by unfold sSeq; rw [h]
theorem sSeq_rt {f g : SD} {v : Val} (h : f ρ S = .rt v S') : sSeq f g ρ S = .rt v S' := by unfold sSeq; rw [h]
theorem sSet_at {i : Nat} {f : Env' → M Val} {v : Val} (h : f ρ S = .ok v S') : sSet i f ρ S = .nx (ρ.set i (some v)) S' := by unfold sSet; rw [h]; rfl
theorem sRet_at {f : Env' → M Val} {v : Val} (h : f ρ S = .ok v S') : sRet f ρ S = .rt v S' := by unfold sRet; rw [h]; rfl
theorem sExpr_at {f : Env' → M Val} {v : Val} (h : f ρ S = .ok v S') : sExpr f ρ S = .nx ρ S' := by unfold sExpr; rw [h]; rfl
theorem sIf_at {t : Env' → M Bool} {f g : SD} {b : Bool} (h : t ρ S = .ok b S') : sIf t f g ρ S = if b = true then f ρ S' else g ρ S' := by unfold sIf; rw [h]; rfl
theorem sIf_t {t : Env' → M Bool} {f g : SD} (h : t ρ S = .ok true S') : sIf t f g ρ S = f ρ S' := by rw [sIf_at h, if_pos rfl]
theorem sIf_f {t : Env' → M Bool} {f g : SD} (h : t ρ S = .ok false S') : sIf t f g ρ S = g ρ S' := by rw [sIf_at h, if_neg Bool.false_ne_true]
theorem sIf_skip {t : Env' → M Bool} {f : SD} (h : t ρ S = .ok false S') : sIf t f sNil ρ S = .nx ρ S' := sIf_f h
theorem toB_at {f : Env' → M Val} {b : Bool} (h : f ρ S = .ok (.d (.bool b)) S') : toB f ρ S = .ok b S' := by unfold toB; rw [h]; rfl
theorem toT_at {f : Env' → M Val} {v : Val} {d : D} {b : Bool} (h : f ρ S = .ok v S') (hr : rd S' v = some d) (e : truD d = some b) : toT f ρ S = .ok b S' := by
  show (f ρ S).bind _ = _
  rw [h]
  show (match rd S' v with | some d => (match truD d with | some b => Res.ok b S' | none => .st) | none => .st) = _
  rw [hr]
  show (match truD d with | some b => Res.ok b S' | none => .st) = _
  rw [e]
theorem tNotD_at {t : Env' → M Bool} {b : Bool} (h : t ρ S = .ok b S') : tNotD t ρ S = .ok (!b) S' := by
  show (t ρ S).bind _ = _
  rw [h]; rfl
theorem tAndD_t {t u : Env' → M Bool} {b : Bool} (h : t ρ S = .ok true S') (h2 : u ρ S' = .ok b S2) : tAndD t u ρ S = .ok b S2 := by
  show (t ρ S).bind _ = _
  rw [h]; exact h2
theorem tAndD_f {t u : Env' → M Bool} (h : t ρ S = .ok false S') : tAndD t u ρ S = .ok false S' := by
  show (t ρ S).bind _ = _
  rw [h]; rfl
theorem tOrD_t {t u : Env' → M Bool} (h : t ρ S = .ok true S') : tOrD t u ρ S = .ok true S' := by
  show (t ρ S).bind _ = _
  rw [h]; rfl
theorem tOrD_f {t u : Env' → M Bool} {b : Bool} (h : t ρ S = .ok false S') (h2 : u ρ S' = .ok b S2) : tOrD t u ρ S = .ok b S2 := by
  show (t ρ S).bind _ = _
  rw [h]; exact h2
theorem dIf_t {t : Env' → M Bool} {f g : Env' → M Val} (h : t ρ S = .ok true S') : dIf t f g ρ S = f ρ S' := by
  show (t ρ S).bind _ = _
  rw [h]; rfl
theorem dIf_f {t : Env' → M Bool} {f g : Env' → M Val} (h : t ρ S = .ok false S') : dIf t f g ρ S = g ρ S' := by
  show (t ρ S).bind _ = _
  rw [h]; rfl
theorem dNil_at : dNil ρ S = .ok [] S := rfl
theorem dCons_at {f : Env' → M Val} {g : Env' → M (List Val)} {x : Val} {xs : List Val} (h : f ρ S = .ok x S1) (h2 : g ρ S1 = .ok xs S2) : dCons f g ρ S = .ok (x :: xs) S2 := by
  show (f ρ S).bind _ = _
  rw [h]
  show (g ρ S1).bind _ = _
  rw [h2]; rfl
theorem dCall_at {F : Fn} {g : Env' → M (List Val)} {xs : List Val} (h : g ρ S = .ok xs S1) : dCall F g ρ S = F xs S1 := by
  show (g ρ S).bind _ = _
  rw [h]; rfl
theorem dTup_at {g : Env' → M (List Val)} {xs : List Val} {ds : List D} (h : g ρ S = .ok xs S1) (h2 : frzs xs S1 = .ok ds S2) (hz : ds.length ≤ 16777216) : dTup g ρ S = .ok (.d (.tuple ds)) S2 := by
  show (g ρ S).bind _ = _
  rw [h]
  show (frzs xs S1).bind _ = _
  rw [h2]
  show (if ds.length ≤ 16777216 then M.ret (Val.d (.tuple ds)) else M.st) S2 = _
  rw [if_pos hz]; rfl
theorem dLst_at {g : Env' → M (List Val)} {xs : List Val} {ds : List D} (h : g ρ S = .ok xs S1) (h2 : frzs xs S1 = .ok ds S2) (hz : ds.length ≤ 16777216) : dLst g ρ S = .ok (.d (.list ds)) S2 := by
  show (g ρ S).bind _ = _
  rw [h]
  show (frzs xs S1).bind _ = _
  rw [h2]
  show (if ds.length ≤ 16777216 then M.ret (Val.d (.list ds)) else M.st) S2 = _
  rw [if_pos hz]; rfl
theorem frzs_d : ∀ (ms : List D) (S : List Cell), frzs (ms.map .d) S = .ok ms S
  | [], S => rfl
  | d :: ms, S => by
    show ((frzs (ms.map .d) S).bind fun ds => M.ret (d :: ds)) = _
    rw [frzs_d ms S]; rfl
theorem body_rt {np nl : Nat} {b : SD} {as : List Val} {d : D} {R : List Cell} (ha : as.length = np) (h : b (as.map some ++ List.replicate (nl - as.length) none) S = .rt (.d d) R) : bodyFn np nl b as S = .ok (.d d) (R.take S.length) := by
  unfold bodyFn
  rw [if_pos ha, h]; rfl
/-- an index within -/
theorem atI_in {A : Type} (l : List A) (i : Int) (h0 : 0 ≤ i) (h1 : i < l.length) : ∃ a, a ∈ l ∧ atI l i = some a := by
  obtain ⟨j, rfl⟩ := Int.eq_ofNat_of_zero_le h0
  have hj : j < l.length := by omega
  exact ⟨l[j], List.getElem_mem hj, atI_nat (j := j) (List.getElem?_eq_getElem hj)⟩
theorem fmod_in (i : Int) (n : Int) (h : 0 < n) : 0 ≤ i.fmod n ∧ i.fmod n < n := ⟨Int.fmod_nonneg_of_pos i h, Int.fmod_lt_of_pos i h⟩
end
end Zz
set_option maxRecDepth 100000
set_option maxHeartbeats 4000000
namespace Zz
open PySem PySem.Spec PyProof.Rows L2
section
variable {X : Cx} {n : Nat} {W : WX} {pos : Pos} {a b : Expr} {f g : Env' → M Val}
/-! ### -n -/
def oNeg : D → Option D
  | .int i => some (.int (-i))
  | _ => none
theorem ed_neg (ha : ED X W a f) : ED X W (.UnaryOp .USub a pos) (dFn1 oNeg f) := PE.imp (pe_un un_neg ha) fun σ H Q ⟨α, S, ρ, R, re, q⟩ => ⟨α, S, ρ, R, re, After.imp (After.split (rel := RV X.K) q) (fun v H1 ⟨α1, S1, x, e1, R1, r1, q1⟩ => by
  obtain ⟨w, y, z, da, c, rfl, e3, Rw, rx, ea2, ec, ans⟩ := on1_ok (w := ⟨α1, S1, H1⟩) R1 r1 q1
  cases e3
  unfold oNeg at ec
  split at ec
  · cases ec
    cases Rw.int rx ea2
    exact ⟨_, rfl, ans.here Rw (.int _)⟩
  · cases ec) fun _ _ _ z => z⟩
/-! ### str(x) -/
def oStr : D → Option D
  | .int i => if i.natAbs.log2 < 1920 then some (.str (toString i)) else none
  | .str x => some (.str x)
  | .bool b => some (.str (if b then "True" else "False"))
  | _ => none
theorem call_str_bl : CallR X (.type "str") (fun xs H Q => ∃ b, xs = [.bl b] ∧ Q (.str (if b then "True" else "False")) H) := by
  intro pins s σ H xs us Q I r h
  obtain ⟨b, rfl, q⟩ := h
  obtain ⟨u, rfl, e⟩ := vals1 r
  cases e
  exact PySem.P.str_of_bool ⟨.str _, H, I.tok _, ⟨_, rfl⟩, q⟩
theorem CallR.or {v : Value} {r r' : List V → Hp → VK → Prop} (h : CallR X v r) (h' : CallR X v r') : CallR X v (fun xs H Q => r xs H Q ∨ r' xs H Q) := fun pins s σ H xs us Q I rr q => q.elim (h pins s σ H xs us Q I rr) (h' pins s σ H xs us Q I rr)
theorem cd_str : CallR X (.type "str") (r1D X.K X.mg oStr) := by
  refine CallR.imp (Zz.CallR.or (call_str_int (X := X)) (Zz.CallR.or (SkE.call_str_str (X := X)) (call_str_bl (X := X)))) fun xs H Q h => ?_
  obtain ⟨w, x, a, da, c, rfl, rfl, R, ra, ea, ec, q⟩ := h
  unfold oStr at ec
  split at ec
  · split at ec
    · rename_i hz
      cases ec
      cases R.int ra ea
      exact .inl ⟨_, rfl, hz, q.here R (.str _)⟩
    · cases ec
  · cases ec
    cases R.str ra ea
    exact .inr (.inl ⟨_, rfl, q.here R (.str _)⟩)
  · cases ec
    cases R.bool ra ea
    exact .inr (.inr ⟨_, rfl, q.here R (.str _)⟩)
  · cases ec
/-! ### list(range(n)), tuple(range(n)) -/
def rgD (j : Int) : List D := (List.range j.toNat).map fun i : Nat => .int (0 + i)
theorem dv_rg {K : PySem.W.Frag} {F : Hp} (j : Int) : DvAll K F (rgV 0 j) (rgD j) := by
  unfold rgV rgD
  rw [Int.sub_zero]
  induction List.range j.toNat with
  | nil => exact .nil
  | cons a l ih => exact .cons (.int _) ih
def onRg (k : List D → D) : Val → M Val := fun x S => match rd S x with
  | some (.int j) => if 0 ≤ j ∧ j ≤ 16777216 then .ok (.d (k (rgD j))) S else .st
  | _ => .st
def dLstRg (f : Env' → M Val) : Env' → M Val := fun ρ => (f ρ).bind (onRg .list)
def dTupRg (f : Env' → M Val) : Env' → M Val := fun ρ => (f ρ).bind (onRg .tuple)
theorem rgQ {k : List D → D} {w : Wd} {v : V} {x : Val} {Q : VK} {E : XK} (R : Rep X.K X.mg w) (r : RV X.K w v x) (q : After X.K X.mg (RV X.K) w (onRg k x w.S) Q E) : ∃ j, v = .int j ∧ 0 ≤ j ∧ j ≤ 16777216 ∧ ∀ H' u, Ext w (w.at H') → Rep X.K X.mg (w.at H') → Dv X.K (w.at H').F u (k (rgD j)) → Q u H' := by
  unfold onRg at q
  cases e : rd w.S x with
  | none => rw [e] at q; exact False.elim q
  | some d =>
    cases d <;> first | (rw [e] at q; exact False.elim q) | skip
    rename_i j
    rw [e] at q
    dsimp only at q
    split at q
    · rename_i hz
      exact ⟨j, R.int r e, hz.1, hz.2, fun H' u e1 R1 d1 => q w.α H' u e1 R1 d1⟩
    · exact False.elim q
theorem ed_listRg {p p2 pos2 : Pos} (C : CxOk X n) (hm : X.mg "list" = none) (hm2 : X.mg "range" = none) (ha : ED X W a f) (hg : Gl X "list" := by rfl) (hg2 : Gl X "range" := by rfl) (na : starEach [a] X.env = (false, eval a X.env) :: starEach [] X.env := by rfl)
    (na2 : starEach [.Call (.Name "range" p2) [a] [] pos2] X.env = (false, eval (.Call (.Name "range" p2) [a] [] pos2) X.env) :: starEach [] X.env := by rfl) : ED X W (.Call (.Name "list" p) [.Call (.Name "range" p2) [a] [] pos2] [] pos) (dLstRg f) :=
  PE.imp (pe_listRg C.hc hg hm (prg_1 hg2 hm2 ha na) na2) fun σ H Q ⟨α, S, ρ, R, re, q⟩ => ⟨α, S, ρ, R, re, After.imp (After.split (rel := RV X.K) q) (fun v H1 ⟨α1, S1, x, e1, R1, r1, q1⟩ => by
    obtain ⟨j, rfl, h0, h1, q2⟩ := rgQ (w := ⟨α1, S1, H1⟩) R1 r1 q1
    refine ⟨j, rfl, RgOk.of_le (by decide) h1 (by decide) h0, fun p hp => ?_⟩
    obtain ⟨r3, x3, f3⟩ := R1.new hp (.lst (rgV 0 j))
    exact q2 _ _ x3 r3 (.lst (SqL.of f3) (dv_rg j))) fun _ _ _ z => z⟩
theorem ed_tupRg {p p2 pos2 : Pos} (C : CxOk X n) (hm : X.mg "tuple" = none) (hm2 : X.mg "range" = none) (ha : ED X W a f) (hg : Gl X "tuple" := by rfl) (hg2 : Gl X "range" := by rfl) (na : starEach [a] X.env = (false, eval a X.env) :: starEach [] X.env := by rfl)
    (na2 : starEach [.Call (.Name "range" p2) [a] [] pos2] X.env = (false, eval (.Call (.Name "range" p2) [a] [] pos2) X.env) :: starEach [] X.env := by rfl) : ED X W (.Call (.Name "tuple" p) [.Call (.Name "range" p2) [a] [] pos2] [] pos) (dTupRg f) :=
  PE.imp (pe_tupRgP C.hc hg hm (prg_1 hg2 hm2 ha na) na2) fun σ H Q ⟨α, S, ρ, R, re, q⟩ => ⟨α, S, ρ, R, re, After.imp (After.split (rel := RV X.K) q) (fun v H1 ⟨α1, S1, x, e1, R1, r1, q1⟩ => by
    obtain ⟨j, rfl, h0, h1, q2⟩ := rgQ (w := ⟨α1, S1, H1⟩) R1 r1 q1
    refine ⟨j, rfl, RgOk.of_le (by decide) h1 (by decide) h0, fun p ob hp hd => ?_⟩
    obtain ⟨r3, x3, f3⟩ := R1.new hp (.frz ob (.tup (rgV 0 j)))
    exact q2 _ _ x3 r3 (.tup (.inl ⟨ob, f3, hd⟩) (dv_rg j))) fun _ _ _ z => z⟩
end
/-- nothing is promised -/
theorem fnG_st {P : Program} {w : World} {K : PySem.W.Frag} {mg : Str → Option Value} {base : Heap} {k : Nat} {f : Addr} {fd : FuncData} {ps : List Str} : FnG P w K mg base k f fd ps (fun _ _ => .st) :=
  ⟨fun _ _ _ _ _ _ _ _ _ _ _ _ _ _ _ h => by obtain ⟨_, _, _, _, _, q⟩ := h; exact False.elim q⟩
end Zz
set_option maxRecDepth 100000
set_option maxHeartbeats 4000000
namespace Zz
open PySem PySem.Spec PyProof.Rows L2
/-! ### dict(pairs), x[::-1] -/
def pairD : D → Option (Key × D)
  | .tuple [k, v] => (toKey k).map fun j => (j, v)
  | _ => none
def oDictOf : D → Option D
  | .list ps => (ps.mapM pairD).map fun kds => .dict (mergeD [] kds)
  | .tuple ps => (ps.mapM pairD).map fun kds => .dict (mergeD [] kds)
  | _ => none
theorem pairs_dv {K : PySem.W.Frag} {F H : Hp} (e : Same F H) : ∀ {ps : List D} {xs : List V} {kds : List (Key × D)}, DvAll K F xs ps → ps.mapM pairD = some kds →
    ∃ (as : List Addr) (kvs : List (Key × V)), xs = as.map V.ref ∧ Paired (fun p kv => SqT K H p [kV kv.1, kv.2]) as kvs ∧ Paired (fun (a : Key × V) (b : Key × D) => a.1 = b.1 ∧ Dv K F a.2 b.2) kvs kds
  | [], _, kds, h, m => by
    cases h
    cases (Option.some.inj m : [] = kds)
    exact ⟨[], [], rfl, .nil, .nil⟩
  | p :: ps, _, kds, h, m => by
    cases h with | cons h t =>
    rw [List.mapM_cons] at m
    cases e1 : pairD p with
    | none => rw [e1] at m; cases m
    | some kd =>
      rw [e1] at m
      cases e2 : ps.mapM pairD with
      | none => rw [e2] at m; cases m
      | some r =>
        rw [e2] at m
        cases (Option.some.inj m : kd :: r = kds)
        obtain ⟨as, kvs, ex, p1, p2⟩ := pairs_dv e t e2
        unfold pairD at e1
        split at e1
        · rename_i k d
          cases h with | tup h1 h2 =>
          cases h2 with | cons h3 h4 =>
          cases h4 with | cons h5 h6 =>
          cases h6
          cases ek : toKey k with
          | none => rw [ek] at e1; cases e1
          | some j =>
            rw [ek] at e1
            cases e1
            cases dv_key h3 ek
            exact ⟨_ :: as, (j, _) :: kvs, by rw [ex]; rfl, .cons (plT e h1).sq p1, .cons ⟨rfl, h5⟩ p2⟩
        · cases e1
section
variable {X : Cx} {W : WX} {n : Nat} {e : Expr} {f : Env' → M Val} {pos : Pos}
theorem cd_dict (C : CxOk X n) : CallR X (.type "dict") (r1D X.K X.mg oDictOf) := by
  refine CallR.imp (CallR.or (call_dictP C.hc) (call_dictTP C.hc)) fun xs H Q h => ?_
  obtain ⟨w, x, a, da, c, rfl, rfl, R, ra, ea, ec, q⟩ := h
  unfold oDictOf at ec
  split at ec
  · obtain ⟨p, xs, rfl, h1, g1⟩ := R.list ra ea
    rename_i ps
    cases em : ps.mapM pairD with
    | none => rw [em] at ec; cases ec
    | some kds =>
      rw [em] at ec
      cases ec
      obtain ⟨as, kvs, rfl, p1, p2⟩ := pairs_dv w.F_same g1 em
      exact .inl ⟨p, as, kvs, rfl, h1, p1, fun b hb => q.new R hb fun F e f => .dct f ((merge_dv p2 .nil).mono e)⟩
  · obtain ⟨p, xs, rfl, h1, g1⟩ := R.tupleP ra ea
    rename_i ps
    cases em : ps.mapM pairD with
    | none => rw [em] at ec; cases ec
    | some kds =>
      rw [em] at ec
      cases ec
      obtain ⟨as, kvs, rfl, p1, p2⟩ := pairs_dv w.F_same g1 em
      exact .inr ⟨p, as, kvs, rfl, h1, p1, fun b hb => q.new R hb fun F e f => .dct f ((merge_dv p2 .nil).mono e)⟩
  · cases ec
def oRev : D → Option D
  | .list xs => some (.list xs.reverse)
  | .tuple xs => some (.tuple xs.reverse)
  | _ => none
theorem ed_rev {k : Nat} {p1 p2 p3 : Pos} (he : ED X W e f) : ED X W (.Subscript e (.Slice none none (some (.UnaryOp .USub (.Constant (.int 1) k p1) p2)) p3) pos) (dFn1 oRev f) :=
  PE.imp (pe_rev he) fun σ H Q ⟨α, S, ρ, R, re, q⟩ => ⟨α, S, ρ, R, re, After.imp (After.split (rel := RV X.K) q) (fun v H1 ⟨α1, S1, x, e1, R1, r1, q1⟩ => by
    obtain ⟨w, y, a, da, c, eH, ex, R2, ra, ea, ec, q2⟩ := on1_ok (w := ⟨α1, S1, H1⟩) R1 r1 q1
    cases ex
    cases eH
    unfold oRev at ec
    split at ec
    · cases ec
      obtain ⟨p, xs, rfl, h1, g1⟩ := R2.list ra ea
      exact .inr ⟨p, xs, rfl, h1, fun b hb => q2.lst R2 g1.reverse hb⟩
    · cases ec
      obtain ⟨p, xs, rfl, h1, g1, _⟩ := R2.tuple ra ea
      exact .inl ⟨p, xs, rfl, h1, q2.tup R2 g1.reverse⟩
    · cases ec) fun _ _ _ z => z⟩
/-! ### list + list, as a cell -/
def catM (x y : Val) : M Val := fun S => match rd S x, rd S y with
  | some (.list xs), some (.list ys) => if xs.length + ys.length ≤ 16777216 then newCell (xs ++ ys) S else .st
  | _, _ => .st
def dAddC (f g : Env' → M Val) : Env' → M Val := fun ρ => (f ρ).bind fun x => (g ρ).bind fun y => catM x y
theorem ed_addC {a b : Expr} {f g : Env' → M Val} (ha : ED X W a f) (hb : ED X W b g) : ED X W (.BinOp a .Add b pos) (dAddC f g) :=
  PE.imp (pe_op op_catL ha hb) fun σ H Q ⟨α, S, ρ, R, re, q⟩ => ⟨α, S, ρ, R, re, After.imp (After.split (rel := RV X.K) q) (fun v H1 ⟨α1, S1, x, e1, R1, r1, q1⟩ =>
    ⟨α1, S1, ρ, R1, re.mono e1, After.imp (After.split (rel := RV X.K) q1) (fun u H2 ⟨α2, S2, y, e2, R2, r2, q2⟩ => by
      unfold catM at q2
      cases h1 : rd S2 x with
      | none => simp only [h1] at q2; exact False.elim q2
      | some da =>
        cases h2 : rd S2 y with
        | none => cases da <;> simp only [h1, h2] at q2 <;> exact False.elim q2
        | some db =>
          cases da <;> cases db <;> simp only [h1, h2] at q2 <;> first | exact False.elim q2 | skip
          rename_i xs ys
          split at q2
          · rename_i hz
            obtain ⟨p1, vs, rfl, g1, d1⟩ := R2.list (r1.mono e2) h1
            obtain ⟨p2, us, rfl, g2, d2⟩ := R2.list r2 h2
            exact ⟨p1, p2, vs, us, rfl, rfl, g1, g2, by rw [sizeLine_eq, d1.length, d2.length]; exact hz, fun p hp => cell_new (w := ⟨α2, S2, H2⟩) R2 (d1.append d2) q2 hp⟩
          · exact False.elim q2) fun _ _ _ z => z⟩) fun _ _ _ z => z⟩
end
end Zz
set_option maxRecDepth 100000
set_option maxHeartbeats 4000000
namespace Zz
open PySem PySem.Spec PyProof.Rows L2
section
variable {X : Cx} {n : Nat} {W : WX} {pos p apos cpos : Pos} {o a b e e2 : Expr} {f g h : Env' → M Val}
/-! ### d.get(k), d.get(k, x) -/
def isDct (S : List Cell) (x : Val) : Bool := match rd S x with
  | some (.dict _) => true
  | _ => false
theorem rd_dct {K : PySem.W.Frag} {mg : Str → Option Value} {w : Wd} {v : V} {x : Val} (R : Rep K mg w) (r : RV K w v x) (h : isDct w.S x = true) : ∃ a, v = .ref a ∧ IsD w.H a := by
  unfold isDct at h
  cases e : rd w.S x with
  | none => rw [e] at h; cases h
  | some d =>
    cases d <;> first | (rw [e] at h; cases h) | skip
    rename_i ds
    obtain ⟨p, ks, rfl, h1, _⟩ := R.dict r e
    exact ⟨p, rfl, .inl ⟨ks, .of h1⟩⟩
/-- what lies there, or the other one -/
def getM (x y z : Val) : M Val := fun S => match rd S x, rd S y with
  | some (.dict kds), some k => match toKey k with
    | some j => match getD' kds j with
      | some d => .ok (.d d) S
      | none => .ok z S
    | none => .st
  | _, _ => .st
theorem getM_ok {K : PySem.W.Frag} {mg : Str → Option Value} {w : Wd} {x y z : Val} {v u t : V} {Q : VK} {E : XK} (R : Rep K mg w) (r1 : RV K w v x) (r2 : RV K w u y) (r3 : RV K w t z) (q : After K mg (RV K) w (getM x y z w.S) Q E) :
    ∃ a ov, v = .ref a ∧ DGet w.H a u ov ∧ Q (ov.getD t) w.H := by
  unfold getM at q
  split at q
  · rename_i kds k e1 e2
    cases ek : toKey k with
    | none => rw [ek] at q; exact False.elim q
    | some j =>
      rw [ek] at q
      obtain ⟨a, ks, rfl, g1, g2⟩ := R.dict r1 e1
      have ex := dv_key (R.any r2 e2) ek
      subst ex
      rcases g2.val j with ⟨v, d, z1, z2, dv⟩ | ⟨z1, z2⟩
      · dsimp only at q
        rw [z2] at q
        refine ⟨a, some v, rfl, by have z := DGet.k (k := j) g1; rw [z1] at z; exact z, ?_⟩
        exact q w.α w.H v (Ext.refl _) R dv
      · dsimp only at q
        rw [z2] at q
        refine ⟨a, none, rfl, by have z := DGet.k (k := j) g1; rw [z1] at z; exact z, ?_⟩
        exact q w.α w.H t (Ext.refl _) R r3
  · exact False.elim q
def dGet1 (f g : Env' → M Val) : Env' → M Val := fun ρ => (f ρ).bind fun x S => if isDct S x = true then ((g ρ S).bind fun y => getM x y (.d .none)) else .st
def dGet2 (f g h : Env' → M Val) : Env' → M Val := fun ρ => (f ρ).bind fun x S => if isDct S x = true then ((g ρ S).bind fun y => (h ρ).bind fun z => getM x y z) else .st
theorem ed_get1 (C : CxOk X n) (ho : ED X W o f) (he : ED X W e g)
    (hbase : attributeBase o "get" X.env (eval o X.env) = eval o X.env := by rfl)
    (hfew : ((backTo cpos (starEach [e] X.env)).all (fun x => !x.1) && (backToKw cpos (keywordEach [] X.env)).all (fun x => x.1.isSome) && decide (([e] : List Expr).length + ([] : List Keyword).length + (if ([] : List Keyword).isEmpty then 0 else 1) < 30)) = true := by rfl)
    (hline : (apos.endLine == cpos.line) = true := by rfl) (hs : backTo cpos (starEach [e] X.env) = [(false, eval e X.env)] := by rfl) :
    ED X W (.Call (.Attribute o "get" apos) [e] [] cpos) (dGet1 f g) :=
  PE.imp (pe_dget1 (by have := C.u1; omega) ho he ⟨hbase, hfew, hline, hs⟩) fun σ H Q ⟨α, S, ρ, R, re, q⟩ => by
    refine ⟨α, S, ρ, R, re, After.imp (After.split (rel := RV X.K) q) (fun v H1 ⟨α1, S1, x, e1, R1, r1, q1⟩ => ?_) fun _ _ _ z => z⟩
    split at q1
    · rename_i hi
      obtain ⟨a, rfl, ia⟩ := rd_dct R1 r1 hi
      refine ⟨a, rfl, ia, α1, S1, ρ, R1, re.mono e1, After.imp (After.split (rel := RV X.K) q1) (fun u H2 ⟨α2, S2, y, e2, R2, r2, q2⟩ => ?_) fun _ _ _ z => z⟩
      obtain ⟨b, ov, eb, g1, q3⟩ := getM_ok (w := ⟨α2, S2, H2⟩) (t := .non) R2 (r1.mono e2) r2 (show RV X.K _ V.non (Val.d .none) from .non) q2
      cases eb
      exact ⟨ov, g1, q3⟩
    · exact False.elim q1
theorem ed_get2 (C : CxOk X n) (ho : ED X W o f) (he : ED X W e g) (hf : ED X W e2 h)
    (hbase : attributeBase o "get" X.env (eval o X.env) = eval o X.env := by rfl)
    (hfew : ((backTo cpos (starEach [e, e2] X.env)).all (fun x => !x.1) && (backToKw cpos (keywordEach [] X.env)).all (fun x => x.1.isSome) && decide (([e, e2] : List Expr).length + ([] : List Keyword).length + (if ([] : List Keyword).isEmpty then 0 else 1) < 30)) = true := by rfl)
    (hline : (apos.endLine == cpos.line) = true := by rfl) (hs : backTo cpos (starEach [e, e2] X.env) = [(false, eval e X.env), (false, eval e2 X.env)] := by rfl) :
    ED X W (.Call (.Attribute o "get" apos) [e, e2] [] cpos) (dGet2 f g h) :=
  PE.imp (pe_dget2 (by have := C.u1; omega) ho he hf ⟨hbase, hfew, hline, hs⟩) fun σ H Q ⟨α, S, ρ, R, re, q⟩ => by
    refine ⟨α, S, ρ, R, re, After.imp (After.split (rel := RV X.K) q) (fun v H1 ⟨α1, S1, x, e1, R1, r1, q1⟩ => ?_) fun _ _ _ z => z⟩
    split at q1
    · rename_i hi
      obtain ⟨a, rfl, ia⟩ := rd_dct R1 r1 hi
      refine ⟨a, rfl, ia, α1, S1, ρ, R1, re.mono e1, After.imp (After.split (rel := RV X.K) q1) (fun u H2 ⟨α2, S2, y, e2, R2, r2, q2⟩ => ?_) fun _ _ _ z => z⟩
      refine ⟨α2, S2, ρ, R2, (re.mono e1).mono e2, After.imp (After.split (rel := RV X.K) q2) (fun t H3 ⟨α3, S3, z, e3, R3, r3, q3⟩ => ?_) fun _ _ _ z => z⟩
      obtain ⟨b, ov, eb, g1, q4⟩ := getM_ok (w := ⟨α3, S3, H3⟩) R3 ((r1.mono e2).mono e3) (r2.mono e3) r3 q3
      cases eb
      exact ⟨ov, g1, q4⟩
    · exact False.elim q1
end
end Zz
set_option maxRecDepth 100000
set_option maxHeartbeats 4000000
namespace Zz
open PySem PySem.Spec PyProof.Rows L2
/-! ### xs.index(y), of a list of flat items, of a tuple of texts -/
def at1 {α : Type} (p : α → Bool) : List α → Option Nat
  | [] => none
  | x :: r => if p x = true then some 0 else (at1 p r).map (· + 1)
theorem at1_some {α : Type} {p : α → Bool} : ∀ {xs : List α} {j : Nat}, at1 p xs = some j → (∃ x, xs[j]? = some x ∧ p x = true) ∧ ∀ m x, m < j → xs[m]? = some x → p x = false
  | [], _, h => by cases h
  | x :: r, j, h => by
    unfold at1 at h
    split at h
    · rename_i hp
      cases h
      exact ⟨⟨x, rfl, hp⟩, fun m _ hm => absurd hm (Nat.not_lt_zero m)⟩
    · rename_i hp
      obtain ⟨i, e1, e2⟩ := Option.map_eq_some_iff.mp h
      subst e2
      obtain ⟨⟨y, h1, h2⟩, h3⟩ := at1_some e1
      refine ⟨⟨y, by simpa using h1, h2⟩, fun m z hm hz => ?_⟩
      cases m with
      | zero => cases (Option.some.inj hz : x = z); simpa using hp
      | succ m => exact h3 m z (by omega) (by simpa using hz)
def oIndexL : O2 := fun a b => match a with
  | .list bs => if flatD b && bs.all flatD then (at1 (fun x => PyData.eqv x b) bs).map fun j => .int (j : Nat) else none
  | _ => none
def oIndexT : O2 := fun a b => match a, b with
  | .tuple bs, .str z => (bs.mapM asStr).bind fun ys => (at1 (fun y => decide (y = z)) ys).map fun j => .int (j : Nat)
  | _, _ => none
def isTup (S : List Cell) (x : Val) : Bool := match rd S x with
  | some (.tuple _) => true
  | _ => false
section
variable {X : Cx} {n : Nat} {W : WX} {pos p apos cpos : Pos} {o a b e e2 : Expr} {es : List Expr} {f g h : Env' → M Val} {to : TE} {t : TA} {name : Str}
def PlTy (K : PySem.W.Frag) (x : V) (H : Hp) : Prop := ∃ p xs, x = .ref p ∧ PlT K H p xs
theorem plTy_is {pins : List (Addr × Obj)} {σ : L2.St} {H : Hp} {s : Shared} {x : V} {v : Value} (I : Inv X pins σ H s) (r : RelV x v) (ty : PlTy X.K x H) :
    s.TypeIs v "tuple" ∧ ∀ a, v = .ref a → ∃ ob, s.heap.get? a = some ob ∧ ob.dict = none := by
  obtain ⟨p, xs, rfl, h⟩ := ty
  cases r
  obtain ⟨its, _, ⟨o, n, e, c, hd, _⟩, _⟩ := PlT.at_ I h
  exact ⟨⟨o, e, c⟩, fun a z => by cases z; exact ⟨o, e, hd⟩⟩
/-- a method of a list or of a tuple -/
theorem pe_bmLT {T1 T2 id1 id2 : String} {r1 r2 : V → List V → Hp → VK → Prop} (pa1 : PlainAttrs "list") (slot1 : Slot "list" name id1) (hty1 : typeOf (.builtin id1) = pure (.type "method_descriptor")) (hm1 : MtR X id1 r1)
    (pa2 : PlainAttrs "tuple") (slot2 : Slot "tuple" name id2) (hty2 : typeOf (.builtin id2) = pure (.type "method_descriptor")) (hm2 : MtR X id2 r2) (ho : PE X o to) (ha : PA X (e :: es) t)
    (hbase : attributeBase o name X.env (eval o X.env) = eval o X.env := by rfl)
    (hfew : ((backTo cpos (starEach (e :: es) X.env)).all (fun x => !x.1) && (backToKw cpos (keywordEach [] X.env)).all (fun x => x.1.isSome)
      && decide ((e :: es).length + ([] : List Keyword).length + (if ([] : List Keyword).isEmpty then 0 else 1) < 30)) = true := by rfl)
    (hline : (apos.endLine == cpos.line) = true := by rfl) (hs : starEach (e :: es) X.env = (false, eval e X.env) :: starEach es X.env := by rfl) (hplain : (backTo cpos (starEach es X.env)).any (·.1) = false := by rfl) :
    PE X (.Call (.Attribute o name apos) (e :: es) [] cpos) (fun σ H Q => to σ H fun x H1 => (tyV X.K "list" x H1 ∧ t σ H1 fun xs H2 => r1 x xs H2 Q) ∨ (PlTy X.K x H1 ∧ t σ H1 fun xs H2 => r2 x xs H2 Q)) := by
  refine ⟨fun pins s σ H Q I h => ?_⟩
  refine wpAny_Call_method_late hbase hfew hline rfl (thn (ho.run pins s σ H _ I h) fun v s1 ⟨x, H1, I1, rr1, q⟩ => ?_)
  rcases q with ⟨ty, q1⟩ | ⟨ty, q1⟩
  · obtain ⟨h1, h2⟩ := tyV_is I1 rr1 ty
    refine ⟨"list", id1, pa1, slot1, hty1, h1, h2, ?_⟩
    have hA := ha.run cpos pins s1 σ H1 _ I1 q1
    rw [hs] at hA ⊢
    refine Calls.callWith_builtin (by show (false || (backTo cpos (starEach es X.env)).any (·.1)) = false; rw [hplain] <;> rfl) (Calls.evalArgs_plain ?_)
    exact thn hA fun us s2 ⟨vs, H2, I2, rr2, q2⟩ => hm1 pins s2 σ H2 x vs v us Q I2 rr1 rr2 q2
  · obtain ⟨h1, h2⟩ := plTy_is I1 rr1 ty
    refine ⟨"tuple", id2, pa2, slot2, hty2, h1, h2, ?_⟩
    have hA := ha.run cpos pins s1 σ H1 _ I1 q1
    rw [hs] at hA ⊢
    refine Calls.callWith_builtin (by show (false || (backTo cpos (starEach es X.env)).any (·.1)) = false; rw [hplain] <;> rfl) (Calls.evalArgs_plain ?_)
    exact thn hA fun us s2 ⟨vs, H2, I2, rr2, q2⟩ => hm2 pins s2 σ H2 x vs v us Q I2 rr1 rr2 q2
def dIdx (f g : Env' → M Val) : Env' → M Val := fun ρ => (f ρ).bind fun x S => if isLst S x = true then ((g ρ S).bind fun y => on2 oIndexL x y) else if isTup S x = true then ((g ρ S).bind fun y => on2 oIndexT x y) else .st
theorem rd_tup {K : PySem.W.Frag} {mg : Str → Option Value} {w : Wd} {v : V} {x : Val} (R : Rep K mg w) (r : RV K w v x) (h : isTup w.S x = true) : PlTy K v w.H := by
  unfold isTup at h
  cases e : rd w.S x with
  | none => rw [e] at h; cases h
  | some d =>
    cases d <;> first | (rw [e] at h; cases h) | skip
    rename_i ds
    obtain ⟨p, xs, rfl, h1, _⟩ := R.tupleP r e
    exact ⟨p, xs, rfl, h1⟩
theorem idx_list {K : PySem.W.Frag} {mg : Str → Option Value} {v u : V} {H : Hp} {Q : VK} (q : r2D K mg oIndexL v u H Q) : rIndex K v [u] H Q := by
  obtain ⟨w, a, b, da, db, c, rfl, R, ra, rb, ea, eb, ec, ans⟩ := q
  unfold oIndexL at ec
  split at ec
  · rename_i bs
    split at ec
    · rename_i hf
      obtain ⟨fb, fs⟩ := Bool.and_eq_true_iff.mp hf
      obtain ⟨j, e1, e2⟩ := Option.map_eq_some_iff.mp ec
      subst e2
      obtain ⟨⟨d, h1, h2⟩, h3⟩ := at1_some e1
      obtain ⟨p, xs, rfl, g1, g2⟩ := R.list ra ea
      have hb := R.any rb eb
      have g3 := g2.mono w.F_same
      obtain ⟨z, hz, dz⟩ := g3.get h1
      refine ⟨p, xs, u, j, z, rfl, rfl, g1, hb.flat fb, g3.flat fs, hz, ?_, fun m z' hm hz' => ?_, ans.here R (.int _)⟩
      · rw [eqV_eqv dz hb (List.all_eq_true.mp fs d (List.mem_of_getElem? h1)) fb]; exact h2
      · obtain ⟨d', hd', dv'⟩ := g3.getV hz'
        rw [eqV_eqv dv' hb (List.all_eq_true.mp fs d' (List.mem_of_getElem? hd')) fb]; exact h3 m d' hm hd'
    · cases ec
  · cases ec
theorem idx_tup {K : PySem.W.Frag} {mg : Str → Option Value} {v u : V} {H : Hp} {Q : VK} (q : r2D K mg oIndexT v u H Q) :
    ∃ p, ∃ ys : List Str, ∃ z j, v = .ref p ∧ [u] = [V.str z] ∧ SqT K H p (ys.map V.str) ∧ ys[j]? = some z ∧ (∀ m, m < j → ys[m]? ≠ some z) ∧ Q (.int (j : Nat)) H := by
  obtain ⟨w, a, b, da, db, c, rfl, R, ra, rb, ea, eb, ec, ans⟩ := q
  unfold oIndexT at ec
  split at ec
  · rename_i bs z
    obtain ⟨ys, e1, e2⟩ := Option.bind_eq_some_iff.mp ec
    obtain ⟨j, e3, e4⟩ := Option.map_eq_some_iff.mp e2
    subst e4
    obtain ⟨⟨y, h1, h2⟩, h3⟩ := at1_some e3
    cases of_decide_eq_true h2
    obtain ⟨p, xs, rfl, g1, g2, _⟩ := R.tuple ra ea
    cases R.str rb eb
    cases strs_dv g2 e1
    exact ⟨p, ys, z, j, rfl, rfl, g1, h1, fun m hm hz => by have := h3 m z hm hz; simp at this, ans.here R (.int _)⟩
  · cases ec
theorem ed_index (ho : ED X W o f) (he : ED X W e g) (hbase : attributeBase o "index" X.env (eval o X.env) = eval o X.env := by rfl)
    (hfew : ((backTo cpos (starEach [e] X.env)).all (fun x => !x.1) && (backToKw cpos (keywordEach [] X.env)).all (fun x => x.1.isSome) && decide (([e] : List Expr).length + ([] : List Keyword).length + (if ([] : List Keyword).isEmpty then 0 else 1) < 30)) = true := by rfl)
    (hline : (apos.endLine == cpos.line) = true := by rfl) (hs : starEach [e] X.env = (false, eval e X.env) :: starEach [] X.env := by rfl) (hplain : (backTo cpos (starEach [] X.env)).any (·.1) = false := by rfl) :
    ED X W (.Call (.Attribute o "index" apos) [e] [] cpos) (dIdx f g) :=
  PE.imp (pe_bmLT (T1 := "list") (T2 := "tuple") PySem.F.plainAttrs_list PySem.F.slot_list_index PySem.F.type_list_index mt_index PySem.F.plainAttrs_tuple PySem.F.slot_tuple_index PySem.F.type_tuple_index mt_tup_index ho (pa_cons he pa_nil hs) hbase hfew hline hs hplain) fun σ H Q ⟨α, S, ρ, R, re, q⟩ => by
    refine ⟨α, S, ρ, R, re, After.imp (After.split (rel := RV X.K) q) (fun v H1 ⟨α1, S1, x, e1, R1, r1, q1⟩ => ?_) fun _ _ _ z => z⟩
    split at q1
    · rename_i hi
      refine .inl ⟨rd_lst R1 r1 hi, α1, S1, ρ, R1, re.mono e1, After.imp (After.split (rel := RV X.K) q1) (fun u H2 ⟨α2, S2, y, e2, R2, r2, q2⟩ => ?_) fun _ _ _ z => z⟩
      exact idx_list (on2_ok (w := ⟨α2, S2, H2⟩) R2 (r1.mono e2) r2 q2)
    · split at q1
      · rename_i hi
        refine .inr ⟨rd_tup R1 r1 hi, α1, S1, ρ, R1, re.mono e1, After.imp (After.split (rel := RV X.K) q1) (fun u H2 ⟨α2, S2, y, e2, R2, r2, q2⟩ => ?_) fun _ _ _ z => z⟩
        exact idx_tup (on2_ok (w := ⟨α2, S2, H2⟩) R2 (r1.mono e2) r2 q2)
      · exact False.elim q1
end
end Zz
set_option maxRecDepth 100000
set_option maxHeartbeats 4000000
namespace Zz
open PySem PySem.Spec PyProof.Rows L2
/-! ### tables of the module with text keys; defs as values -/
/-- the table at a has these keys -/
structure TabOk (K : PySem.W.Frag) (w : World) (a : Addr) (ks : List Str) : Prop where
  kd : ∃ es n, KDict K w a es n
  has : ∀ z, ∃ r, PySem.W.nsIn K a z = some r ∧ r.isSome = ks.contains z
theorem find_key {P : Params} : ∀ {l : List DictEntry} {ks : List Str}, l.map He.keyOf = He.keysIn P ks → ∀ z : Str, (l.find? (·.key.isStr z)).isSome = ks.contains z ∧ l.any (·.refKey) = false
  | [], [], _, z => ⟨rfl, rfl⟩
  | [], _ :: _, h, _ => by cases h
  | _ :: _, [], h, _ => by cases h
  | e :: r, k :: ks, h, z => by
    have h1 : He.keyOf e :: r.map He.keyOf = some (k, PyData.keyHash P k) :: He.keysIn P ks := h
    injection h1 with h2 h3
    obtain ⟨i1, i2⟩ := find_key h3 z
    unfold He.keyOf at h2
    split at h2
    · rename_i x t q
      obtain ⟨h5, _⟩ := Prod.mk.inj (Option.some.inj h2)
      subst h5
      have ek : e.key.isStr z = (z == x) := by
        rw [q]
        show (x == z) = (z == x)
        exact Bool.eq_iff_iff.mpr ⟨fun y => beq_iff_eq.mpr (beq_iff_eq.mp y).symm, fun y => beq_iff_eq.mpr (beq_iff_eq.mp y).symm⟩
      refine ⟨?_, ?_⟩
      · rw [List.find?_cons, ek, List.contains_cons]
        cases hz : z == x with
        | true => rfl
        | false => rw [Bool.false_or, ← i1]
      · rw [List.any_cons, i2, Bool.or_false]
        unfold DictEntry.refKey
        rw [q]
    · cases h2
theorem tab_mk {K : PySem.W.Frag} {w : World} {a : Addr} {ks : List Str} (h : He.dicW K a = some (He.keysIn w.params ks)) : TabOk K w a ks := by
  refine ⟨He.dicW_ok h, fun z => ?_⟩
  unfold He.dicW at h
  cases q : K.lookup a with
  | none => rw [q] at h; cases h
  | some o =>
    obtain ⟨oc, od, dt, osl⟩ := o
    rw [q] at h
    cases oc with
    | type c =>
      cases od with
      | none =>
        cases dt with
        | dict es n =>
          have h1 : (match decide (c = "dict") && (osl.isEmpty && !(a == sysModules)) with
            | true => some (es.toList.map He.keyOf)
            | false => none) = some (He.keysIn w.params ks) := h
          split at h1
          · obtain ⟨i1, i2⟩ := find_key (Option.some.inj h1) z
            unfold PySem.W.nsIn
            rw [q]
            dsimp only
            rw [← i1]
            cases ef : es.toList.find? (·.key.isStr z) with
            | some e => exact ⟨_, rfl, rfl⟩
            | none => rw [i2]; exact ⟨none, rfl, rfl⟩
          · cases h1
        | _ => cases h
      | some b => cases dt <;> cases h
    | _ => cases od <;> cases dt <;> cases h
theorem tab_mk2 {K : PySem.W.Frag} {w : World} {a : Addr} {ks : List Str} {es : Array DictEntry} {n : Nat} (hl : K.lookup a = some ⟨.type "dict", none, .dict es n, #[]⟩) (hk : es.toList.map He.keyOf = He.keysIn w.params ks) (hs : (a == sysModules) = false) : TabOk K w a ks := by
  refine tab_mk ?_
  unfold He.dicW
  rw [hl, hs]
  exact congrArg some hk
/-- what lies at the keys -/
def TabHas (K : PySem.W.Frag) (a : Addr) (tbl : List (Str × Val)) : Prop := ∀ k x, tbl.lookup k = some x → ∃ u v, PySem.W.nsIn K a k = some (some u) ∧ RelV v u ∧ ∀ w, RV K w v x
theorem tabHas_nil {K : PySem.W.Frag} {a : Addr} : TabHas K a [] := fun _ _ h => by cases h
theorem tabHas_cons {K : PySem.W.Frag} {a : Addr} {k : Str} {x : Val} {r : List (Str × Val)} {u : Value} {v : V} (h : PySem.W.nsIn K a k = some (some u)) (rv : RelV v u) (rx : ∀ w, RV K w v x) (t : TabHas K a r) : TabHas K a ((k, x) :: r) := fun j y e => by
  rw [List.lookup_cons] at e
  split at e
  · rename_i hj
    cases e
    exact ⟨u, v, by rw [beq_iff_eq.mp hj]; exact h, rv, rx⟩
  · exact t j y e
section
variable {X : Cx} {n k i : Nat} {W : WX} {pos p p2 apos cpos : Pos} {x : Str} {o a b e : Expr} {es : List Expr} {f g h : Env' → M Val} {ga : Env' → M (List Val)} {tbl : List (Str × Val)} {ks : List Str} {d : Addr}
/-- nothing is promised of it -/
def dStuck : Env' → M Val := fun _ => M.st
theorem ed_stuck : ED X W e dStuck := ⟨fun _ _ _ _ _ _ ⟨_, _, _, _, _, q⟩ => False.elim q⟩
def sStuck : SD := fun _ _ => .st
theorem sd_stuck {st : Stmt} : StD X W st sStuck := ⟨fun _ _ _ _ _ _ ⟨_, _, _, _, _, q⟩ => False.elim q⟩
/-- a def's name -/
def dFref (x : Str) : Env' → M Val := fun _ => M.ret (.f x)
theorem ed_fref {c : Addr} (hm : X.mg x = some (.ref c)) (hn : PySem.W.nsIn X.K mainGlobals x = some (some (.ref c))) (hg : Gl X x := by rfl) (hd : (x == ("__debug__" : Str)) = false := by decide) : ED X W (.Name x pos) (dFref x) :=
  PE.imp (pe_glob (v := .ref c) hg hm rfl hd) fun σ H Q ⟨α, S, ρ, R, re, q⟩ => q α H (.ref c) (Ext.refl _) R ⟨c, rfl, hn⟩
theorem ix_kd {es : Array DictEntry} {m : Nat} (D : KDict X.K X.w d es m) : IxR X (fun x y H Q => ∃ (z : Str) (u0 : Value) (v0 : V), x = .ref d ∧ y = .str z ∧ PySem.W.nsIn X.K d z = some (some u0) ∧ RelV v0 u0 ∧ Q v0 H) := by
  intro value slice pins s σ H x y v u Q I rx ry h hs
  have h' := h
  obtain ⟨z, u0, v0, rfl, rfl, _⟩ := h'
  cases rx
  refine tail_any (kd_type D I) PySem.F.slot_dict_getitem.lookup ?_ hs
  exact wpAny_mono (op_item_kd D pins s σ H (.ref d) (.str z) (.ref d) u Q I rfl ry h) (fun _ _ q => q) fun _ _ q => q
/-- TABLE[g] -/
def dTab (tbl : List (Str × Val)) (g : Env' → M Val) : Env' → M Val := fun ρ => (g ρ).bind fun y S => match rd S y with
  | some (.str k) => match tbl.lookup k with
    | some x => .ok x S
    | none => .st
  | _ => .st
theorem ed_tab (T : TabOk X.K X.w d ks) (hT : TabHas X.K d tbl) (hm : X.mg x = some (.ref d)) (hb : ED X W b g) (hs : PlainIx b := by exact fun _ _ => rfl) (hg : Gl X x := by rfl) (hd : (x == ("__debug__" : Str)) = false := by decide) :
    ED X W (.Subscript (.Name x p2) b pos) (dTab tbl g) := by
  obtain ⟨es, m, D⟩ := T.kd
  refine PE.imp (pe_ix (ix_kd D) (pe_glob (v := .ref d) hg hm rfl hd) hb hs) fun σ H Q ⟨α, S, ρ, R, re, q⟩ => ?_
  refine ⟨α, S, ρ, R, re, After.imp (After.split (rel := RV X.K) q) (fun u H1 ⟨α1, S1, y, e1, R1, r1, q1⟩ => ?_) fun _ _ _ z => z⟩
  split at q1
  · rename_i k ek
    cases R1.str r1 ek
    split at q1
    · rename_i z ez
      obtain ⟨u0, v0, h1, h2, h3⟩ := hT k z ez
      exact ⟨k, u0, v0, rfl, rfl, h1, h2, q1 α1 H1 v0 (Ext.refl _) R1 (h3 _)⟩
    · exact False.elim q1
  · exact False.elim q1
/-- g in TABLE -/
def dInTab (k : Bool) (ks : List Str) (g : Env' → M Val) : Env' → M Val := fun ρ => (g ρ).bind fun y S => match rd S y with
  | some (.str z) => .ok (.d (.bool (ks.contains z == k))) S
  | _ => .st
theorem inTabQ {σ : L2.St} {H : Hp} {Q : VK} {kk : Bool} (T : TabOk X.K X.w d ks) (q : tD X.K X.mg W (dInTab kk ks g) σ H Q) :
    tD X.K X.mg W g σ H fun y H1 => ∃ (z : Str) (r : Option Value), y = .str z ∧ PySem.W.nsIn X.K d z = some r ∧ Q (.bl (r.isSome == kk)) H1 := by
  obtain ⟨α, S, ρ, R, re, q⟩ := q
  refine ⟨α, S, ρ, R, re, After.imp (After.split (rel := RV X.K) q) (fun u H1 ⟨α1, S1, y, e1, R1, r1, q1⟩ => ?_) fun _ _ _ z => z⟩
  split at q1
  · rename_i z ez
    cases R1.str r1 ez
    obtain ⟨r, h1, h2⟩ := T.has z
    exact ⟨z, r, rfl, h1, by rw [h2]; exact q1 α1 H1 _ (Ext.refl _) R1 (.bl _)⟩
  · exact False.elim q1
theorem ed_inTab (T : TabOk X.K X.w d ks) (hm : X.mg x = some (.ref d)) (ha : ED X W a g) (hmk : behindInMarks .In (.Name x p2) = false := by first | exact nomark _ | rfl) (hg : Gl X x := by rfl) (hd : (x == ("__debug__" : Str)) = false := by decide) :
    ED X W (.Compare a [.In] [.Name x p2] pos) (dInTab true ks g) := by
  obtain ⟨es, m, D⟩ := T.kd
  refine PE.imp (pe_cmpR (op_in_kd D) ha (pe_glob (v := .ref d) hg hm rfl hd) hmk) fun σ H Q q => ?_
  obtain ⟨α, S, ρ, R, re, q⟩ := inTabQ T q
  exact ⟨α, S, ρ, R, re, After.imp q (fun y H1 ⟨z, r, e1, e2, e3⟩ => ⟨z, r, e1, rfl, e2, by cases r <;> exact e3⟩) fun _ _ _ z => z⟩
theorem td_inTab (T : TabOk X.K X.w d ks) (hm : X.mg x = some (.ref d)) (ha : ED X W a g) (hmk : behindInMarks .In (.Name x p2) = false := by first | exact nomark _ | rfl) (hg : Gl X x := by rfl) (hd : (x == ("__debug__" : Str)) = false := by decide) :
    TDt X W (.Compare a [.In] [.Name x p2] pos) (toB (dInTab true ks g)) := by
  obtain ⟨es, m, D⟩ := T.kd
  refine PT.imp (pt_cmpR (op_in_kd D) ha (pe_glob (v := .ref d) hg hm rfl hd) hmk) fun σ H Q q => ?_
  obtain ⟨α, S, ρ, R, re, q⟩ := inTabQ T (toBQ q)
  exact ⟨α, S, ρ, R, re, After.imp q (fun y H1 ⟨z, r, e1, e2, e3⟩ => ⟨z, r, e1, rfl, e2, by cases r <;> exact e3⟩) fun _ _ _ z => z⟩
/-! ### a call of a local name that holds a def -/
structure HeldD (X : Cx) (n : Nat) (disp : Str → Option Fn) : Prop where
  get : ∀ x F, disp x = some F → ∃ (k : Nat) (c : Addr) (fd : FuncData) (ps : List Str), FnG X.prog X.w X.K X.mg X.base k c fd ps F ∧ Arity ps.length F ∧ k ≤ n ∧ PySem.W.nsIn X.K mainGlobals x = some (some (.ref c)) ∧
    PySem.W.keepIn X.K (.ref c) = true ∧ Binds X.K fd ps []
def dCallF (disp : Str → Option Fn) (i : Nat) (ga : Env' → M (List Val)) : Env' → M Val := fun ρ S => match ρ[i]? with
  | some (some (.f x)) => match disp x with
    | some F => dCall F ga ρ S
    | none => .st
  | _ => .st
theorem callFQ {disp : Str → Option Fn} {σ : L2.St} {H : Hp} {Q : VK} (D : HeldD X n disp) (h : tD X.K X.mg W (dCallF disp i ga) σ H Q) :
    ∃ (k : Nat) (c : Addr) (fd : FuncData) (ps : List Str) (F : Fn), FnG X.prog X.w X.K X.mg X.base k c fd ps F ∧ Arity ps.length F ∧ k ≤ n ∧ PySem.W.keepIn X.K (.ref c) = true ∧ Binds X.K fd ps [] ∧ σ[i]? = some (some (.ref c)) ∧ tD X.K X.mg W (dCall F ga) σ H Q := by
  obtain ⟨α, S, ρ, R, re, q⟩ := h
  unfold dCallF at q
  split at q
  · rename_i x er
    split at q
    · rename_i F ed
      obtain ⟨v, hv, c', rfl, hn'⟩ := re.at_ i _ er
      obtain ⟨k, c, fd, ps, G, hF, hk, hn, kp, hb⟩ := D.get x F ed
      rw [hn] at hn'
      cases hn'
      exact ⟨k, _, fd, ps, F, G, hF, hk, kp, hb, hv, α, S, ρ, R, re, q⟩
    · exact False.elim q
  · exact False.elim q
theorem ed_callF {disp : Str → Option Fn} (D : HeldD X n disp) (C : CxOk X n) (tk : Takes X W) (hN : X.N[i]? = some x) (ha : AD X W (e :: es) ga)
    (hv : Vis X.env.scope x := by first | exact Or.inl rfl | exact Or.inr (Or.inl rfl) | exact Or.inr (Or.inr rfl)) (hdb : (x == ("__debug__" : Str)) = false := by decide) (hcd : (x == ("__classdict__" : Str)) = false := by decide)
    (he : starEach (e :: es) X.env = (false, eval e X.env) :: starEach es X.env := by rfl) (hpl : (backTo pos (starEach es X.env)).any (·.1) = false := by rfl) : ED X W (.Call (.Name x p) (e :: es) [] pos) (dCallF disp i ga) := by
  refine ⟨fun pins s σ H Q I h => ?_⟩
  obtain ⟨k, c, fd, ps, F, G, hF, hk, kp, hb, hs, h⟩ := callFQ D h
  refine wpAny_Call_Name_kw (thn ((pe_var (pos := p) hN hv hdb hcd).run pins s σ H (fun v H1 => v = .ref c ∧ H1 = H) I ⟨.ref c, hs, rfl, rfl⟩) fun u s1 ⟨v, H1, I1, r1, q1⟩ => ?_)
  obtain ⟨rfl, rfl⟩ := q1
  cases r1
  refine PySem.W.callWith_K (h₀ := X.base) I.ok.mod.kin kp (thn (ha.run pos pins s1 σ _ _ I1 (callQ (arityQ hF) h)) fun us s2 ⟨vs, H2, I2, r, hl, q⟩ => ⟨I2.kIn, ?_⟩) he hpl
  have b := hb s2 us I2.kIn (by rw [List.append_nil, ← r.length]; exact hl)
  rw [List.append_nil] at b
  exact wpAny_call (runG G (C.mono hk) tk I2 r b hl q)
theorem ed_callFS {disp : Str → Option Fn} (D : HeldD X n disp) (C : CxOk X n) (tk : Takes X W) (hN : X.N[i]? = some x) (ha : AD X W (e :: es) ga)
    (hv : Vis X.env.scope x := by first | exact Or.inl rfl | exact Or.inr (Or.inl rfl) | exact Or.inr (Or.inr rfl)) (hdb : (x == ("__debug__" : Str)) = false := by decide) (hcd : (x == ("__classdict__" : Str)) = false := by decide)
    (he : starEach (e :: es) X.env = (false, eval e X.env) :: starEach es X.env := by rfl) (hst : (backTo pos (starEach es X.env)).any (·.1) = true := by rfl) : ED X W (.Call (.Name x p) (e :: es) [] pos) (dCallF disp i ga) := by
  refine ⟨fun pins s σ H Q I h => ?_⟩
  obtain ⟨k, c, fd, ps, F, G, hF, hk, kp, hb, hs, h⟩ := callFQ D h
  refine wpAny_Call_Name_kw (thn ((pe_var (pos := p) hN hv hdb hcd).run pins s σ H (fun v H1 => v = .ref c ∧ H1 = H) I ⟨.ref c, hs, rfl, rfl⟩) fun u s1 ⟨v, H1, I1, r1, q1⟩ => ?_)
  obtain ⟨rfl, rfl⟩ := q1
  cases r1
  refine PySem.W.callWith_S2 (h₀ := X.base) I.ok.mod.kin kp (thn (ha.run pos pins s1 σ _ _ I1 (callQ (arityQ hF) h)) fun us s2 ⟨vs, H2, I2, r, hl, q⟩ => ⟨I2.kIn, ?_⟩) he hst
  have b := hb s2 us I2.kIn (by rw [List.append_nil, ← r.length]; exact hl)
  rw [List.append_nil] at b
  exact wpAny_call (runG G (C.mono hk) tk I2 r b hl q)
end
end Zz
set_option maxRecDepth 100000
set_option maxHeartbeats 4000000
namespace Zz
open PySem PySem.Spec PyProof.Rows L2
/-! ### dicts that are changed: {k: v, ..} as a cell, d[k] = v -/
def dDictC (ps : List ((Env' → M Val) × (Env' → M Val))) : Env' → M Val := fun ρ S => (dPairs ps ρ (S ++ [.dct []])).bind fun kds S' => match S'[S.length]? with
  | some (.dct []) => if kds.length ≤ 15 then .ok (.c S.length) (S'.set S.length (.dct (mergeD [] kds))) else .st
  | _ => .st
def dDict0C : Env' → M Val := fun _ S => .ok (.c S.length) (S ++ [.dct []])
section
variable {X : Cx} {n : Nat} {W : WX} {pos p : Pos} {o i e k v : Expr} {f g : Env' → M Val}
theorem ed_dict0C : ED X W (.Dict [] [] pos) dDict0C := PE.imp pe_dnewK fun σ H Q ⟨α, S, ρ, R, re, q⟩ => fun p hp => by
  obtain ⟨Rc, ec⟩ := R.cell hp (c := .dct []) (o := .dK []) rfl ⟨[], upd_same, .nil⟩
  have ha : ((α ++ [p]) : List Addr)[S.length]? = some p := by
    have z : α.length = S.length := R.len
    rw [List.getElem?_append_right (by rw [z]; exact Nat.le_refl _), z, Nat.sub_self]; rfl
  exact q _ _ _ ec Rc ⟨p, ha, rfl⟩
theorem ed_dictC {keys : List (Option Expr)} {values : List Expr} {ps : List ((Env' → M Val) × (Env' → M Val))} (h : PPs X pos keys values (trsD X W ps)) (hall : keys.all (·.isSome) = true := by rfl) (hl : keys.length = values.length := by rfl) (h0 : keys ≠ [] := by exact fun z => nomatch z) (h15 : keys.length ≤ 15 := by decide) :
    ED X W (.Dict keys values pos) (dDictC ps) := PE.imp (pe_disp h hall hl h0 h15) fun σ H Q ⟨α, S, ρ, R, re, q⟩ => fun p hp => by
  obtain ⟨Rc, ec⟩ := R.cell hp (c := .dct []) (o := .dK []) rfl ⟨[], upd_same, .nil⟩
  have ha : ((α ++ [p]) : List Addr)[S.length]? = some p := by
    have z : α.length = S.length := R.len
    rw [List.getElem?_append_right (by rw [z]; exact Nat.le_refl _), z, Nat.sub_self]; rfl
  refine pairsQ ps Rc (re.mono ec) (After.imp (After.split0 (rel := fun w a b => RP X.K w.F a b) q ec) (fun pv H1 ⟨α1, S1, kds, e1, R1, r1, q1⟩ => ?_) fun _ _ _ z => z)
  have ha1 := e1.at_ ha
  split at q1
  · rename_i hs
    split at q1
    · rename_i hz
      obtain ⟨ks, h1, h2⟩ := R1.at_ S.length p _ ha1 hs
      cases h2
      obtain ⟨kvs, g1, g2, g3⟩ := RP.keys r1
      refine ⟨h1, kvs, g1, by rw [g2]; exact hz, ?_⟩
      have dm : DvKV X.K (Wd.F ⟨α1, S1, H1⟩) (mergeK [] kvs) (mergeD [] kds) := merge_dv g3 .nil
      obtain ⟨R4, e4⟩ := R1.write (c' := .dct (mergeD [] kds)) (o := .dK (mergeK [] kvs)) ha1 hs rfl rfl ⟨_, upd_same, dm⟩
      exact q1 _ _ _ ((ec.trans e1).trans e4) R4 ⟨p, ha1, rfl⟩
    · exact False.elim q1
  · exact False.elim q1
def rSetD : TSet := fun o i v H Q => ∃ a H', o = .ref a ∧ DPut H a i v H' ∧ Q H'
theorem set_dict (hu : X.A.units + 1 < cLine) : PSet X rSetD := by
  intro pins s σ H o i v ov iv u Q I ro ri rv h
  obtain ⟨a, H', rfl, g, q⟩ := h
  cases ro
  exact d_setItem hu I g ri rv fun s' I' => ⟨H', I', q⟩
theorem PSet.or {t1 t2 : TSet} (h1 : PSet X t1) (h2 : PSet X t2) : PSet X (fun o i v H Q => t1 o i v H Q ∨ t2 o i v H Q) := by
  intro pins s σ H o i v ov iv u Q I ro ri rv h
  rcases h with h | h
  · exact h1 pins s σ H o i v ov iv u Q I ro ri rv h
  · exact h2 pins s σ H o i v ov iv u Q I ro ri rv h
/-- the list or dict cell with an item set -/
def putA (x : Val) (i d : D) (S : List Cell) : Option (List Cell) := match x with
  | .c l => match S[l]? with
    | some (.lst ds) => match i with
      | .int k => (ixN ds.length k).map fun j => S.set l (.lst (ds.set j d))
      | _ => none
    | some (.dct kds) => if kds.length < 16777216 then (toKey i).map fun k => S.set l (.dct (putD kds k d)) else none
    | _ => none
  | _ => none
theorem kv_len {K : PySem.W.Frag} {F : Hp} : ∀ {ks : List (Key × V)} {kds : List (D × D)}, DvKV K F ks kds → ks.length = kds.length
  | _, _, .nil => rfl
  | _, _, .cons _ t => by rw [List.length_cons, List.length_cons, kv_len t]
/-- o[i] = x, then k -/
def putDK (fo fi : Env' → M Val) (x : Val) (k : List Cell → SRes) : SD := fun ρ S1 => (fo ρ S1).then_ ρ fun o S2 => (fi ρ S2).then_ ρ fun i S3 => match rd S3 i with
  | some j => match frz x S3 with
    | .ok d S4 => match putA o j d S4 with
      | some T => k T
      | none => .st
    | _ => .st
  | none => .st
theorem putKQ {α : List Addr} {S : List Cell} {H : Hp} {ρ : Env'} {σ : L2.St} {v : V} {x : Val} {k : List Cell → SRes} {D : Ends} {G : L2.St → Hp → Prop} {fo fi : Env' → M Val} (R : Rep X.K X.mg ⟨α, S, H⟩) (re : RE X.K ⟨α, S, H⟩ σ ρ) (r1 : RV X.K ⟨α, S, H⟩ v x)
    (q : AfterS X.K X.mg ⟨α, S, H⟩ (putDK fo fi x k ρ S) D W)
    (hk : ∀ α' T H', Ext ⟨α, S, H⟩ ⟨α', T, H'⟩ → Rep X.K X.mg ⟨α', T, H'⟩ → RE X.K ⟨α', T, H'⟩ σ ρ → AfterS X.K X.mg ⟨α', T, H'⟩ (k T) D W → G σ H') :
    gSub (tD X.K X.mg W fo) (tD X.K X.mg W fi) (fun o i v H Q => rSetL o i v H Q ∨ rSetD o i v H Q) v σ H G := by
  refine ⟨α, S, ρ, R, re, After.imp (AfterS.split (rel := RV X.K) q re) (fun v2 H2 ⟨α2, S2, x2, e2, R2, r2, re2, q2⟩ => ?_) fun _ _ _ z => z⟩
  refine ⟨α2, S2, ρ, R2, re2, After.imp (AfterS.split (rel := RV X.K) q2 re2) (fun v3 H3 ⟨α3, S3, x3, e3, R3, r3, re3, q3⟩ => ?_) fun _ _ _ z => z⟩
  cases ek : rd S3 x3 with
  | none => rw [ek] at q3; exact False.elim q3
  | some k =>
    rw [ek] at q3
    dsimp only at q3
    cases ez : frz x S3 with
    | st => rw [ez] at q3; exact False.elim q3
    | ex z S => rw [ez] at q3; exact False.elim q3
    | ok d S4 =>
      rw [ez] at q3
      dsimp only at q3
      obtain ⟨e4, R4, dv⟩ := frz_to (w := ⟨α3, S3, H3⟩) R3 ((r1.mono e2).mono e3) ez
      cases ep : putA x2 k d S4 with
      | none => rw [ep] at q3; exact False.elim q3
      | some T =>
        rw [ep] at q3
        cases x2 with
        | d z => cases ep
        | f z => cases ep
        | c l =>
          unfold putA at ep
          cases hds : S4[l]? with
          | none => simp only [hds] at ep; cases ep
          | some cc =>
            obtain ⟨pa, hp, rfl⟩ := r2
            have hp' : α3[l]? = some pa := e3.at_ hp
            cases cc with
            | lst ds =>
              simp only [hds] at ep
              cases k <;> first | (cases ep; done) | skip
              rename_i kk
              obtain ⟨j, hj, et⟩ := Option.map_eq_some_iff.mp ep
              subst et
              cases R3.int r3 ek
              obtain ⟨xs, g1, g2⟩ := R4.at_ l pa _ hp' hds
              have g3 := R4.write (c' := .lst (ds.set j d)) (o := .lst (xs.set j v)) hp' hds rfl rfl ⟨_, upd_same, g2.set dv j⟩
              exact .inl ⟨pa, xs, kk, j, rfl, rfl, g1, by rw [g2.length]; exact hj, hk _ _ _ (((e2.trans e3).trans e4).trans g3.2) g3.1 ((re3.mono e4).mono g3.2) (AfterS.later q3 (e4.trans g3.2))⟩
            | dct kds =>
              simp only [hds] at ep
              split at ep
              · rename_i hz
                obtain ⟨kk, hkk, et⟩ := Option.map_eq_some_iff.mp ep
                subst et
                have ex : v3 = kV kk := dv_key (R3.any r3 ek) hkk
                subst ex
                obtain ⟨ks, g1, g2⟩ := R4.at_ l pa _ hp' hds
                have g3 := R4.write (c' := .dct (putD kds kk d)) (o := .dK (putK ks kk v)) hp' hds rfl rfl ⟨_, upd_same, g2.put kk dv⟩
                exact .inr ⟨pa, _, rfl, DPut.k g1 (by rw [kv_len g2, sizeLine_eq]; exact hz), hk _ _ _ (((e2.trans e3).trans e4).trans g3.2) g3.1 ((re3.mono e4).mono g3.2) (AfterS.later q3 (e4.trans g3.2))⟩
              · cases ep
            | _ => simp only [hds] at ep; cases ep
abbrev AsgSub (X : Cx) (o i : Expr) (p : Pos) : Prop := ∀ v, assign (.Subscript o i p) X.env v = (do
      let ov ← holding [v] (eval o X.env)
      let iv ← holding [v, ov] (eval i X.env)
      standAt p
      holding [v, ov, iv] (setItem ov iv v)
      release [v, ov, iv] [])
/-- o[i] = value -/
def sPutA (f fo fi : Env' → M Val) : SD := fun ρ S => (f ρ S).then_ ρ fun v S1 => putDK fo fi v (fun T => .nx ρ T) ρ S1
theorem sd_putA {fo fi : Env' → M Val} (C : CxOk X n) (he : ED X W e f) (ho : ED X W o fo) (hi : ED X W i fi) (ha : AsgSub X o i p := by intro _; rfl) (hs : swapsWithSole [.Subscript o i p] e pos.line X.env = pure false := by rfl) (hw : swappedStores [.Subscript o i p] e X.env = pure none := by rfl)
    (h1 : (assignEach [.Subscript o i p] X.env).map (·.2) = [assign (.Subscript o i p) X.env] := by rfl) : StD X W (.Assign [.Subscript o i p] e pos) (sPutA f fo fi) :=
  PS.imp (ps_asg he (pg_sub ho hi (PSet.or set_list (set_dict (by have := C.u1; omega))) ha) hs hw h1) fun D σ H ⟨α, S, ρ, R, re, q⟩ => by
    refine ⟨α, S, ρ, R, re, After.imp (AfterS.split (rel := RV X.K) q re) (fun v H1 ⟨α1, S1, x1, e1, R1, r1, re1, q1⟩ => ?_) fun _ _ _ z => z⟩
    exact putKQ R1 re1 r1 q1 fun α' T H' _ R' re' q' => q' α' H' σ (Ext.refl _) R' re'
/-- o1[i1], o2[i2] = a pair -/
def sPutB (f fo fi go gi : Env' → M Val) : SD := fun ρ S => (f ρ S).then_ ρ fun v S1 => match v with
  | .d (.tuple [a, b]) => putDK fo fi (.d a) (fun T => putDK go gi (.d b) (fun T => .nx ρ T) ρ T) ρ S1
  | _ => .st
theorem sd_putB {fo fi go gi : Env' → M Val} {o2 i2 : Expr} {p2 pt : Pos} {kt : Nat} (C : CxOk X n) (he : ED X W e f) (ho : ED X W o fo) (hi : ED X W i fi) (ho2 : ED X W o2 go) (hi2 : ED X W i2 gi) (ha : AsgSub X o i p := by intro _; rfl) (ha2 : AsgSub X o2 i2 p2 := by intro _; rfl)
    (hs : swapsWithSole [.Tuple [.Subscript o i p, .Subscript o2 i2 p2] kt pt] e pos.line X.env = pure false := by rfl) (hw : swappedStores [.Tuple [.Subscript o i p, .Subscript o2 i2 p2] kt pt] e X.env = pure none := by rfl)
    (h1 : (assignEach [.Tuple [.Subscript o i p, .Subscript o2 i2 p2] kt pt] X.env).map (·.2) = [assign (.Tuple [.Subscript o i p, .Subscript o2 i2 p2] kt pt) X.env] := by rfl)
    (hn : (assignEach [.Subscript o i p, .Subscript o2 i2 p2] X.env).length = 2 := by rfl) (hst : (assignEach [.Subscript o i p, .Subscript o2 i2 p2] X.env).findIdx? (·.1) = none := by rfl)
    (hs1 : (assignEach [.Subscript o i p, .Subscript o2 i2 p2] X.env).map (·.2) = assign (.Subscript o i p) X.env :: (assignEach [.Subscript o2 i2 p2] X.env).map (·.2) := by rfl)
    (hs2 : (assignEach [.Subscript o2 i2 p2] X.env).map (·.2) = assign (.Subscript o2 i2 p2) X.env :: (assignEach [] X.env).map (·.2) := by rfl) :
    StD X W (.Assign [.Tuple [.Subscript o i p, .Subscript o2 i2 p2] kt pt] e pos) (sPutB f fo fi go gi) :=
  have hd := set_dict (X := X) (by have := C.u1; omega)
  PS.imp (ps_asg he (pg_tup C.hc (pgs_cons (pg_sub ho hi (PSet.or set_list hd) ha) (pgs_cons (pg_sub ho2 hi2 (PSet.or set_list hd) ha2) pgs_nil hs2) hs1) hn hst) hs hw h1) fun D σ H ⟨α, S, ρ, R, re, q⟩ => by
    refine ⟨α, S, ρ, R, re, After.imp (AfterS.split (rel := RV X.K) q re) (fun v H1 ⟨α1, S1, x1, e1, R1, r1, re1, q1⟩ => ?_) fun _ _ _ z => z⟩
    split at q1
    · rename_i a b
      obtain ⟨pa, xs, rfl, h1, g1, _⟩ := R1.tuple r1 (show rd S1 (.d (.tuple [a, b])) = some (.tuple [a, b]) from rfl)
      cases g1 with
      | cons ra g1 =>
        cases g1 with
        | cons rb g1 =>
          cases g1
          refine ⟨pa, _, rfl, h1, rfl, _, _, rfl, ?_⟩
          refine putKQ (x := .d a) R1 re1 ra q1 fun α2 T2 H2 x2 R2 re2 q2 => ⟨_, _, rfl, ?_⟩
          exact putKQ (x := .d b) R2 re2 (Dv.mono x2.same rb) q2 fun α3 T3 H3 _ R3 re3 q3 => ⟨rfl, q3 α3 H3 σ (Ext.refl _) R3 re3⟩
    · exact False.elim q1
end
end Zz
set_option maxRecDepth 100000
set_option maxHeartbeats 4000000
namespace Zz
open PySem PySem.Spec PyProof.Rows L2
/-! ### TABLE.get(k) -/
def dTabGet (ks : List Str) (tbl : List (Str × Val)) (g : Env' → M Val) : Env' → M Val := fun ρ => (g ρ).bind fun y S => match rd S y with
  | some (.str k) => if ks.contains k = true then (match tbl.lookup k with
      | some x => .ok x S
      | none => .st) else .ok (.d .none) S
  | _ => .st
section
variable {X : Cx} {W : WX} {p2 apos cpos : Pos} {x : Str} {e : Expr} {g : Env' → M Val} {tbl : List (Str × Val)} {ks : List Str} {d : Addr}
theorem ed_tabGet (T : TabOk X.K X.w d ks) (hT : TabHas X.K d tbl) (hm : X.mg x = some (.ref d)) (he : ED X W e g)
    (hbase : attributeBase (.Name x p2) "get" X.env (eval (.Name x p2) X.env) = eval (.Name x p2) X.env := by rfl)
    (hfew : ((backTo cpos (starEach [e] X.env)).all (fun x => !x.1) && (backToKw cpos (keywordEach [] X.env)).all (fun x => x.1.isSome) && decide (([e] : List Expr).length + ([] : List Keyword).length + (if ([] : List Keyword).isEmpty then 0 else 1) < 30)) = true := by rfl)
    (hline : (apos.endLine == cpos.line) = true := by rfl) (hs : backTo cpos (starEach [e] X.env) = [(false, eval e X.env)] := by rfl) (hg : Gl X x := by rfl) (hd : (x == ("__debug__" : Str)) = false := by decide) :
    ED X W (.Call (.Attribute (.Name x p2) "get" apos) [e] [] cpos) (dTabGet ks tbl g) := by
  obtain ⟨es, m, D⟩ := T.kd
  refine ⟨fun pins s σ H Q I h => ?_⟩
  refine wpAny_Call_method hbase hfew hline PySem.F.plainAttrs_dict PySem.F.slot_dict_get PySem.F.type_dict_get (thn ((pe_glob (v := .ref d) (pos := p2) hg hm rfl hd).run pins s σ H (fun v H1 => v = .ref d ∧ H1 = H) I ⟨rfl, rfl⟩) fun u s1 ⟨v, H1, I1, rx, q1⟩ => ?_)
  obtain ⟨rfl, rfl⟩ := q1
  cases rx
  refine ⟨kd_type D I1, fun b z => ?_, ?_⟩
  · cases z
    exact ⟨_, I1.kIn _ _ D.at_, rfl⟩
  rw [hs]
  obtain ⟨α, S, ρ, R, re, q⟩ := h
  have q' : tD X.K X.mg W g σ H1 (fun y H2 => ∃ (z : Str) (r : Option Value) (v : V), y = .str z ∧ PySem.W.nsIn X.K d z = some r ∧ RelV v (r.getD .none) ∧ Q v H2) := by
    refine ⟨α, S, ρ, R, re, After.imp (After.split (rel := RV X.K) q) (fun u H2 ⟨α2, S2, y, e2, R2, r2, q2⟩ => ?_) fun _ _ _ z => z⟩
    split at q2
    · rename_i k ek
      cases R2.str r2 ek
      split at q2
      · split at q2
        · rename_i hc y' ey
          obtain ⟨u0, v0, h1, h2, h3⟩ := hT k y' ey
          exact ⟨k, some u0, v0, rfl, h1, h2, q2 α2 H2 v0 (Ext.refl _) R2 (h3 _)⟩
        · exact False.elim q2
      · rename_i hc
        obtain ⟨r, h1, h2⟩ := T.has k
        cases r with
        | some u => exact absurd (h2.symm.trans rfl) hc
        | none => exact ⟨k, none, .non, rfl, h1, rfl, q2 α2 H2 .non (Ext.refl _) R2 .non⟩
    · exact False.elim q2
  refine Calls.callWith_builtin rfl (Calls.evalArgs_plain (Calls.spliced_cons (thn (he.run pins s1 σ H1 _ I1 q') fun iv s2 ⟨y, H2, I2, ry, z, r, v, ey, hn, rv, q2⟩ => Calls.spliced_nil ?_)))
  subst ey
  obtain ⟨t, rfl⟩ := ry
  refine call_meetsIn PySem.F.slot_dict_get (kd_type D I2) PySem.F.entry_dict_get (PySem.F.args_dict_get_2 _ _) (meets_dict_get (strKind X.prog X.w) d (PySem.strKind_is X.prog X.w z t) D.low) ⟨_, PySem.W.mapOf_K (prog := X.prog) I2.kIn D.at_ D.lit, ?_⟩
  rw [PySem.W.find_K D.at_ hn]
  exact ⟨v, H2, I2.tok _, rv, q2⟩
end
end Zz
set_option maxRecDepth 100000
set_option maxHeartbeats 4000000
namespace Zz
open PySem PySem.Spec PyProof.Rows L2
/-! ### {**d, ..}: the display's own merge -/
section
variable {P : Program} {w : World} {A : Around} {E : Value → Shared → Prop} {s : Shared} {κ : Type} [DecidableEq κ] {knd : KeyKind P w κ}
/-- one pair put -/
theorem put_ok {d : Addr} {old : List (κ × Value)} {j : κ} {jv y : Value} {Q : Unit → Shared → Prop} (isj : knd.is j jv = true) (at_ : s.heap.DictOf knd d old) (room : old.length ≤ sizeLine)
    (next : ∀ h', h'.DictOf knd d (stored old j y) → Heap.SameBut d s.heap h' → Q () { s with heap := h' }) : wpAny (model P w) A (dictPut d (knd.hash j) jv y) Q E s := by
  obtain ⟨ob, ens, cap, b1, b2, b3, b4, b5, b6⟩ := at_
  have few : ens.size ≤ sizeLine := by
    have e1 := b5.length
    have e2 : ens.toList.length = ens.size := by simp
    omega
  have same : (ens.findIdx? fun en => knd.is j en.key) = old.findIdx? fun q => decide (q.1 = j) := by
    rw [← b5.findIdx j]
    obtain ⟨l⟩ := ens
    simp
  unfold dictPut
  refine wpAny_bind (wpAny_dictFind_of isj b1 b3 b4 ?_)
  cases found : ens.findIdx? fun en => knd.is j en.key with
  | some m =>
    have there := any_of_findIdx_some (same ▸ found)
    have lf : (ens.toList.findIdx? fun en => knd.is j en.key) = some m := by
      rw [← found]
      obtain ⟨l⟩ := ens
      simp
    refine wpAny_updateDict b1 b3 (next _ ⟨_, _, cap, Heap.get?_update_self _ b1 (Obj.isFreed_of_dict (Obj.data_mapDict b3 _)), b2.mapDict _, Obj.data_mapDict b3 _, b4.modify _ _, ?_, ?_⟩ (Heap.SameBut.update ..))
    · rw [stored, if_pos there]
      have z := b5.modify b6 lf y
      obtain ⟨l⟩ := ens
      simpa using z
    · rw [stored, if_pos there, keys_map_store]
      exact b6
  | none =>
    have off : j ∉ old.map (·.1) := not_mem_of_findIdx_none (same ▸ found)
    have nope : ¬ (old.any fun q => decide (q.1 = j)) = true := fun z => by
      obtain ⟨q, hq, e⟩ := List.any_eq_true.mp z
      exact off (List.mem_map.mpr ⟨q, hq, of_decide_eq_true e⟩)
    refine wpAny_updateDictKeys (hz := few) b1 b3 (next _ ⟨_, _, cap + 1, Heap.get?_update_self _ b1 (Obj.isFreed_of_dict (Obj.data_mapDictKeys b3 _)), b2.mapDictKeys _, Obj.data_mapDictKeys b3 _, b4.push isj _, ?_, ?_⟩ (Heap.SameBut.update ..))
    · rw [stored, if_neg nope]
      have z := b5.append isj (knd.hash j) y
      obtain ⟨l⟩ := ens
      simpa using z
    · rw [stored, if_neg nope, List.map_append, List.nodup_append]
      refine ⟨b6, by simp, fun a ha b hb => ?_⟩
      simp only [List.map_cons, List.map_nil, List.mem_singleton] at hb
      subst hb
      exact fun z => off (z ▸ ha)
/-- all pairs of a plain dict put, none of its keys an object -/
theorem merge_ok {d o : Addr} {old more : List (κ × Value)} {Q : Unit → Shared → Prop} (apart : d ≠ o) (low : (o == sysModules) = false) (plain : ∀ j (a : Addr), knd.is j (.ref a) = false)
    (at_ : s.heap.DictOf knd d old) (other : s.heap.DictOf knd o more) (room : old.length + more.length ≤ sizeLine)
    (next : ∀ h', h'.DictOf knd d (merged old more) → Heap.SameBut d s.heap h' → Q () { s with heap := h' }) : wpAny (model P w) A (mergeMapping d (.ref o) false) Q E s := by
  obtain ⟨ob, ens, cap, b1, b2, b3, b4, b5, b6⟩ := id at_
  obtain ⟨oo, eno, capo, c1, c2, c3, c4, c5, c6⟩ := id other
  have many : more.length = eno.size := by rw [← c5.length]; simp
  have loop : wpAny (model P w) A (do
      let l ← dictEntries o
      let epoch ← dictEpoch o
      forIn (List.range l.size) PUnit.unit fun i (_ : PUnit) => (do
        let l' ← dictEntries o
        match l'[i]? with
          | some e => do
            holding [e.key, e.val] (dictPut d e.hash e.key e.val)
            let ep ← dictEpoch o
            if (ep != epoch) = true then do
                (unsupported "dict.changed-during-merge" : Sem PUnit)
                pure (ForInStep.yield PUnit.unit)
              else pure (ForInStep.yield PUnit.unit)
          | x => do
            (unsupported "dict.changed-during-merge" : Sem PUnit)
            pure (ForInStep.yield PUnit.unit) : Sem (ForInStep PUnit))
      pure ()) Q E s := by
    refine wpAny_bind (wpAny_dictEntries c1 c3 (wpAny_bind (wpAny_dictEpoch c1 c3 (wpAny_bind ?_))))
    rw [List.range_eq_range']
    refine wpAny_forIn_list _ (fun rest _ s' => ∃ g m, s' = { s with heap := g } ∧ rest = List.range' m (eno.size - m) ∧ m ≤ eno.size ∧ g.DictOf knd d (merged old (more.take m)) ∧ g.get? o = some oo ∧ Heap.SameBut d s.heap g)
      _ ?_ ?_ _ _ ⟨s.heap, 0, rfl, by simp, Nat.zero_le _, by simpa [merged] using at_, c1, Heap.SameBut.refl _ _⟩
    · rintro x rest b s' ⟨g, m, rfl, er, hm, g1, g2, g3⟩
      have lt : m < eno.size := Nat.lt_of_le_of_ne hm fun z => by rw [z, Nat.sub_self] at er; cases er
      have e0 : eno.size - m = (eno.size - (m + 1)) + 1 := by omega
      rw [e0, List.range'_succ] at er
      injection er with ex et
      subst ex
      refine wpAny_bind (wpAny_dictEntries g2 c3 ?_)
      rw [Array.getElem?_eq_getElem lt]
      have ltm : x < more.length := by rw [many]; exact lt
      have em : more[x]? = some more[x] := List.getElem?_eq_getElem ltm
      obtain ⟨kk, kv⟩ := c5.get? (e := eno[x]) (by simp [lt]) em
      obtain ⟨j', hj, hh⟩ := c4 eno[x] (Array.getElem_mem lt)
      have ej : j' = more[x].1 := knd.inj _ _ _ hj kk
      show wpAny _ _ (holding [eno[x].key, eno[x].val] (dictPut d eno[x].hash eno[x].key eno[x].val) >>= _) _ _ _
      rw [hh, ej, kv]
      have rm : (merged old (more.take x)).length ≤ sizeLine := by
        have y1 := merged_length_le old (more.take x)
        have y2 : (more.take x).length ≤ more.length := by rw [List.length_take]; omega
        omega
      refine wpAny_bind (wpAny_holding (put_ok kk g1 rm fun h2 p1 p2 => ?_))
      have back : h2.get? o = some oo := (p2.2 o (Ne.symm apart)).trans g2
      refine wpAny_bind (wpAny_dictEpoch back c3 ?_)
      rw [if_neg (by simp)]
      exact wpAny_pure ⟨h2, x + 1, rfl, et, lt, by rw [merged_take_succ old more x more[x] em]; exact p1, back, g3.trans p2⟩
    · rintro b s' ⟨g, m, rfl, er, hm, g1, g2, g3⟩
      have all : m = eno.size := Nat.le_antisymm hm (Nat.le_of_not_lt fun z => by
        have e0 : eno.size - m = (eno.size - (m + 1)) + 1 := by omega
        rw [e0, List.range'_succ] at er
        cases er)
      rw [all, ← many, List.take_length] at g1
      exact wpAny_pure (next g g1 g3)
  unfold mergeMapping
  refine wpAny_bind (wpAny_isInstance other.typeIs isSubtype_dict_dict ?_)
  refine wpAny_bind (wpAny_specialOf other.typeIs PySem.F.slot_dict_iter.lookup ?_)
  refine wpAny_bind (wpAny_pure ?_)
  rw [show ((some (Value.builtin "dict.__iter__") == some (Value.builtin "dict.__iter__")) : Bool) = true from by decide +kernel]
  dsimp only
  rw [low, if_neg Bool.false_ne_true]
  refine wpAny_bind (wpAny_dictEntries b1 b3 ?_)
  by_cases empty : ens.isEmpty = true
  · rw [if_pos empty]
    refine wpAny_bind (wpAny_dictEntries c1 c3 ?_)
    rw [← Array.forIn_toList]
    have none_ : ∀ en ∈ eno.toList, ∀ a : Addr, en.key ≠ .ref a := fun en he a z => by
      obtain ⟨j', hj, _⟩ := c4 en (Array.mem_toList_iff.mp he)
      rw [z, plain] at hj
      cases hj
    refine wpAny_bind (wpAny_forIn_list _ (fun rest _ s' => s' = s ∧ ∀ en ∈ rest, ∀ a : Addr, en.key ≠ .ref a) _ ?_ ?_ _ _ ⟨rfl, none_⟩)
    · rintro x rest b s' ⟨es, h⟩
      subst es
      split
      · rename_i a hx
        exact absurd hx (h x List.mem_cons_self a)
      · exact wpAny_pure ⟨rfl, fun en he => h en (List.mem_cons_of_mem _ he)⟩
    · rintro b s' ⟨es, _⟩
      subst es
      exact loop
  · rw [if_neg empty]
    exact loop
end
end Zz
set_option maxRecDepth 100000
set_option maxHeartbeats 4000000
namespace Zz
open PySem PySem.Spec PyProof.Rows L2
/-- what the display does, whatever it would do where something is raised -/
theorem disp_eq : ∃ (h1 h3 : Addr → Value → Value → Sem Unit) (h2 : Addr → Value → Value → Sem Unit) (h4 : Addr → Value → Sem Unit), ∀ m k v : Sem Value, dictDisplay [(none, m), (some k, v)] = (do
    let d ← alloc { cls := .type "dict", data := .dict #[] }
    let mv ← holding [.ref d] m
    (((holding [.ref d, mv] (mergeMapping d mv false)).onRaise (h1 d mv)).tryCatch (h2 d mv)).onRaise (h3 d mv)
    let sub ← holding [.ref d] (subDict [(k, v)])
    (holding [.ref d, .ref sub] (mergeMapping d (.ref sub) false)).onRaise (h4 d)
    pure (.ref d)) := by
  refine ⟨?_, ?_, ?_, ?_, fun m k v => ?_⟩
  rotate_left 4
  · unfold dictDisplay
    simp only [List.forIn_cons, List.forIn_nil]
    simp
    rfl
/-- {**o, k: v} of plain dicts with keys ints and texts -/
def tDStar (td tk tv : TE) : TE := fun σ H Q => ∀ p, H p = none → td σ (upd H p (.dK [])) fun x H1 => ∃ a more, x = V.ref a ∧ p ≠ a ∧ H1 p = some (.dK []) ∧ Rd H1 a (.dK more) ∧ more.length ≤ 16777215 ∧
  ∀ p2, upd H1 p (.dK (mergeK [] more)) p2 = none → tk σ (upd (upd H1 p (.dK (mergeK [] more))) p2 (.dK [])) fun y H2 => tv σ H2 fun z H3 => ∃ now, H3 p = some (.dK now) ∧ now.length ≤ 16777215 ∧ H3 p2 = some (.dK []) ∧ ∃ kk, y = kV kk ∧
    Q (.ref p) (upd (upd H3 p2 (.dK [(kk, z)])) p (.dK (putK now kk z)))
section
variable {X : Cx} {pos : Pos} {o k v : Expr} {td tk tv : TE}
theorem pe_dstar (ho : PE X o td) (hk : PE X k tk) (hv : PE X v tv)
    (hshape : (evalEachOpt [none, some k] X.env).zip ((evalEach [o, v] X.env).map fun v => do let x ← v; standAt pos; pure x) = [(none, do let x ← eval o X.env; standAt pos; pure x), (some (eval k X.env), do let x ← eval v X.env; standAt pos; pure x)] := by rfl)
    (hpt : pairTrees [some k] [v] X.env pos = [(eval k X.env, do let x ← eval v X.env; standAt pos; pure x)] := by rfl) :
    PE X (.Dict [none, some k] [o, v] pos) (tDStar td tk tv) := by
  refine ⟨fun pins s σ H Q I q => ?_⟩
  have hn := I.hok.fresh (Nat.le_refl s.heap.objs.size)
  have I0 := I.laid (a := s.heap.objs.size) (o := .dK []) (h' := s.heap.push { cls := .type "dict", data := .dict #[] }) (t' := s.toks) (fun _ _ q => Heap.get?_push_of_some _ q) (Nat.le_refl _) (dk_empty s.heap I.big)
  obtain ⟨_, _, _, _, way⟩ := disp_eq
  rw [arm_eval_Dict, hshape, way]
  refine wpAny_bind (wpAny_standAt (wpAny_bind (wpAny_alloc (wpAny_bind (wpAny_holding (wpAny_bind (thn (ho.run pins _ σ _ _ I0 (q _ hn)) fun u s1 ⟨x, H1, I1, rx, a, more, ex, ne, e1, e2, few, q1⟩ => wpAny_bind (wpAny_standAt (wpAny_pure ?_)))))))))
  subst ex
  obtain rfl : u = Value.ref a := rx
  obtain ⟨za, ha, va, ra, da⟩ := dk_rd I1.hok e2
  obtain ⟨zp, hp, vp, rp, dp⟩ := dk_of I1.hok e1
  cases rp
  have noref : ∀ (j : Key) (b : Addr), (mixKind X.prog X.w).is j (.ref b) = false := fun j b => by
    cases j <;> rfl
  have z1 : (mergeK [] more).length ≤ 16777215 := by
    have h1 := length_mergeK more []
    rw [List.length_nil] at h1
    omega
  refine wpAny_bind (wpAny_onRaise (wpAny_tryCatch (wpAny_onRaise (wpAny_holding (merge_ok (knd := mixKind X.prog X.w) ne ha noref dp da (by rw [List.length_nil, ← ra.length, sizeLine_eq]; omega) fun h2 d2 same2 => ?_)))))
  have he2 : ∃ q, h2.get? s.heap.objs.size = some q := let ⟨q, _, _, hq, _⟩ := d2; ⟨q, hq⟩
  have I2 := d_write (t' := s1.toks) I1 (by rw [e1]; exact True.intro) same2 he2 (dk_new (by rw [sizeLine_eq]; omega) hp (ra.merge .nil) d2)
  have hn2 := I2.hok.fresh (Nat.le_refl h2.objs.size)
  have I3 := I2.laid (a := h2.objs.size) (o := .dK []) (h' := h2.push { cls := .type "dict", data := .dict #[] }) (t' := s1.toks) (fun _ _ q => Heap.get?_push_of_some _ q) (Nat.le_refl _) (dk_empty h2 I2.big)
  have q2 := q1 h2.objs.size hn2
  have apart : s.heap.objs.size ≠ h2.objs.size := fun z => by
    rw [← z, upd_same] at hn2
    cases hn2
  have pr := (pps_cons hk hv (pps_nil (X := X) (pos := pos))).run pins { s1 with heap := h2.push { cls := .type "dict", data := .dict #[] } } σ _ (fun ps H3 => match ps with
    | [(y, z)] => ∃ now, H3 s.heap.objs.size = some (.dK now) ∧ now.length ≤ 16777215 ∧ H3 h2.objs.size = some (.dK []) ∧ ∃ kk,
                y = kV kk ∧ Q (V.ref s.heap.objs.size) (upd (upd H3 h2.objs.size (HO.dK [(kk, z)])) s.heap.objs.size (HO.dK (putK now kk z)))
    | _ => False) I3 q2
  rw [hpt] at pr
  refine wpAny_bind (wpAny_holding (wpAny_subDict (knd := mixKind X.prog X.w) (Nat.le_of_ble_eq_true rfl) (thn pr fun ws s3 ⟨ps, H3, I4, rel, q3⟩ => ?_)))
  match ps, rel, q3 with
  | [(y, z)], rel, q3 =>
    obtain ⟨now, e3, zn, e4, kk, ey, q3⟩ := q3
    subst ey
    obtain ⟨rs, cr, rk⟩ := carries_of (P := X.prog) (w := X.w) (kvs := [(kk, z)]) rel
    obtain ⟨zq, hq, vq, rq, dq⟩ := dk_of I4.hok e4
    cases rq
    refine ⟨rs, cr, dq, fun h4 d4 same4 => ?_⟩
    have he4 : ∃ q, h4.get? h2.objs.size = some q := let ⟨q, _, _, hq, _⟩ := d4; ⟨q, hq⟩
    have I5 := d_write (t' := s3.toks + ws.length) I4 (by rw [e4]; exact True.intro) same4 he4 (dk_new (kvs := mergeK [] [(kk, z)]) (by rw [sizeLine_eq]; show (1 : Nat) ≤ _; decide) hq (rk.merge .nil) d4)
    have e5 : upd H3 h2.objs.size (HO.dK (mergeK [] [(kk, z)])) s.heap.objs.size = some (.dK now) := by rw [upd_ne apart]; exact e3
    obtain ⟨zr, hr, vr, rr, dr⟩ := dk_of I5.hok e5
    obtain ⟨zt, ht, vt, rt, dt⟩ := dk_of I5.hok (upd_same (H := H3) (a := h2.objs.size))
    refine wpAny_bind (wpAny_onRaise (wpAny_holding (merge_ok (knd := mixKind X.prog X.w) apart ht noref dr dt (by rw [← rr.length, ← rt.length, sizeLine_eq]; show _ + 1 ≤ _; omega) fun h6 d6 same6 => ?_)))
    have he6 : ∃ q, h6.get? s.heap.objs.size = some q := let ⟨q, _, _, hq, _⟩ := d6; ⟨q, hq⟩
    have I6 := d_write (t' := s3.toks + ws.length) I5 (by rw [e5]; exact True.intro) same6 he6 (dk_new (kvs := mergeK now (mergeK [] [(kk, z)])) (by
      have h1 := length_mergeK (mergeK [] [(kk, z)]) now
      have h3 : (mergeK [] [(kk, z)]).length = 1 := rfl
      rw [sizeLine_eq]; omega) hr (rt.merge rr) d6)
    exact wpAny_pure ⟨.ref s.heap.objs.size, _, I6, rfl, q3⟩
end
end Zz
set_option maxRecDepth 100000
set_option maxHeartbeats 4000000
namespace Zz
open PySem PySem.Spec PyProof.Rows L2
/-! ### {**d, k: v} as data -/
def keyed (kds : List (D × D)) : List (Key × D) := kds.filterMap fun q => (toKey q.1).map fun k => (k, q.2)
theorem keyed_dv {K : PySem.W.Frag} {F : Hp} : ∀ {ks : List (Key × V)} {kds : List (D × D)}, DvKV K F ks kds → Paired (fun (a : Key × V) (b : Key × D) => a.1 = b.1 ∧ Dv K F a.2 b.2) ks (keyed kds)
  | _, _, .nil => .nil
  | _, _, .cons (k := j) (v := v) (d := d) (s := s) (r := rr) h t => by
    have e : keyed ((keyD j, d) :: s) = (j, d) :: keyed s := by
      unfold keyed
      rw [List.filterMap_cons, toKey_keyD]
      rfl
    rw [e]
    exact .cons ⟨rfl, h⟩ (keyed_dv t)
def dDStar (f g h : Env' → M Val) : Env' → M Val := fun ρ S => (f ρ (S ++ [.dct []])).bind fun x S1 => match x with
  | .d (.dict kds) => match S1[S.length]? with
    | some (.dct []) => if kds.length ≤ 16777215 then ((g ρ (S1.set S.length (.dct (mergeD [] (keyed kds))) ++ [.dct []])).bind fun y => (h ρ).bind fun z => (frz z).bind fun d S5 => match S5[S.length]?, S5[S1.length]?, (rd S5 y).bind toKey with
      | some (.dct now), some (.dct []), some k => if now.length ≤ 16777215 then .ok (.d (.dict (putD now k d))) (S5.take S.length) else .st
      | _, _, _ => .st) else .st
    | _ => .st
  | _ => .st
section
variable {X : Cx} {n : Nat} {W : WX} {pos : Pos} {o k v : Expr} {f g h : Env' → M Val}
theorem ed_dstar (ho : ED X W o f) (hk : ED X W k g) (hv : ED X W v h)
    (hshape : (evalEachOpt [none, some k] X.env).zip ((evalEach [o, v] X.env).map fun v => do let x ← v; standAt pos; pure x) = [(none, do let x ← eval o X.env; standAt pos; pure x), (some (eval k X.env), do let x ← eval v X.env; standAt pos; pure x)] := by rfl)
    (hpt : pairTrees [some k] [v] X.env pos = [(eval k X.env, do let x ← eval v X.env; standAt pos; pure x)] := by rfl) :
    ED X W (.Dict [none, some k] [o, v] pos) (dDStar f g h) := PE.imp (pe_dstar ho hk hv hshape hpt) fun σ H Q ⟨α, S, ρ, R, re, q⟩ => fun p hp => by
  obtain ⟨Rc, ec⟩ := R.cell hp (c := .dct []) (o := .dK []) rfl ⟨[], upd_same, .nil⟩
  have len0 : α.length = S.length := R.len
  have ha : ((α ++ [p]) : List Addr)[S.length]? = some p := by
    rw [List.getElem?_append_right (by rw [len0]; exact Nat.le_refl _), len0, Nat.sub_self]; rfl
  refine ⟨_, _, ρ, Rc, re.mono ec, After.imp (After.split0 (rel := RV X.K) q ec) (fun xv H1 ⟨α1, S1, x, e1, R1, r1, q1⟩ => ?_) fun _ _ _ z => z⟩
  have ha1 := e1.at_ ha
  have len1 : α1.length = S1.length := R1.len
  split at q1
  · rename_i kds
    split at q1
    · rename_i hs
      split at q1
      · rename_i few
        obtain ⟨ks0, h1, h2⟩ := R1.at_ S.length p _ ha1 hs
        cases h2
        obtain ⟨a, more, rfl, g1, g2⟩ := R1.dict r1 (show rd S1 (.d (.dict kds)) = some (.dict kds) from rfl)
        have inm : p ∈ Wd.muts ⟨α1, S1, H1⟩ := (mem_muts R1.len).mpr ⟨S.length, _, ha1, hs, rfl⟩
        have ne : p ≠ a := fun z => by
          subst z
          cases r1 with
          | dct hF _ =>
            unfold Wd.F at hF
            rw [if_pos inm] at hF
            cases hF
        refine ⟨a, more, rfl, ne, h1, .inl g1, by rw [kv_len g2]; exact few, fun p2 hp2 => ?_⟩
        have dm : DvKV X.K (Wd.F ⟨α1, S1, H1⟩) (mergeK [] more) (mergeD [] (keyed kds)) := merge_dv (keyed_dv g2) .nil
        obtain ⟨R2, e2⟩ := R1.write (c' := .dct (mergeD [] (keyed kds))) (o := .dK (mergeK [] more)) ha1 hs rfl rfl ⟨_, upd_same, dm⟩
        obtain ⟨R3, e3⟩ := R2.cell hp2 (c := .dct []) (o := .dK []) rfl ⟨[], upd_same, .nil⟩
        have hb : ((α1 ++ [p2]) : List Addr)[S1.length]? = some p2 := by
          rw [List.getElem?_append_right (by rw [len1]; exact Nat.le_refl _), len1, Nat.sub_self]; rfl
        have ha3 : ((α1 ++ [p2]) : List Addr)[S.length]? = some p := e3.at_ (show α1[S.length]? = some p from ha1)
        have x03 := (ec.trans e1).trans (e2.trans e3)
        refine ⟨_, _, ρ, R3, re.mono x03, After.imp (After.split0 (rel := RV X.K) q1 x03) (fun yv H4 ⟨α4, S4, y, e4, R4, r4, q4⟩ => ?_) fun _ _ _ z => z⟩
        refine ⟨α4, S4, ρ, R4, re.mono (x03.trans e4), After.imp (After.split0 (rel := RV X.K) q4 (x03.trans e4)) (fun zv H5 ⟨α5, S5, z, e5, R5, r5, q5⟩ => ?_) fun _ _ _ z => z⟩
        unfold M.bind at q5
        cases ez : frz z S5 with
        | st => rw [ez] at q5; exact False.elim q5
        | ex y' S' => exact absurd ez (frz_noex z S5 y' S')
        | ok d S6 =>
          rw [ez] at q5
          obtain ⟨e6, R6, dv⟩ := frz_to (w := ⟨α5, S5, H5⟩) R5 r5 ez
          have x36 := (e4.trans e5).trans e6
          have ha6 := x36.at_ ha3
          have hb6 := x36.at_ hb
          have q6 : After X.K X.mg (RV X.K) ⟨α, S, H⟩ (match S6[S.length]?, S6[S1.length]?, (rd S6 y).bind toKey with
            | some (.dct now), some (.dct []), some k => if now.length ≤ 16777215 then .ok (.d (.dict (putD now k d))) (S6.take S.length) else .st
            | _, _, _ => .st) Q (fun c d H' => W c d σ H') := q5
          split at q6
          · rename_i now kk hs6 hm6 hk6
            split at q6
            · rename_i fewn
              obtain ⟨ksn, n1, n2⟩ := R6.at_ S.length p _ ha6 hs6
              obtain ⟨ks2, m1, m2⟩ := R6.at_ S1.length p2 _ hb6 hm6
              cases m2
              obtain ⟨dk, k1, k2⟩ := Option.bind_eq_some_iff.mp hk6
              have ey : yv = kV kk := dv_key (R6.any ((r4.mono e5).mono e6) k1) k2
              refine ⟨ksn, n1, by rw [kv_len n2]; exact fewn, m1, kk, ey, ?_⟩
              have dl : S.length ≠ S1.length := fun z => by
                have y1 := (List.getElem?_eq_some_iff.mp hs).1
                omega
              obtain ⟨R7, e7⟩ := R6.write (c' := .dct [(keyD kk, d)]) (o := .dK [(kk, zv)]) hb6 hm6 rfl rfl ⟨_, upd_same, .cons dv .nil⟩
              have hs7 : (S6.set S1.length (.dct [(keyD kk, d)]))[S.length]? = some (.dct now) := by rw [List.getElem?_set_ne (Ne.symm dl)]; exact hs6
              have n2' := (n2.mono e7.same).put kk (dv.mono e7.same)
              obtain ⟨R8, e8⟩ := R7.write (c' := .dct (putD now kk d)) (o := .dK (putK ksn kk zv)) ha6 hs7 rfl rfl ⟨_, upd_same, n2'⟩
              have hs8 : ((S6.set S1.length (.dct [(keyD kk, d)])).set S.length (.dct (putD now kk d)))[S.length]? = some (.dct (putD now kk d)) := List.getElem?_set_self (List.getElem?_eq_some_iff.mp hs7).1
              obtain ⟨R9, e9, d9⟩ := R8.seal (d := .dict (putD now kk d)) ha6 hs8 rfl upd_same fun F eF h => .dct h (n2'.mono (e8.same.trans eF))
              have cut := Ext.cut R R9 (((((x03.trans x36).trans e7).trans e8)).trans e9)
              have st : (((S6.set S1.length (.dct [(keyD kk, d)])).set S.length (.dct (putD now kk d))).set S.length (.old (.dict (putD now kk d)))).take S.length = S6.take S.length := by
                rw [List.take_set_of_le (Nat.le_refl _), List.take_set_of_le (Nat.le_refl _), List.take_set_of_le (by have y1 := (List.getElem?_eq_some_iff.mp hs).1; omega)]
              have R10 := (R9.cut S.length).1
              have d10 := Dv.mono (R9.cut S.length).2 d9
              dsimp only at cut R10 d10
              rw [st] at cut R10 d10
              exact q6 _ _ _ cut R10 d10
            · exact False.elim q6
          · exact False.elim q6
      · exact False.elim q1
    · exact False.elim q1
  · exact False.elim q1
end
end Zz
set_option maxRecDepth 100000
set_option maxHeartbeats 4000000
/-! zip(a, b) of lists, tuples, texts in any mix, walked by a target of two names -/
namespace Zz
open PySem PySem.Spec PyProof.Rows L2
/-- what a zip draws from -/
inductive ZSrc where
  | lst (a : Addr)
  | tup (a : Addr)
  | str (x : Str)
def ZSrc.v : ZSrc → V
  | .lst a => .ref a
  | .tup a => .ref a
  | .str x => .str x
def ZSrc.ad : ZSrc → List Addr
  | .lst a => [a]
  | .tup a => [a]
  | .str _ => []
def ZSrc.has (K : PySem.W.Frag) (H : Hp) : ZSrc → List V → Prop
  | .lst a, xs => SqL K H a xs
  | .tup a, xs => SqT K H a xs
  | .str x, xs => xs = x.cps.toList.map fun c => V.str ⟨#[c]⟩
def ZSrc.it (h : Heap) (it : Addr) (i : Nat) : ZSrc → Prop
  | .lst a => h.IsListIter it a i
  | .tup a => h.IsTupleIter it a i
  | .str x => ∃ t, h.IsStrIter it (strIterType x) x t i
theorem ZSrc.has_same {K : PySem.W.Frag} {F F' : Hp} (e : Same F F') : ∀ {c : ZSrc} {xs : List V}, c.has K F xs → c.has K F' xs
  | .lst _, _, h => seqL e h
  | .tup _, _, h => seqT e h
  | .str _, _, h => h
theorem ZSrc.it_keep {h h' : Heap} {it : Addr} {i : Nat} (k : ∀ o, h.get? it = some o → h'.get? it = some o) : ∀ {c : ZSrc}, c.it h it i → c.it h' it i
  | .lst _, q => q.at k
  | .tup _, q => q.at k
  | .str _, ⟨t, o, e, r⟩ => ⟨t, o, k o e, r⟩
theorem ZSrc.it_obj {h : Heap} {it : Addr} {i : Nat} : ∀ {c : ZSrc}, c.it h it i → ∃ o, h.get? it = some o ∧ ∀ v, o.data ≠ .cell v
  | .lst _, ⟨o, e, _, d⟩ => ⟨o, e, fun v q => by rw [d] at q; cases q⟩
  | .tup _, ⟨o, e, _, d⟩ => ⟨o, e, fun v q => by rw [d] at q; cases q⟩
  | .str _, ⟨t, o, e, _, d⟩ => ⟨o, e, fun v q => by rw [d] at q; cases q⟩
section
variable {X : Cx} {pins : List (Addr × Obj)} {σ : L2.St} {H : Hp} {s : Shared}
theorem ZSrc.inj (I : Inv X pins σ H s) : ∀ {c : ZSrc} {xs ys : List V}, c.has X.K H xs → c.has X.K H ys → xs = ys
  | .lst _, _, _, h, g => I.list_inj h g
  | .tup _, _, _, h, g => I.tuple_inj h g
  | .str _, _, _, h, g => h.trans g.symm
theorem vals_back {xs : List V} {its : List Value} (r : Vals xs its) {i : Nat} {u : Value} (h : its[i]? = some u) : ∃ x, xs[i]? = some x ∧ RelV x u := by
  have hl := r.length
  have hi : i < xs.length := by rw [hl]; exact (List.getElem?_eq_some_iff.mp h).1
  have hx : xs[i]? = some xs[i] := List.getElem?_eq_getElem hi
  obtain ⟨u', e, ru⟩ := r.get hx
  rw [h] at e
  cases e
  exact ⟨_, hx, ru⟩
theorem ZSrc.draws (I : Inv X pins σ H s) {A : Around} (hh : A.handled = none) {it : Addr} {i : Nat} : ∀ {c : ZSrc} {xs : List V}, c.has X.K H xs → it ∉ c.ad → c.it s.heap it i →
    ∃ (P : Nat → Value → Prop) (St : Nat → Heap → Prop), Draws X.prog X.w A it (it :: c.ad) xs.length P St ∧ St i s.heap ∧ (∀ j h, St j h → c.it h it j) ∧ ∀ j u, P j u → ∃ x, xs[j]? = some x ∧ RelV x u
  | .lst a, xs, h, hne, hit => by
    obtain ⟨its, rv, p, _⟩ := I.list h
    have e : its.toArray.size = xs.length := by rw [List.size_toArray]; exact rv.length.symm
    have D := Draws.list (prog := X.prog) (w := X.w) hh it a (fun z => hne (by simp [ZSrc.ad, z])) its.toArray
    rw [e] at D
    exact ⟨_, _, D, ⟨hit, p.isList⟩, fun j h q => q.1, fun j u q => vals_back rv (by simpa using q)⟩
  | .tup a, xs, h, hne, hit => by
    obtain ⟨its, rv, p, _⟩ := I.tuple h
    have e : its.toArray.size = xs.length := by rw [List.size_toArray]; exact rv.length.symm
    have D := Draws.tuple (prog := X.prog) (w := X.w) hh it a (fun z => hne (by simp [ZSrc.ad, z])) its.toArray
    rw [e] at D
    exact ⟨_, _, D, ⟨hit, p⟩, fun j h q => q.1, fun j u q => vals_back rv (by simpa using q)⟩
  | .str x, xs, h, hne, ⟨t, hit⟩ => by
    have e : x.cps.size = xs.length := by rw [show xs = _ from h]; simp
    have D := Draws.text (prog := X.prog) (w := X.w) hh it x t
    rw [e] at D
    refine ⟨_, _, D, hit, fun j h q => ⟨t, q⟩, fun j u ⟨c, tk, hc, eu⟩ => ⟨.str ⟨#[c]⟩, ?_, ?_⟩⟩
    · rw [show xs = _ from h, List.getElem?_map, Array.getElem?_toList, hc]
      rfl
    · rw [eu]; exact ⟨tk, rfl⟩
theorem ZSrc.begins (I : Inv X pins σ H s) {u : Value} : ∀ {c : ZSrc} {xs : List V}, c.has X.K H xs → RelV c.v u →
    ∃ (o : Obj) (Hq : Heap → Prop), Begins u o Hq ∧ Hq s.heap ∧ (∀ h' it, h'.get? it = some o → c.it h' it 0) ∧ ∀ b ∈ c.ad, b < s.heap.objs.size
  | .lst a, xs, h, r => by
    obtain ⟨its, rv, p, _⟩ := I.list h
    obtain rfl : u = Value.ref a := r
    exact ⟨_, _, begins_list a its.toArray, p.isList, fun h' it g => ⟨_, g, rfl, rfl⟩, fun b hb => by
      have e : b = a := by simpa [ZSrc.ad] using hb
      rw [e]; exact p.lt⟩
  | .tup a, xs, h, r => by
    obtain ⟨its, rv, p, _⟩ := I.tuple h
    obtain rfl : u = Value.ref a := r
    obtain ⟨o1, ho1, _⟩ := id p
    exact ⟨_, _, begins_tuple a its.toArray, p, fun h' it g => ⟨_, g, rfl, rfl⟩, fun b hb => by
      have e : b = a := by simpa [ZSrc.ad] using hb
      rw [e]; exact Heap.lt_size ho1⟩
  | .str x, xs, h, r => by
    obtain ⟨t, rfl⟩ := r
    exact ⟨_, _, begins_text x t, trivial, fun h' it g => ⟨t, _, g, rfl, rfl⟩, fun b hb => by cases hb⟩
end
/-- what stands at each turn, in new pairs -/
def ItM (K : PySem.W.Frag) (c1 c2 : ZSrc) (n1 n2 : Nat) : It :=
  ⟨fun i H => ∃ (xs ys : List V) (x y : V), c1.has K H xs ∧ c2.has K H ys ∧ xs.length = n1 ∧ ys.length = n2 ∧ xs[i]? = some x ∧ ys[i]? = some y,
    fun i H v H' => ∃ (T : Addr) (ob : Obj) (x y : V), v = .ref T ∧ H T = none ∧ ob.dict = none ∧ H' = upd H T (.frz ob (.tup [x, y])) ∧ (∀ xs, c1.has K H xs → xs[i]? = some x) ∧ ∀ ys, c2.has K H ys → ys[i]? = some y,
    fun i H => ∃ xs ys : List V, c1.has K H xs ∧ c2.has K H ys ∧ xs.length = n1 ∧ ys.length = n2 ∧ (n1 ≤ i ∨ n2 ≤ i)⟩
theorem turn_zipM {P : Program} {w : World} {K : PySem.W.Frag} {elts : List Expr} {kk : Nat} {tpos : Pos} {c1 c2 : ZSrc} {n1 n2 : Nat} {z TI TO i1 i2 : Addr} (S : ZipSep2 z TI TO i1 i2 (i1 :: c1.ad) (i2 :: c2.ad)) (na1 : i1 ∉ c1.ad) (na2 : i2 ∉ c2.ad) :
    Turn P w K (.Tuple elts kk tpos) (ItM K c1 c2 n1 n2) [z, TI, TO, i1, i2] z (fun i h => (i ≤ n1 ∧ i ≤ n2) ∧ IsZip h z TI TO .none ∧ IsTupOf2 h TI (.ref i1) (.ref i2) ∧ (∃ a1 a2, IsTupOf2 h TO a1 a2) ∧ c1.it h i1 i ∧ c2.it h i2 i) where
  mem := by simp
  obj := fun i h st c hc => by
    obtain ⟨_, hz, hTI, ⟨x, y, hTO⟩, t1, t2⟩ := st
    have e' : c = z ∨ c = TI ∨ c = TO ∨ c = i1 ∨ c = i2 := by simpa using hc
    rcases e' with q | q | q | q | q
    · rw [q]; exact ⟨_, hz, fun v q => nomatch q⟩
    · rw [q]; exact ⟨_, hTI, fun v q => nomatch q⟩
    · rw [q]; exact ⟨_, hTO, fun v q => nomatch q⟩
    · rw [q]; exact ZSrc.it_obj t1
    · rw [q]; exact ZSrc.it_obj t2
  keep := fun i h h' st k => by
    obtain ⟨b, hz, hTI, ⟨x, y, hTO⟩, t1, t2⟩ := st
    exact ⟨b, k z (by simp) _ hz, k TI (by simp) _ hTI, ⟨x, y, k TO (by simp) _ hTO⟩, ZSrc.it_keep (fun o q => k i1 (by simp) o q) t1, ZSrc.it_keep (fun o q => k i2 (by simp) o q) t2⟩
  item := by
    intro X hP hw hK hc i pins s σ H E I hf st hg
    subst hP hw hK
    obtain ⟨⟨b1, b2⟩, hz, hTI, ⟨x0, y0, hTO⟩, t1, t2⟩ := st
    obtain ⟨xs, ys, x, y, hqx, hqy, l1, l2, hx, hy⟩ := hg
    have hlx := (List.getElem?_eq_some_iff.mp hx).1
    have hly := (List.getElem?_eq_some_iff.mp hy).1
    have hzl : z < s.heap.objs.size := Heap.lt_size hz
    obtain ⟨P1, St1, D1, u1, v1, w1⟩ := ZSrc.draws I (A := X.A.in1) (I.ok.hd hc) hqx na1 t1
    obtain ⟨P2, St2, D2, u2, v2, w2⟩ := ZSrc.draws I (A := X.A.in1) (I.ok.hd hc) hqy na2 t2
    refine wpAny_pyNext_zipD2_item S D1 D2 hz hTI hTO u1 u2 hlx hly fun x1 x2 h' tk y1 y2 g1 g2 d1 d2 g5 g6 hk => ?_
    obtain ⟨x', ex, rx⟩ := w1 i x1 y1
    obtain ⟨y', ey, ry⟩ := w2 i x2 y2
    rw [hx] at ex; cases ex
    rw [hy] at ey; cases ey
    refine ⟨_, rfl, wpAny_letOwnedTupleGo_zip (s := { s with heap := h', toks := tk }) g1 fun h'' z'' sb => ?_⟩
    have hT2 : h''.get? s.heap.objs.size = some { cls := .type "tuple", data := .seq #[x1, x2] } := (sb.2 _ (Nat.ne_of_gt hzl)).trans g5
    have new : ObjOk X.prog X.w (upd H s.heap.objs.size (.frz { cls := .type "tuple", data := .seq #[x1, x2] } (.tup [x, y]))) h'' s.heap.objs.size (.frz { cls := .type "tuple", data := .seq #[x1, x2] } (.tup [x, y])) :=
      ⟨hT2, by show 2 ≤ sizeLine; decide, [x1, x2], .cons rx (.cons ry .nil), ⟨_, hT2, rfl, _, rfl⟩⟩
    have I1 : Inv X pins σ (upd H s.heap.objs.size (.frz { cls := .type "tuple", data := .seq #[x1, x2] } (.tup [x, y]))) { s with heap := h'', toks := tk } :=
      I.turnedNew (t' := tk) (ch := [z, TI, TO, i1, i2]) (fun c o hb q => (sb.2 c (fun q' => hb (by simp [q']))).trans (hk c o (fun q' => hb (by simp [q'])) (fun q' => hb (by simp [q'])) (fun q' => hb (by simp [q'])) (fun q' => hb (by simp [q'])) q)) hf (Nat.le_refl _) new
    refine ⟨.ref s.heap.objs.size, _, I1, rfl, ⟨s.heap.objs.size, _, x, y, rfl, I.hok.fresh (Nat.le_refl _), rfl, rfl, fun l hl => by rw [ZSrc.inj I hl hqx]; exact hx, fun l hl => by rw [ZSrc.inj I hl hqy]; exact hy⟩, ⟨⟨by omega, by omega⟩, z'', ?_, ⟨x1, x2, ?_⟩, ?_, ?_⟩, fun c hcm => ?_⟩
    · exact (sb.2 _ S.TIz).trans (hk _ _ S.TIz S.TITO S.TIi1 S.TIi2 hTI)
    · exact (sb.2 _ S.TOz).trans g2
    · exact ZSrc.it_keep (fun o q => (sb.2 _ S.zi1.symm).trans q) (v1 _ _ d1)
    · exact ZSrc.it_keep (fun o q => (sb.2 _ S.zi2.symm).trans q) (v2 _ _ d2)
    · have hlt : c < s.heap.objs.size := by
        have e' : c = z ∨ c = TI ∨ c = TO ∨ c = i1 ∨ c = i2 := by simpa using hcm
        rcases e' with q | q | q | q | q
        · rw [q]; exact hzl
        · rw [q]; exact Heap.lt_size hTI
        · rw [q]; exact Heap.lt_size hTO
        · rw [q]; obtain ⟨_, e1, _⟩ := ZSrc.it_obj t1; exact Heap.lt_size e1
        · rw [q]; obtain ⟨_, e1, _⟩ := ZSrc.it_obj t2; exact Heap.lt_size e1
      rw [upd_ne (Nat.ne_of_lt hlt)]
      exact (hf c hcm).1
  done := by
    intro X hP hw hK hc i pins s σ H E I hf st hg
    subst hP hw hK
    obtain ⟨⟨b1, b2⟩, hz, hTI, ⟨x0, y0, hTO⟩, t1, t2⟩ := st
    obtain ⟨xs, ys, hqx, hqy, l1, l2, hend⟩ := hg
    obtain ⟨P1, St1, D1, u1, v1, w1⟩ := ZSrc.draws I (A := X.A.in1) (I.ok.hd hc) hqx na1 t1
    obtain ⟨P2, St2, D2, u2, v2, w2⟩ := ZSrc.draws I (A := X.A.in1) (I.ok.hd hc) hqy na2 t2
    exact wpAny_pyNext_zipD2_end S D1 D2 hz hTI hTO u1 u2 (by omega) (by omega) (by omega) fun h' tk hk => ⟨rfl, I.turnedL (t' := tk) (ch := [z, TI, TO, i1, i2]) (fun c o hb q =>
      hk c o (fun q' => hb (by simp [q'])) (fun q' => hb (by simp [q'])) (fun q' => hb (by simp [q'])) (fun q' => hb (by simp [q'])) q) hf⟩
  self := fun A i s Q E st h => wpAny_pyIter_zip st.2.1 h
def iZipM (K : PySem.W.Frag) (ta : TA) : TI := fun σ H R => ta σ H fun vs H1 => ∃ (c1 c2 : ZSrc) (xs ys : List V), vs = [c1.v, c2.v] ∧ c1.has K H1 xs ∧ c2.has K H1 ys ∧ R (ItM K c1 c2 xs.length ys.length) H1
theorem pi_zipM {X : Cx} {e e2 : Expr} {ta : TA} {p pos tpos : Pos} {elts : List Expr} {kk : Nat} (hg : Gl X "zip") (hm : X.mg "zip" = none) (ha : PA X [e, e2] ta)
    (hs : starEach [e, e2] X.env = (false, eval e X.env) :: starEach [e2] X.env := by rfl) (hpl : (backTo pos (starEach [e2] X.env)).any (·.1) = false := by rfl) :
    PI X (.Tuple elts kk tpos) (.Call (.Name "zip" p) [e, e2] [] pos) (iZipM X.K ta) := by
  refine ⟨fun pins s σ H R I h => ?_⟩
  refine Call_ (ld_blt I hg hm PyProof.Rows.boot_zip (PyProof.Rows.callWith_type1 (thn (ha.run pos pins s σ H _ I h) fun us s1 ⟨vs, H1, I1, r1, q1⟩ => ?_) hs hpl))
  obtain ⟨c1, c2, xs, ys, ex, hqx, hqy, q⟩ := q1
  subst ex
  cases r1 with
  | cons r rr =>
    cases rr with
    | cons r' rr =>
      cases rr
      obtain ⟨o1, Hq1, B1, k1, t1, f1⟩ := ZSrc.begins I1 hqx r
      obtain ⟨o2, Hq2, B2, k2, t2, f2⟩ := ZSrc.begins I1 hqy r'
      have fresh5 : ∀ c, c ∈ [s1.heap.objs.size + 4, s1.heap.objs.size + 2, s1.heap.objs.size + 3, s1.heap.objs.size, s1.heap.objs.size + 1] → FpOk X pins H1 c := fun c hcm => by
        have e' : c = s1.heap.objs.size + 4 ∨ c = s1.heap.objs.size + 2 ∨ c = s1.heap.objs.size + 3 ∨ c = s1.heap.objs.size ∨ c = s1.heap.objs.size + 1 := by simpa using hcm
        have hle : s1.heap.objs.size ≤ c := by
          rcases e' with z | z | z | z | z
          · rw [z]; exact Nat.le_add_right _ _
          · rw [z]; exact Nat.le_add_right _ _
          · rw [z]; exact Nat.le_add_right _ _
          · rw [z]; exact Nat.le_refl _
          · rw [z]; exact Nat.le_add_right _ _
        exact I1.fpOk hle (I1.hok.fresh hle)
      refine zip_begins2 B1 B2 k1 k2 fun h' hz hTI hTO g1 g2 hsz hk => wpAny_pyIter_zip hz ?_
      have I2 : Inv X pins σ H1 { s1 with heap := h' } := I1.kept (t' := s1.toks) hk
      exact ⟨s1.heap.objs.size + 4, [s1.heap.objs.size + 4, s1.heap.objs.size + 2, s1.heap.objs.size + 3, s1.heap.objs.size, s1.heap.objs.size + 1], _, _, H1, rfl, I2,
        turn_zipM (zip_sep2 f1 f2) (fun z => Nat.lt_irrefl _ (f1 _ z)) (fun z => absurd (f2 _ z) (Nat.not_lt.mpr (Nat.le_succ _))), ⟨⟨Nat.zero_le _, Nat.zero_le _⟩, hz, hTI, ⟨_, _, hTO⟩, t1 _ _ g1, t2 _ _ g2⟩, fresh5, q⟩
/-! ### over the data -/
theorem src_of {K : PySem.W.Frag} {F : Hp} {v : V} {a : D} {as : List D} (h : Dv K F v a) (e : itemsD a = some as) : ∃ (c : ZSrc) (xs : List V), v = c.v ∧ c.has K F xs ∧ DvAll K F xs as := by
  cases h with
  | lst h1 h2 => cases e; exact ⟨.lst _, _, rfl, h1, h2⟩
  | tup h1 h2 => cases e; exact ⟨.tup _, _, rfl, h1.sq, h2⟩
  | str x =>
    cases e
    refine ⟨.str x, _, rfl, rfl, ?_⟩
    generalize x.cps.toList = l
    induction l with
    | nil => exact .nil
    | cons c r ih => exact .cons (.str _) ih
  | non => cases e
  | bl b => cases e
  | int i => cases e
  | dct h1 h2 => cases e
def zipD (as bs : List D) : List D := List.zipWith (fun x y => PyData.tuple [x, y]) as bs
theorem yl_zip {K : PySem.W.Frag} {mg : Str → Option Value} {w : Wd} {c1 c2 : ZSrc} {xs ys : List V} {as bs : List D} (h1 : c1.has K w.F xs) (h2 : c2.has K w.F ys) (g1 : DvAll K w.F xs as) (g2 : DvAll K w.F ys bs) :
    Yields K mg w (ItM K c1 c2 xs.length ys.length) (zipD as bs) := fun w' e R i => by
  have k1 : c1.has K w'.H xs := ZSrc.has_same (Wd.F_same w') (ZSrc.has_same e.same h1)
  have k2 : c2.has K w'.H ys := ZSrc.has_same (Wd.F_same w') (ZSrc.has_same e.same h2)
  refine ⟨fun d hd => ?_, fun hi => ⟨xs, ys, k1, k2, rfl, rfl, ?_⟩⟩
  · unfold zipD at hd
    rw [List.getElem?_zipWith] at hd
    cases ea : as[i]? with
    | none => rw [ea] at hd; simp at hd
    | some a =>
      cases eb : bs[i]? with
      | none => rw [ea, eb] at hd; simp at hd
      | some b =>
        rw [ea, eb] at hd
        have hd' : PyData.tuple [a, b] = d := Option.some.inj hd
        subst hd'
        obtain ⟨v1, e1, r1⟩ := g1.get ea
        obtain ⟨v2, e2, r2⟩ := g2.get eb
        refine ⟨⟨xs, ys, v1, v2, k1, k2, rfl, rfl, e1, e2⟩, fun x H' ⟨T, ob, x1, y1, ev, hT, hdict, eH, f1, f2⟩ => ?_⟩
        subst ev eH
        have z1 := f1 xs k1
        have z2 := f2 ys k2
        rw [e1] at z1; cases z1
        rw [e2] at z2; cases z2
        obtain ⟨r3, x3, f3⟩ := R.new hT (.frz ob (.tup [v1, v2]))
        exact ⟨x3, r3, .tup (.inl ⟨ob, f3, hdict⟩) (.cons ((r1.mono e.same).mono x3.same) (.cons ((r2.mono e.same).mono x3.same) .nil))⟩
  · have hl : (zipD as bs).length = min as.length bs.length := List.length_zipWith ..
    rw [hl] at hi
    have l1 := g1.length
    have l2 := g2.length
    omega
def itZip (g : Env' → M (List Val)) : Env' → M (List D) := fun ρ => (g ρ).bind fun xs => (frzs xs).bind fun ds => match ds with
  | [a, b] => (match itemsD a, itemsD b with
    | some as, some bs => M.ret (zipD as bs)
    | _, _ => M.st)
  | _ => M.st
section
variable {X : Cx} {W : WX} {g : Env' → M (List Val)} {e e2 : Expr} {p pos tpos : Pos} {elts : List Expr} {kk : Nat}
theorem id_zip (hm : X.mg "zip" = none) (ha : AD X W [e, e2] g) (hg : Gl X "zip" := by rfl)
    (hs : starEach [e, e2] X.env = (false, eval e X.env) :: starEach [e2] X.env := by rfl) (hpl : (backTo pos (starEach [e2] X.env)).any (·.1) = false := by rfl) :
    ID X W (.Tuple elts kk tpos) (.Call (.Name "zip" p) [e, e2] [] pos) (itZip g) := PI.imp (pi_zipM hg hm ha hs hpl) fun σ H R ⟨α, S, ρ, R0, re, q⟩ => ⟨α, S, ρ, R0, re, After.imp (After.split (rel := RVs X.K) q) (fun vs H1 ⟨α1, S1, xs, e1, R1, r1, q1⟩ => by
    obtain ⟨S2, ds, e2, R2, r2, q2⟩ := frzs_ok (w := ⟨α1, S1, H1⟩) R1 r1 q1
    cases ds with
    | nil => exact False.elim q2
    | cons a t =>
      cases t with
      | nil => exact False.elim q2
      | cons b t2 =>
        cases t2 with
        | cons c t3 => exact False.elim q2
        | nil =>
          dsimp only at q2
          cases ea : itemsD a with
          | none => simp only [ea] at q2; exact False.elim q2
          | some as =>
            cases eb : itemsD b with
            | none => simp only [ea, eb] at q2; exact False.elim q2
            | some bs =>
              simp only [ea, eb] at q2
              cases r2 with
              | cons ra rr =>
                cases rr with
                | cons rb rr =>
                  cases rr
                  obtain ⟨c1, xs1, ev1, k1, d1⟩ := src_of ra ea
                  obtain ⟨c2, xs2, ev2, k2, d2⟩ := src_of rb eb
                  subst ev1 ev2
                  refine ⟨c1, c2, xs1, xs2, rfl, ZSrc.has_same (Wd.F_same ⟨α1, S2, H1⟩) k1, ZSrc.has_same (Wd.F_same ⟨α1, S2, H1⟩) k2, ?_⟩
                  exact q2 α1 H1 _ (Ext.refl _) R2 (yl_zip k1 k2 d1 d2)) fun _ _ _ z => z⟩
end
end Zz
set_option maxRecDepth 100000
set_option maxHeartbeats 4000000
/-! instances of the program's own classes: cells of attributes -/
namespace Zz
open PySem PySem.Spec PyProof.Rows L2
def setAt_ (f : Str) (d : D) : List (Str × D) → List (Str × D)
  | [] => [(f, d)]
  | (g, x) :: r => if g = f then (g, d) :: r else (g, x) :: setAt_ f d r
abbrev AtR (K : PySem.W.Frag) (F : Hp) : (Str × V) → (Str × D) → Prop := fun p q => p.1 = q.1 ∧ Dv K F p.2 q.2
theorem paired_put {K : PySem.W.Frag} {F : Hp} {f : Str} {v : V} {d : D} (dv : Dv K F v d) : ∀ {gs : List (Str × V)} {fs : List (Str × D)}, Paired (AtR K F) gs fs → Paired (AtR K F) (putF f v gs) (setAt_ f d fs)
  | _, _, .nil => .cons ⟨rfl, dv⟩ .nil
  | _, _, .cons (a := a) (b := b) (l₁ := l) (l₂ := m) r t => by
    obtain ⟨g, x⟩ := a
    obtain ⟨g', y⟩ := b
    obtain ⟨e, rd⟩ := r
    have e' : g = g' := e
    subst e'
    unfold putF setAt_
    by_cases h : g = f
    · rw [if_pos h, if_pos h]
      exact .cons ⟨rfl, dv⟩ t
    · rw [if_neg h, if_neg h]
      exact .cons ⟨rfl, rd⟩ (paired_put dv t)
theorem paired_look {K : PySem.W.Frag} {F : Hp} {f : Str} {d : D} : ∀ {gs : List (Str × V)} {fs : List (Str × D)}, Paired (AtR K F) gs fs → fs.lookup f = some d → ∃ v, gs.lookup f = some v ∧ Dv K F v d
  | _, _, .nil, h => by cases h
  | _, _, .cons (a := a) (b := b) (l₁ := l) (l₂ := m) r t, h => by
    obtain ⟨g, x⟩ := a
    obtain ⟨g', y⟩ := b
    obtain ⟨e, rd⟩ := r
    have e' : g = g' := e
    subst e'
    rw [List.lookup_cons] at h ⊢
    cases q : f == g with
    | true => rw [q] at h; cases h; exact ⟨x, rfl, rd⟩
    | false => rw [q] at h; exact paired_look t h
theorem frz_is {K : PySem.W.Frag} {mg : Str → Option Value} {w : Wd} {v : V} {x : Val} {d : D} {S2 : List Cell} (R : Rep K mg w) (r : RV K w v x) (e : frz x w.S = .ok d S2) :
    Ext w ⟨w.α, S2, w.H⟩ ∧ Rep K mg ⟨w.α, S2, w.H⟩ ∧ Dv K (Wd.F ⟨w.α, S2, w.H⟩) v d := by
  classical
  obtain ⟨S', d', x1, R1, dv, q⟩ := frz_ok (A' := Unit) (B' := Unit) (rel := fun _ _ _ => True) (k := fun d' S'' => if d' = d ∧ S'' = S2 then .ok () S'' else .st) (Q := fun _ _ => True) (X := fun _ _ _ => False) R r (by
    rw [e]
    show After K mg _ w (if d = d ∧ S2 = S2 then Res.ok () S2 else .st) _ _
    rw [if_pos ⟨rfl, rfl⟩]
    exact fun _ _ _ _ _ _ => trivial)
  by_cases z : d' = d ∧ S' = S2
  · obtain ⟨rfl, rfl⟩ := z
    exact ⟨x1, R1, dv⟩
  · rw [if_neg z] at q
    exact q.elim
/-- o.f = value, o an instance of the class called cn -/
def sAttr (cn f : Str) (g o : Env' → M Val) : SD := fun ρ S => (g ρ S).then_ ρ fun y S1 => (frz y S1).then_ ρ fun d S2 => (o ρ S2).then_ ρ fun x S3 => match x with
  | .c l => (match S3[l]? with
    | some (.ins c fs) => if c = cn ∧ fs.length < 1000 then .nx ρ (S3.set l (.ins c (setAt_ f d fs))) else .st
    | _ => .st)
  | _ => .st
section
variable {X : Cx} {W : WX} {n : Nat} {e o : Expr} {pos pos' : Pos} {f cn : Str} {g h : Env' → M Val}
theorem sd_attr (hA : ∀ C, X.mg cn = some (.ref C) → Cls X.K C ∧ NoAttr X.K C f) (ho : ED X W o h) (he : ED X W e g) (hs : swapsWith e (some (.Attribute o f pos')) pos.line X.env = pure false := by rfl) :
    StD X W (.Assign [.Attribute o f pos'] e pos) (sAttr cn f g h) :=
  PS.imp (ps_fld ho he hs) fun D σ H ⟨α, S, ρ, R, re, q⟩ => ⟨α, S, ρ, R, re, After.imp (AfterS.split (rel := RV X.K) q re) (fun v H1 ⟨α1, S1, y, e1, R1, r1, re1, q1⟩ => by
    cases ef : frz y S1 with
    | st => rw [ef] at q1; exact False.elim q1
    | ex x S2 => exact absurd ef (frz_noex _ _ _ _)
    | ok d S2 =>
      rw [ef] at q1
      obtain ⟨e2, R2, dv⟩ := frz_is (w := ⟨α1, S1, H1⟩) R1 r1 ef
      have q2 : AfterS X.K X.mg ⟨α1, S2, H1⟩ ((h ρ S2).then_ ρ fun x S3 => match x with
        | .c l => (match S3[l]? with
          | some (.ins c fs) => if c = cn ∧ fs.length < 1000 then .nx ρ (S3.set l (.ins c (setAt_ f d fs))) else .st
          | _ => .st)
        | _ => .st) D W := AfterS.later q1 e2
      refine ⟨α1, S2, ρ, R2, re1.mono e2, After.imp (AfterS.split (rel := RV X.K) q2 (re1.mono e2)) (fun u H3 ⟨α3, S3, x, e3, R3, r3, re3, q3⟩ => ?_) fun _ _ _ z => z⟩
      cases x with
      | d x => exact False.elim q3
      | f x => exact False.elim q3
      | c l =>
        obtain ⟨a, ha, rfl⟩ := r3
        dsimp only at q3
        cases es : S3[l]? with
        | none => rw [es] at q3; exact False.elim q3
        | some cc =>
          rw [es] at q3
          cases cc with
          | lst ds => exact False.elim q3
          | dct ds => exact False.elim q3
          | old ds => exact False.elim q3
          | exc ds => exact False.elim q3
          | ins c fs =>
            dsimp only at q3
            split at q3
            · rename_i hz
              obtain ⟨rfl, hz⟩ := hz
              obtain ⟨C, dx, gs, hC, hH, hp⟩ := R3.at_ l a _ ha es
              obtain ⟨hc, hn⟩ := hA C hC
              have hl : gs.length = fs.length := Paired.length hp
              obtain ⟨R4, e4⟩ := R3.write (c' := .ins c (setAt_ f d fs)) (o := .ins C dx (putF f v gs)) ha es rfl rfl ⟨C, dx, _, hC, upd_same, paired_put (dv.mono e3.same) hp⟩
              exact ⟨a, C, dx, gs, rfl, hH, hc, hn, by omega, q3 α3 _ σ e4 R4 (re3.mono e4)⟩
            · exact False.elim q3) fun _ _ _ z => z⟩
/-- o.f, an attribute -/
def dFld (cn f : Str) (o : Env' → M Val) : Env' → M Val := fun ρ => (o ρ).bind fun x S => match x with
  | .c l => (match S[l]? with
    | some (.ins c fs) => if c = cn then (match fs.lookup f with
      | some d => .ok (.d d) S
      | none => .st) else .st
    | _ => .st)
  | _ => .st
theorem ed_fld (hA : ∀ C, X.mg cn = some (.ref C) → Cls X.K C ∧ NoAttr X.K C f) (ho : ED X W o h) (hb : attributeBase o f X.env (eval o X.env) = eval o X.env := by rfl) : ED X W (.Attribute o f pos) (dFld cn f h) :=
  PE.imp (pe_fld ho hb) fun σ H Q ⟨α, S, ρ, R, re, q⟩ => ⟨α, S, ρ, R, re, After.imp (After.split (rel := RV X.K) q) (fun u H3 ⟨α3, S3, x, e3, R3, r3, q3⟩ => by
    cases x with
    | d x => exact False.elim q3
    | f x => exact False.elim q3
    | c l =>
      obtain ⟨a, ha, rfl⟩ := r3
      dsimp only at q3
      cases es : S3[l]? with
      | none => rw [es] at q3; exact False.elim q3
      | some cc =>
        rw [es] at q3
        cases cc with
        | lst ds => exact False.elim q3
        | dct ds => exact False.elim q3
        | old ds => exact False.elim q3
        | exc ds => exact False.elim q3
        | ins c fs =>
          dsimp only at q3
          split at q3
          · rename_i hz
            subst hz
            obtain ⟨C, dx, gs, hC, hH, hp⟩ := R3.at_ l a _ ha es
            obtain ⟨hc, hn⟩ := hA C hC
            cases el : fs.lookup f with
            | none => rw [el] at q3; exact False.elim q3
            | some d =>
              rw [el] at q3
              obtain ⟨v, e1, dv⟩ := paired_look hp el
              exact ⟨a, C, dx, gs, v, rfl, hH, hc, hn, e1, q3 α3 H3 v (Ext.refl _) R3 dv⟩
          · exact False.elim q3) fun _ _ _ z => z⟩
/-- a new instance, then __init__ -/
def mkR (cn : Str) (F : Fn) (as : List Val) : M Val := fun S => (F (.c S.length :: as) (S ++ [Cell.ins cn []])).bind fun v S' => match v with
  | .d .none => .ok (.c S.length) S'
  | _ => .st
def dMake (cn : Str) (F : Fn) (g : Env' → M (List Val)) : Env' → M Val := fun ρ => (g ρ).bind (mkR cn F)
variable {k : Nat} {f' C : Addr} {fd : FuncData} {ps ks : List Str} {F : Fn} {x : Str} {p : Pos} {es : List Expr} {gg : Env' → M (List Val)}
theorem run_mk {pins : List (Addr × Obj)} {σ : L2.St} {H : Hp} {s : Shared} {Q : VK} {us : List Value} {vs : List V} {n : Nat} {kw : List (Str × Value)} {us0 : List Value} (M : L2.Mk X.K C f') (G : FnG X.prog X.w X.K X.mg X.base k f' fd ps F) (hF : Arity ps.length F) (CX : CxOk X n) (hk : k + 1 ≤ n) (tk : Takes X W)
    (hm : X.mg cn = some (.ref C)) (I : Inv X pins σ H s) (r : Vals vs us) (hb : us.length + 1 = ps.length → ∀ (s' : Shared) (u : Value), X.K.In s'.heap → BindsTo s' fd ⟨u :: us0, kw⟩ (ps.zip (u :: us)))
    (h : ∃ α S as, Rep X.K X.mg ⟨α, S, H⟩ ∧ RVs X.K ⟨α, S, H⟩ vs as ∧ After X.K X.mg (RV X.K) ⟨α, S, H⟩ (mkR cn F as S) Q (fun c d H' => W c d σ H')) :
    wpAny (model X.prog X.w) X.A (call (.ref C) us0 kw) (EP X pins σ Q) X.xe s := by
  obtain ⟨α, S, as, R, rv, q⟩ := h
  have I2 := Inv.made (C := C) I
  have nx : H (s.heap.objs.size + 1) = none := I.hok.fresh (Nat.le_succ _)
  have nd : H s.heap.objs.size = none := I.hok.fresh (Nat.le_refl _)
  have ne : s.heap.objs.size + 1 ≠ s.heap.objs.size := Nat.succ_ne_self _
  obtain ⟨R1, e1, _⟩ := R.new nd (.own (s.heap.objs.size + 1))
  obtain ⟨R2, e2⟩ := R1.cell (p := s.heap.objs.size + 1) (o := .ins C s.heap.objs.size []) (c := .ins cn []) ((upd_ne ne).trans nx) rfl ⟨C, _, [], hm, upd_same, .nil⟩
  have e12 := e1.trans e2
  have hlen : as.length + 1 = ps.length := by
    by_cases z : as.length + 1 = ps.length
    · exact z
    · have q' := q
      unfold mkR at q'
      rw [hF (.c S.length :: as) _ (by simpa using z)] at q'
      exact False.elim q'
  have hus : us.length + 1 = ps.length := by rw [← r.length, rv.length]; exact hlen
  have rv2 : RVs X.K ⟨α ++ [s.heap.objs.size + 1], S ++ [.ins cn []], upd (upd H s.heap.objs.size (.own (s.heap.objs.size + 1))) (s.heap.objs.size + 1) (.ins C s.heap.objs.size [])⟩ (.ref (s.heap.objs.size + 1) :: vs) (.c S.length :: as) :=
    .cons ⟨_, by
      rw [← R.len]
      show (α ++ [s.heap.objs.size + 1])[α.length]? = _
      rw [List.getElem?_append_right (Nat.le_refl _), Nat.sub_self]; rfl, rfl⟩ (RVs.mono e12 rv)
  have at0 : (α ++ [s.heap.objs.size + 1])[S.length]? = some (s.heap.objs.size + 1) := by
    rw [← R.len]
    show (α ++ [s.heap.objs.size + 1])[α.length]? = _
    rw [List.getElem?_append_right (Nat.le_refl _), Nat.sub_self]; rfl
  have q2 := After.later q e12
  unfold mkR at q2
  refine wpAny_call (make_map (f := f') I.kIn M.makes M.init (beq_iff_eq.mp M.fn) (codeAny_mono (G.run _ X.stack _ _ ⟨Value.ref (s.heap.objs.size + 1) :: us0, kw⟩ (Value.ref (s.heap.objs.size + 1) :: us) (.ref (s.heap.objs.size + 1) :: vs)
    (fun v H2 => v = .non ∧ Q (.ref (s.heap.objs.size + 1)) H2) (fun c d H' => W c d σ H') CX.hG ((CX.hr.mono hk).make C us0 kw) (I2.env0.make C us0 kw) (hb hus _ _ I2.kIn) (.cons rfl r)
    (by rw [List.length_cons, rv.length]; exact hlen) ⟨_, _, _, R2, rv2, After.imp (After.split (rel := RV X.K) q2) (fun v H3 ⟨α3, S3, x, e3, R3, r3, q3⟩ => ?_) fun _ _ _ z => z⟩) fun r s' hq' => ?_))
  · cases x with
    | c l => exact False.elim q3
    | f l => exact False.elim q3
    | d d =>
      cases d with
      | none =>
        cases r3
        exact ⟨rfl, q3 α3 H3 _ (Ext.refl _) R3 ⟨_, e3.at_ at0, rfl⟩⟩
      | bool b => exact False.elim q3
      | int b => exact False.elim q3
      | str b => exact False.elim q3
      | list b => exact False.elim q3
      | tuple b => exact False.elim q3
      | dict b => exact False.elim q3
  · cases r with
    | error e => exact tk e s' (XE.of_call I2 (fun _ _ _ h => h) hq')
    | ok fl =>
      cases fl with
      | ret u =>
        obtain ⟨v, H', I3, rv', ev, q3⟩ := I2.after hq'
        subst ev
        exact ⟨rv', ⟨V.ref (s.heap.objs.size + 1), H', I3, rfl, q3⟩⟩
      | next => exact False.elim hq'
      | brk => exact False.elim hq'
      | cont => exact False.elim hq'
/-- C(k = v, ..) -/
theorem ed_makeK (M : L2.Mk X.K C f') (G : FnG X.prog X.w X.K X.mg X.base k f' fd ps F) (hF : Arity ps.length F) (CX : CxOk X n) (hk : k + 1 ≤ n) (tk : Takes X W) (hm : X.mg x = some (.ref C)) {kws : List Keyword}
    (hb : ∀ (s' : Shared) (u : Value) (us : List Value), us.length + 1 = ps.length → BindsTo s' fd ⟨[u], ks.zip us⟩ (ps.zip (u :: us)))
    (ha : KD X W kws gg) (hall : (backToKw pos (keywordEach kws X.env)).all (·.1.isSome) = true := by rfl) (hks : (backToKw pos (keywordEach kws X.env)).filterMap (·.1) = ks := by rfl)
    (hg : Gl X x := by rfl) (hdb : (x == ("__debug__" : Str)) = false := by decide) (hpl : ((backTo pos (starEach [] X.env)).any (·.1) || (backToKw pos (keywordEach kws X.env)).any (·.1.isNone)) = false := by rfl) :
    ED X W (.Call (.Name x p) [] kws pos) (dMake x F gg) := by
  refine ⟨fun pins s σ H Q I ⟨α, S, ρ, R, re, q⟩ => wpAny_Call_Name_kw (ld_glob I hg hm ?_ hdb)⟩
  refine PySem.W.callWith_KW0 (h₀ := X.base) I.ok.mod.kin M.kp hall (thn (ha.run pos pins s σ H _ I ⟨α, S, ρ, R, re, After.imp (After.split (rel := RVs X.K) q) (fun vs H1 ⟨α1, S1, as, e1, R1, r1, q1⟩ => (⟨α1, S1, as, R1, r1, q1⟩ : ∃ α S as, Rep X.K X.mg ⟨α, S, H1⟩ ∧ RVs X.K ⟨α, S, H1⟩ vs as ∧ After X.K X.mg (RV X.K) ⟨α, S, H1⟩ (mkR x F as S) Q (fun c d H' => W c d σ H'))) fun _ _ _ z => z⟩) fun us s1 ⟨vs, H1, I1, r, q⟩ => ⟨I1.kIn, ?_⟩) hpl
  rw [hks]
  exact run_mk (us := us) (us0 := []) M G hF CX hk tk hm I1 r (fun hl s' u _ => hb s' u us hl) q
/-- C(e, ..) -/
theorem ed_make (M : L2.Mk X.K C f') (G : FnG X.prog X.w X.K X.mg X.base k f' fd ps F) (hF : Arity ps.length F) (CX : CxOk X n) (hk : k + 1 ≤ n) (tk : Takes X W) (hm : X.mg x = some (.ref C)) (hb : Binds X.K fd ps [])
    (ha : AD X W (e :: es) gg) (hg : Gl X x := by rfl) (hdb : (x == ("__debug__" : Str)) = false := by decide) (he : starEach (e :: es) X.env = (false, eval e X.env) :: starEach es X.env := by rfl) (hpl : (backTo pos (starEach es X.env)).any (·.1) = false := by rfl) :
    ED X W (.Call (.Name x p) (e :: es) [] pos) (dMake x F gg) := by
  refine ⟨fun pins s σ H Q I ⟨α, S, ρ, R, re, q⟩ => wpAny_Call_Name_kw (ld_glob I hg hm ?_ hdb)⟩
  refine PySem.W.callWith_K (h₀ := X.base) I.ok.mod.kin M.kp (thn (ha.run pos pins s σ H _ I ⟨α, S, ρ, R, re, After.imp (After.split (rel := RVs X.K) q) (fun vs H1 ⟨α1, S1, as, e1, R1, r1, q1⟩ => (⟨α1, S1, as, R1, r1, q1⟩ : ∃ α S as, Rep X.K X.mg ⟨α, S, H1⟩ ∧ RVs X.K ⟨α, S, H1⟩ vs as ∧ After X.K X.mg (RV X.K) ⟨α, S, H1⟩ (mkR x F as S) Q (fun c d H' => W c d σ H'))) fun _ _ _ z => z⟩) fun us s1 ⟨vs, H1, I1, r, q⟩ => ⟨I1.kIn, ?_⟩) he hpl
  have hz : us.length + 1 = ps.length → ∀ (s' : Shared) (u : Value), X.K.In s'.heap → BindsTo s' fd ⟨u :: us, []⟩ (ps.zip (u :: us)) := fun hl s' u hK => by
    have b := hb s' (u :: us) hK (by rw [List.append_nil]; exact hl)
    rwa [List.append_nil] at b
  exact run_mk (us := us) (us0 := us) (kw := []) M G hF CX hk tk hm I1 r hz q
end
/-! ### a, b, c = x, y, z -/
def sPar3 (i j l : Nat) (g : Env' → M (List Val)) : SD := fun ρ S => (g ρ S).then_ ρ fun vs S' => match vs with
  | [v, u, t] => .nx (((ρ.set i (some v)).set j (some u)).set l (some t)) S'
  | _ => .st
theorem sd_par3 {X : Cx} {W : WX} {pos : Pos} {i j l : Nat} {x y z : Str} {a b c : Expr} {g : Env' → M (List Val)} {px py pz pt : Pos} {kt k2 pt2} (hc : X.calm = true) (hN : X.N.Nodup) (ha : AD X W [a, b, c] g) (hw : swappedStores [.Tuple [.Name x px, .Name y py, .Name z pz] kt pt] (.Tuple [a, b, c] k2 pt2) X.env = pure (some [x, y, z]))
    (hi : X.N[i]? = some x := by rfl) (hj : X.N[j]? = some y := by rfl) (hl : X.N[l]? = some z := by rfl) (hij : i ≠ j := by decide) (hil : i ≠ l := by decide) (hjl : j ≠ l := by decide) (hx : X.env.scope.names.lookup x = some .local := by rfl) (hy : X.env.scope.names.lookup y = some .local := by rfl) (hz : X.env.scope.names.lookup z = some .local := by rfl)
    (hs : swapsWithSole [.Tuple [.Name x px, .Name y py, .Name z pz] kt pt] (.Tuple [a, b, c] k2 pt2) pos.line X.env = pure false := by rfl) : StD X W (.Assign [.Tuple [.Name x px, .Name y py, .Name z pz] kt pt] (.Tuple [a, b, c] k2 pt2) pos) (sPar3 i j l g) :=
  PS.imp (ps_par3 hc hN hi hj hl hij hil hjl hx hy hz ha hw hs) fun D σ H ⟨α, S, ρ, R, re, q⟩ => ⟨α, S, ρ, R, re, After.imp (AfterS.split (rel := RVs X.K) q re) (fun v H' ⟨α', S', a, e1, R1, r1, re1, q1⟩ => by
    match a, r1, q1 with
    | [v1, v2, v3], .cons p1 (.cons p2 (.cons p3 .nil)), q1 => exact ⟨_, _, _, rfl, q1 α' H' _ (Ext.refl _) R1 (((re1.set p1 i).set p2 j).set p3 l)⟩
    | [], _, q1 => exact False.elim q1
    | [_], _, q1 => exact False.elim q1
    | [_, _], _, q1 => exact False.elim q1
    | _ :: _ :: _ :: _ :: _, _, q1 => exact False.elim q1) fun _ _ _ z => z⟩
end Zz
set_option maxRecDepth 100000
set_option maxHeartbeats 4000000
/-! [a] * n, (a,) * n to 10,000, x == () -/
namespace Zz
open PySem PySem.Spec PyProof.Rows L2
section
variable {X : Cx}
theorem rmul_listW (a : Int) (t : Tok) (l : Addr) (items : Array Value) (n : Nat) (sl : Array (Option Value)) :
    Meets (Builtin.«int.__rmul__» ⟨[.int a t, .ref l], []⟩) (fun _ R s => s.heap.get? l = some { cls := .type "list", dict := none, data := .seq items n, slots := sl } ∧ R (.ok (.ret Value.notImplemented)) s) :=
  .of_wp fun prog w A R s h => by obtain ⟨hp, g, d, tk, os⟩ := s; obtain ⟨hl, h⟩ := h; wp_walk; exact ⟨_, rfl, h⟩
theorem list_mulW (l : Addr) (items : Array Value) (n : Nat) (sl : Array (Option Value)) (x : Int) (u : Tok) (hc0 : ¬(!Builtin.List.listFitsIndex x) = true) (hc1 : ¬items.size * x.toNat > (2 ^ 63 - 1) / 8) (hc2 : ¬Builtin.List.listTooLong (items.size * x.toNat) = true) :
    Meets (Builtin.«list.__mul__» ⟨[.ref l, .int x u], []⟩) (fun _ R s => s.heap.get? l = some { cls := .type "list", dict := none, data := .seq items n, slots := sl } ∧ R (.ok (.ret (Value.ref s.heap.objs.size))) { s with heap := s.heap.push { cls := Value.type "list", data := Data.seq (List.foldl (fun x1 x2 => x1 ++ x2) #[] (List.replicate (if items.isEmpty = true then 0 else x.toNat) items)) }, toks := s.toks }) :=
  .of_wp fun prog w A R s h => by
    obtain ⟨hp, g, d, tk, os⟩ := s; obtain ⟨hl, h⟩ := h
    have hsz := AutoListH.joined_fits hc2
    wp_walk; refine wpAny_ite_false (decide_eq_false (Nat.not_lt.mpr hsz)) ?_; wp_walk; exact ⟨_, rfl, h⟩
theorem op_repL : OpR X (binaryOp .Mult) (fun x y H Q => ∃ l k xs, x = .ref l ∧ y = .int k ∧ SqL X.K H l xs ∧ -(2 ^ 63) ≤ k ∧ k < 2 ^ 63 ∧ xs.length * k.toNat ≤ sizeLine ∧
    ∀ p, H p = none → Q (.ref p) (upd H p (.lst (List.replicate k.toNat xs).flatten))) := by
  intro pins s σ H x y v u Q I rx ry h
  obtain ⟨l, k, xs, rfl, rfl, hH, h1, h2, hz, q⟩ := h
  cases rx
  obtain ⟨t, rfl⟩ := ry
  obtain ⟨its, r, ⟨⟨cls, dd, data, sl⟩, n, e, hc, hd, ht⟩, _⟩ := I.list hH
  simp only at hc hd ht
  subst hc hd ht
  have hl := r.length
  have hlen : its.toArray.size * k.toNat ≤ sizeLine := by rw [List.size_toArray, ← hl]; exact hz
  have hcap : ¬ its.toArray.size * k.toNat > (2 ^ 63 - 1) / 8 := by
    have : (sizeLine : Nat) ≤ (2 ^ 63 - 1) / 8 := by decide
    omega
  have hfit : ¬ (!Builtin.List.listFitsIndex k) = true := by
    rw [fitsIndex_both h1 h2]
    exact Bool.false_ne_true
  have hlong : ¬ Builtin.List.listTooLong (its.toArray.size * k.toNat) = true := by
    rw [notLongL hlen]
    exact Bool.false_ne_true
  have hnew : List.foldl (fun x1 x2 => x1 ++ x2) #[] (List.replicate (if its.toArray.isEmpty = true then 0 else k.toNat) its.toArray) = (List.replicate k.toNat its).flatten.toArray := by
    have f0 : ∀ m : Nat, List.foldl (fun x1 x2 => x1 ++ x2) #[] (List.replicate m its.toArray) = (List.replicate m its).flatten.toArray := fun m => by
      have := foldl_rep its m []
      rw [List.nil_append] at this
      exact this
    rw [f0]
    cases its with
    | nil => simp
    | cons a r' => rw [if_neg (by simp)]
  refine wpAny_binaryOp_repeat_ref (T := "list") (U := "int") (by decide) ⟨_, e, rfl⟩ (fun s' => typeIs_int s' k t) noFill_list_mul F.fills_int_mul F.slot_int_rmul repeat_list F.slot_int_index.lookup
    (call_meets F.slot_int_rmul (typeIs_int s k t) F.entry_int_rmul (F.args_int_rmul_2 _ _) (rmul_listW k t l its.toArray n sl)
      ⟨e, rfl, ⟨_, e, rfl⟩, call_meets F.slot_list_mul ⟨_, e, rfl⟩ F.entry_list_mul (F.args_list_mul_2 _ _) (list_mulW l its.toArray n sl k t hfit hcap hlong) ⟨e, ?_⟩⟩)
  rw [hnew]
  exact ⟨.ref _, _, I.lnew (t' := s.toks) (r.rep k.toNat) (by rw [PyProof.Rows.lm_len_rep_flat, Nat.mul_comm]; exact hz), rfl, q _ I.fresh⟩
def oMulL : O2 := fun a b => match a, b with
  | .list x, .int j => if 0 ≤ j ∧ j ≤ 1000000 ∧ x.length * j.toNat ≤ 16777216 then some (.list (repD j.toNat x)) else none
  | _, _ => none
theorem od_mulL : OpR X (binaryOp .Mult) (r2D X.K X.mg oMulL) := by
  refine OpR.imp (op_repL (X := X)) fun x y H Q h => ?_
  obtain ⟨w, a, b, da, db, c, rfl, R, ra, rb, ea, eb, ec, q⟩ := h
  unfold oMulL at ec
  split at ec
  · split at ec
    · cases ec
      rename_i hz
      obtain ⟨p1, xs, rfl, h1, g1⟩ := R.list ra ea
      cases R.int rb eb
      exact ⟨_, _, _, rfl, rfl, h1, by omega, by omega, by rw [sizeLine_eq, g1.length]; exact hz.2.2, fun p hp => q.lst R (g1.rep _) hp⟩
    · cases ec
  · cases ec
theorem op_repP4 : OpR X (binaryOp .Mult) (fun x y H Q => ∃ l k xs, x = .ref l ∧ y = .int k ∧ SqT X.K H l xs ∧ xs ≠ [] ∧ 2 ≤ k ∧ k ≤ 10000 ∧ xs.length ≤ 1000 ∧ kNewT (List.replicate k.toNat xs).flatten H Q) := by
  intro pn st sg Hh x y v u Qq I0 rx ry h
  obtain ⟨l, k, xs, rfl, rfl, hT, hne, h1, h2, hz, q⟩ := h
  cases rx
  obtain ⟨t, rfl⟩ := ry
  obtain ⟨its, r, ⟨⟨cls, dd, data, sl⟩, ho, hc, n, hd⟩, hs⟩ := I0.tuple hT
  simp only at hc hd
  subst hc hd
  have ln : its.length = xs.length := r.length.symm
  have ne : its ≠ [] := fun e => hne (List.eq_nil_of_length_eq_zero (by rw [← ln, e]; rfl))
  have full : its.toArray.isEmpty = false := by
    cases its with
    | nil => exact absurd rfl ne
    | cons a b => rfl
  have sz : its.toArray.size = xs.length := by rw [List.size_toArray, ln]
  have hm : ((its.toArray.size : Nat) : Int) * k ≤ 10000000 := by
    rw [sz]
    have a1 : ((xs.length : Nat) : Int) * k ≤ 1000 * k := Int.mul_le_mul_of_nonneg_right (by omega) (by omega)
    omega
  have few : k.toNat * xs.length ≤ 10000 * 1000 := Nat.mul_le_mul (by omega) hz
  have long : (List.replicate k.toNat its).flatten.length ≤ sizeLine := by
    rw [PyProof.Rows.lm_len_rep_flat, ln, sizeLine_eq]
    omega
  have c0 : (decide (k < -(2 ^ 63)) || decide (k ≥ 2 ^ 63)) = false := by
    rw [decide_eq_false (by omega), decide_eq_false (by omega)] <;> rfl
  have c1 : (its.toArray.isEmpty || k == 1) = false := by
    rw [full, Bool.false_or]
    exact beq_eq_false_iff_ne.mpr (by omega)
  have c2 : (decide (k ≤ 0) || its.toArray.isEmpty) = false := by
    rw [full, Bool.or_false]
    exact decide_eq_false (by omega)
  have c4 : Builtin.Tuple.tupleTooMany (((its.toArray.size : Nat) : Int) * k) = false := by
    unfold Builtin.Tuple.tupleTooMany
    rw [sizeLine_eq]
    exact decide_eq_false (by omega)
  have ty : st.TypeIs (.ref l) "tuple" := ⟨_, ho, rfl⟩
  refine wpAny_binaryOp_repeat_ref (T := "tuple") (U := "int") (by decide) ⟨_, ho, rfl⟩ (fun s' => typeIs_int s' k t) noFill_tuple_mul F.fills_int_mul F.slot_int_rmul repeat_tuple F.slot_int_index.lookup
    (call_meets F.slot_int_rmul (typeIs_int _ k t) F.entry_int_rmul (F.args_int_rmul_2 _ _) (int_rmul_tuple k t l its.toArray n dd sl)
      ⟨ho, rfl, ty, call_meets PySem.F.slot_tuple_mul ty F.entry_tuple_mul (F.args_tuple_mul_2 _ _) (tuple_mulW l its.toArray n dd sl k t c0 c1 c2 (by omega) c4 (by rw [size_rep, List.size_toArray]; exact long)) ⟨ho, ?_⟩⟩)
  rw [size_rep]
  exact plain_new I0 (r.rep k.toNat) (by rw [PyProof.Rows.lm_len_rep_flat, sizeLine_eq]; omega) q

def oMulT : O2 := fun a b => match a, b with
  | .tuple x, .int j => if 2 ≤ j ∧ j ≤ 10000 ∧ x.length ≤ 1000 ∧ 1 ≤ x.length then some (.tuple (repD j.toNat x)) else none
  | _, _ => none
theorem od_mulT : OpR X (binaryOp .Mult) (r2D X.K X.mg oMulT) := by
  refine OpR.imp (op_repP4 (X := X)) fun x y H Q h => ?_
  obtain ⟨w, a, b, da, db, c, rfl, R, ra, rb, ea, eb, ec, q⟩ := h
  unfold oMulT at ec
  split at ec
  · split at ec
    · cases ec
      rename_i hz
      obtain ⟨p1, xs, rfl, h1, g1, d1⟩ := R.tuple ra ea
      cases R.int rb eb
      exact ⟨_, _, _, rfl, rfl, h1, fun z => (by have z2 := g1.length; rw [z] at z2; have := hz.2.2.2; rw [← z2] at this; exact absurd this (by simp)), hz.1, hz.2.1, by rw [g1.length]; exact hz.2.2.1, q.tup R (g1.rep _)⟩
    · cases ec
  · cases ec
/-- x == () -/
theorem op_eqT0 (hu : X.A.units + 64 < cLine) : OpR X (compareOp .Eq) (fun x y H Q => ∃ a b xs, x = .ref a ∧ y = .ref b ∧ SqT X.K H a xs ∧ SqT X.K H b [] ∧ Q (.bl xs.isEmpty) H) := by
  intro pins s σ H x y v u Q I rx ry h
  obtain ⟨a, b, xs, rfl, rfl, ha, hb, q⟩ := h
  cases rx
  cases ry
  obtain ⟨is1, r1, p1, _⟩ := I.tuple ha
  obtain ⟨is2, r2, p2, _⟩ := I.tuple hb
  cases r2
  refine PySem.SeqAt.eq_tupleAt (e := fun _ => true) (show s.heap.IsTuple a is1.toArray from p1) (show s.heap.IsTuple b ([] : List Value).toArray from p2) (by omega) (fun j h1 h2 => absurd h2 (by simp)) ?_
  refine ⟨.bl xs.isEmpty, H, I, ?_, q⟩
  cases r1 with
  | nil => rfl
  | cons p q => simp; rfl
def oEqT : O2 := fun a b => match a, b with
  | .tuple x, .tuple [] => some (.bool x.isEmpty)
  | _, _ => none
theorem od_eqT (hu : X.A.units + 64 < cLine) : OpR X (compareOp .Eq) (r2D X.K X.mg oEqT) := by
  refine OpR.imp (op_eqT0 hu) fun x y H Q h => ?_
  obtain ⟨w, a, b, da, db, c, rfl, R, ra, rb, ea, eb, ec, q⟩ := h
  unfold oEqT at ec
  split at ec
  · cases ec
    obtain ⟨p1, xs, rfl, h1, g1, d1⟩ := R.tuple ra ea
    obtain ⟨p2, ys, rfl, h2, g2, d2⟩ := R.tuple rb eb
    cases g2
    refine ⟨_, _, _, rfl, rfl, h1, h2, ?_⟩
    cases g1 with
    | nil => exact q.here R (.bl _)
    | cons p q' => exact q.here R (.bl _)
  · cases ec
end
/-! a, b = x, y by way of the tuple itself -/
theorem sd_two {X : Cx} {W : WX} {pos : Pos} {i j : Nat} {x y : Str} {a b : Expr} {g : Env' → M (List Val)} {px py pt : Pos} {kt k2 pt2} (hc : X.calm = true) (hN : X.N.Nodup) (ha : AD X W [a, b] g)
    (hw : swappedStores [.Tuple [.Name x px, .Name y py] kt pt] (.Tuple [a, b] k2 pt2) X.env = pure none := by rfl)
    (hi : X.N[i]? = some x := by rfl) (hj : X.N[j]? = some y := by rfl) (hx : Loc X.env.scope x := by first | exact Or.inl rfl | exact Or.inr rfl) (hy : Loc X.env.scope y := by first | exact Or.inl rfl | exact Or.inr rfl)
    (hfx : X.fn x = true ∨ X.env.scope.names.lookup x = some .local := by first | exact .inl rfl | exact .inr rfl) (hfy : X.fn y = true ∨ X.env.scope.names.lookup y = some .local := by first | exact .inl rfl | exact .inr rfl)
    (hs : swapsWithSole [.Tuple [.Name x px, .Name y py] kt pt] (.Tuple [a, b] k2 pt2) pos.line X.env = pure false := by rfl)
    (h1 : (assignEach [.Tuple [.Name x px, .Name y py] kt pt] X.env).map (·.2) = [assign (.Tuple [.Name x px, .Name y py] kt pt) X.env] := by rfl)
    (hn : (assignEach [.Name x px, .Name y py] X.env).length = 2 := by rfl) (hst : (assignEach [.Name x px, .Name y py] X.env).findIdx? (·.1) = none := by rfl)
    (hs1 : (assignEach [.Name x px, .Name y py] X.env).map (·.2) = assign (.Name x px) X.env :: (assignEach [.Name y py] X.env).map (·.2) := by rfl)
    (hs2 : (assignEach [.Name y py] X.env).map (·.2) = assign (.Name y py) X.env :: (assignEach [] X.env).map (·.2) := by rfl) :
    StD X W (.Assign [.Tuple [.Name x px, .Name y py] kt pt] (.Tuple [a, b] k2 pt2) pos) (sPar i j g) :=
  PS.imp (ps_asg (pe_tupP ha) (pg_tup hc (pgs_cons (pg_name hN hi hx hfx) (pgs_cons (pg_name hN hj hy hfy) pgs_nil hs2) hs1) hn hst) hs hw h1) fun D σ H ⟨α, S, ρ, R, re, q⟩ => ⟨α, S, ρ, R, re, After.imp (AfterS.split (rel := RVs X.K) q re) (fun v H' ⟨α', S', a, e1, R1, r1, re1, q1⟩ => by
    match a, r1, q1 with
    | [v1, v2], .cons (a := u1) p1 (.cons (a := u2) p2 .nil), q1 =>
      refine ⟨by show 2 ≤ sizeLine; decide, fun p ob hp hd => ?_⟩
      obtain ⟨r3, x3, f3⟩ := R1.new hp (.frz ob (.tup [u1, u2]))
      exact ⟨p, [u1, u2], rfl, .inl (.inr ⟨ob, upd_same⟩), rfl, u1, [u2], rfl, u2, [], rfl, rfl, q1 α' _ _ x3 r3 (((re1.mono x3).set (p1.mono x3) i).set (p2.mono x3) j)⟩
    | [], _, q1 => exact False.elim q1
    | [_], _, q1 => exact False.elim q1
    | _ :: _ :: _ :: _, _, q1 => exact False.elim q1) fun _ _ _ z => z⟩
end Zz
set_option maxRecDepth 100000
set_option maxHeartbeats 2000000
/-! reckoning: tools of all laws -/
namespace Zz
open PySem PySem.Spec PyProof.Rows L2
theorem body_ok {np nl : Nat} {b : SD} {as : List Val} {d : D} {S : List Cell} (h : b (as.map some ++ List.replicate (nl - as.length) none) S = .rt (.d d) S) (ha : as.length = np := by rfl) : bodyFn np nl b as S = .ok (.d d) S := by
  rw [body_rt ha h, List.take_length]
theorem atI0 {A : Type} (a : A) (r : List A) : atI (a :: r) 0 = some a := at0 a r
theorem atI1 {A : Type} (a b : A) (r : List A) : atI (a :: b :: r) 1 = some b := atI_nat (j := 1) rfl
theorem eqS (x y : Str) : oEq (.str x) (.str y) = some (.bool (decide (x = y))) := by
  show some (PyData.bool (PyData.eqv (.str x) (.str y))) = _
  congr 2
theorem neS (x y : Str) : oNe (.str x) (.str y) = some (.bool (!decide (x = y))) := by
  show some (PyData.bool (!PyData.eqv (.str x) (.str y))) = _
  congr 2
theorem eqI (i j : Int) : oEq (.int i) (.int j) = some (.bool (decide (i = j))) := by
  show some (PyData.bool (PyData.eqv (.int i) (.int j))) = _
  congr 2
theorem neI (i j : Int) : oNe (.int i) (.int j) = some (.bool (!decide (i = j))) := by
  show some (PyData.bool (!PyData.eqv (.int i) (.int j))) = _
  congr 3
theorem atI2 {A : Type} (a b c : A) (r : List A) : atI (a :: b :: c :: r) 2 = some c := atI_nat (j := 2) rfl
section
variable {ρ : Env'} {S S1 S2 S3 T : List Cell} {f g : Env' → M Val} {v u : Val}
theorem pSome_at {i : Int} (h : f ρ S = .ok v S1) (hr : rd S1 v = some (.int i)) : pSome f ρ S = .ok (some i) S1 := by
  unfold pSome
  show (f ρ S).bind _ = _
  rw [h]
  show (match rd S1 v with | some (.int i) => Res.ok (some i) S1 | _ => .st) = _
  rw [hr]
theorem dSl_at {p p' : PtD} {a c : D} {lo hi : Option Int} (h : f ρ S = .ok v S1) (hp : p ρ S1 = .ok lo S2) (hp' : p' ρ S2 = .ok hi S3) (hr : rd S3 v = some a) (e : oSl a lo hi = some c) : dSl f p p' ρ S = .ok (.d c) S3 := by
  unfold dSl
  show (f ρ S).bind _ = _
  rw [h]
  show (p ρ S1).bind _ = _
  rw [hp]
  show (p' ρ S2).bind _ = _
  rw [hp']
  show (match rd S3 v with | some a => (match oSl a lo hi with | some c => Res.ok (Val.d c) S3 | none => .st) | none => .st) = _
  rw [hr]
  show (match oSl a lo hi with | some c => Res.ok (Val.d c) S3 | none => .st) = _
  rw [e]
theorem dLstC_at {g : Env' → M (List Val)} {xs : List Val} {ds : List D} (h : g ρ S = .ok xs S1) (h2 : frzs xs S1 = .ok ds S2) (hz : ds.length ≤ 16777216) : dLstC g ρ S = .ok (.c S2.length) (S2 ++ [.lst ds]) := by
  unfold dLstC
  show (g ρ S).bind _ = _
  rw [h]
  show (frzs xs S1).bind _ = _
  rw [h2]
  show (if ds.length ≤ 16777216 then newCell ds else M.st) S2 = _
  rw [if_pos hz]
  rfl
theorem dAddC_at {xs ys : List D} (h : f ρ S = .ok v S1) (h2 : g ρ S1 = .ok u S2) (hr : rd S2 v = some (.list xs)) (hr2 : rd S2 u = some (.list ys)) (hz : xs.length + ys.length ≤ 16777216) : dAddC f g ρ S = .ok (.c S2.length) (S2 ++ [.lst (xs ++ ys)]) := by
  unfold dAddC
  show (f ρ S).bind _ = _
  rw [h]
  show (g ρ S1).bind _ = _
  rw [h2]
  unfold catM
  simp only [Res.bind, hr, hr2]
  rw [if_pos hz]
  rfl
theorem dApp_at {l : Nat} {d : D} (hf : f ρ S = .ok (.c l) S1) (hi : isLst S1 (.c l) = true) (hg : g ρ S1 = .ok (.d d) S2) (hp : push l d S2 = some T) : dApp f g ρ S = .ok (.d .none) T := by
  unfold dApp
  show (f ρ S).bind _ = _
  rw [hf]
  show (if isLst S1 (.c l) = true then ((g ρ S1).bind fun y => appM (.c l) y) else .st) = _
  rw [if_pos hi, hg]
  show appM (.c l) (.d d) S2 = _
  show ((M.ret d S2).bind fun d S => match push l d S with | some T => Res.ok (Val.d .none) T | none => .st) = _
  show (match push l d S2 with | some T => Res.ok (Val.d .none) T | none => .st) = _
  rw [hp]
end
theorem cut_sub (xs : List D) (lo hi : Option Int) : (Zz.cutD xs lo hi).length ≤ xs.length ∧ ∀ x ∈ Zz.cutD xs lo hi, x ∈ xs := by
  unfold Zz.cutD
  exact ⟨by rw [List.length_take, List.length_drop]; omega, fun x hx => List.mem_of_mem_drop (List.mem_of_mem_take hx)⟩
theorem asBool_map {A : Type} (p : A → Bool) : ∀ l : List A, (l.map fun c => PyData.bool (p c)).mapM asBool = some (l.map p)
  | [] => rfl
  | a :: l => by
    rw [List.map_cons, List.mapM_cons, asBool_map p l]
    rfl
theorem oAll_map {A : Type} (p : A → Bool) (l : List A) : oAll (.list (l.map fun c => PyData.bool (p c))) = some (.bool (l.all p)) := by
  show Option.map (fun bs : List Bool => PyData.bool (bs.all id)) ((l.map fun c => PyData.bool (p c)).mapM asBool) = _
  rw [asBool_map]
  simp
theorem look_map {A B : Type} (f : A → B) (w : Str) : ∀ T : List (Str × A), (T.map fun p => (p.1, f p.2)).lookup w = (T.lookup w).map f
  | [] => rfl
  | (k, a) :: T => by
    rw [List.map_cons, List.lookup_cons, List.lookup_cons]
    cases w == k with
    | true => rfl
    | false => exact look_map f w T
theorem contains_look {A : Type} (w : Str) : ∀ T : List (Str × A), (T.map (·.1)).contains w = (T.lookup w).isSome
  | [] => rfl
  | (k, a) :: T => by
    rw [List.map_cons, List.contains_cons, List.lookup_cons]
    cases h : w == k with
    | true => rfl
    | false => rw [Bool.false_or]; exact contains_look w T
theorem itZip_at {g : Env' → M (List Val)} {ρ : Env'} {S S1 S2 : List Cell} {xs : List Val} {a b : D} {as bs : List D} (h : g ρ S = .ok xs S1) (h2 : frzs xs S1 = .ok [a, b] S2) (ea : itemsD a = some as) (eb : itemsD b = some bs) : itZip g ρ S = .ok (zipD as bs) S2 := by
  show (g ρ S).bind _ = _
  rw [h]
  show (frzs xs S1).bind _ = _
  rw [h2]
  show (match itemsD a, itemsD b with
    | some as, some bs => M.ret (zipD as bs)
    | _, _ => M.st) S2 = _
  rw [ea, eb]
  rfl
theorem zipD_str : ∀ (r : List D) (ks : List Str), zipD r (ks.map .str) = (r.zip ks).map fun p => PyData.tuple [p.1, .str p.2]
  | [], _ => rfl
  | _ :: _, [] => rfl
  | x :: r, k :: ks => by
    show _ :: zipD r (ks.map .str) = _ :: _
    rw [zipD_str r ks]; rfl
theorem mod_at (i j : Int) (h : j ≠ 0) : oMod (.int i) (.int j) = some (.int (i.fmod j)) := by show (if j ≠ 0 then _ else _) = _; rw [if_pos h]
theorem div_at (i j : Int) (h : j ≠ 0) (h2 : j.natAbs < 1073741824) : oDiv (.int i) (.int j) = some (.int (i.fdiv j)) := by show (if j ≠ 0 ∧ j.natAbs < 1073741824 then _ else _) = _; rw [if_pos ⟨h, h2⟩]
theorem add_at (i j : Int) : oAdd (.int i) (.int j) = some (.int (i + j)) := rfl
theorem mul_at (i j : Int) (h : (lowI i || lowI j) = true) : oMul (.int i) (.int j) = some (.int (i * j)) := by show (if (lowI i || lowI j) = true then _ else _) = _; rw [if_pos h]
theorem low_of {i : Int} (h1 : -(2 ^ 64) < i) (h2 : i < 2 ^ 64) : lowI i = true := by
  unfold lowI
  rw [decide_eq_true h1, decide_eq_true h2]; rfl
theorem cut_take (l : List D) (k : Nat) : Zz.cutD l none (some (k : Int)) = l.take k := by
  unfold Zz.cutD
  rw [HT.sIx_none, HT.sIx_nat, Nat.sub_zero, List.drop_zero]
  rcases Nat.le_total k l.length with h | h
  · rw [Nat.min_eq_left h]
  · rw [Nat.min_eq_right h, List.take_length, List.take_of_length_le h]
theorem cut_drop (l : List D) (k : Nat) : Zz.cutD l (some (k : Int)) none = l.drop k := by
  unfold Zz.cutD
  rw [HT.sIx_none, HT.sIx_nat]
  rcases Nat.le_total k l.length with h | h
  · rw [Nat.min_eq_left h, List.take_of_length_le (by rw [List.length_drop]; exact Nat.le_refl _)]
  · rw [Nat.min_eq_right h, List.drop_length, List.drop_eq_nil_of_le h, List.take_nil]
theorem fmod_nat (x : Int) (m : Nat) (h : 0 < m) : ∃ j : Nat, x.fmod (m : Int) = (j : Int) ∧ j < m := by
  have h0 := Int.fmod_nonneg_of_pos x (b := (m : Int)) (by omega)
  have h1 := Int.fmod_lt_of_pos x (b := (m : Int)) (by omega)
  exact ⟨(x.fmod (m : Int)).toNat, by omega, by omega⟩
theorem sFor_at {it : Env' → M (List D)} {g : Tg} {b : SD} {ρ : Env'} {S S1 : List Cell} {ds : List D} (h : it ρ S = .ok ds S1) : sFor it g b ρ S = forGo g b ds ρ S1 := by
  unfold sFor
  rw [h]
  rfl
end Zz
set_option maxRecDepth 100000
set_option maxHeartbeats 4000000
namespace K65
open PySem PySem.Spec PyProof.Rows L2 Zz
def topS (i : Nat) : Stmt := PySem.Challenge.pw_stairwright_k65_codes_looked_at.main.body.getD i (.Pass ⟨0, 0, 0, 0⟩)
def inS (i j : Nat) : Stmt := match topS i with
  | .ClassDef _ _ _ body _ _ _ _ _ _ _ => body.getD j (.Pass ⟨0, 0, 0, 0⟩)
  | s => s
abbrev s_u_law_shapes : Stmt := topS 25
abbrev N_u_law_shapes : List Str := ["rows", "word"]
theorem sc_u_law_shapes : FnScope N_u_law_shapes [] (defScope s_u_law_shapes) := ⟨rfl, rfl, rfl, by decide +kernel, rfl, by decide +kernel, by decide +kernel⟩
abbrev s_u_law_cell : Stmt := topS 24
abbrev N_u_law_cell : List Str := ["cells", "spot", "k", "base", "own", "turn"]
theorem sc_u_law_cell : FnScope N_u_law_cell ["cells", "spot"] (defScope s_u_law_cell) := ⟨rfl, rfl, rfl, by decide +kernel, rfl, by decide +kernel, by decide +kernel⟩
abbrev s_u_law_number : Stmt := topS 26
abbrev N_u_law_number : List Str := ["cells", "spot", "sign", "size", "n"]
theorem sc_u_law_number : FnScope N_u_law_number ["cells", "spot", "sign", "size"] (defScope s_u_law_number) := ⟨rfl, rfl, rfl, by decide +kernel, rfl, by decide +kernel, by decide +kernel⟩
abbrev s_u_law_code : Stmt := topS 27
abbrev N_u_law_code : List Str := ["cells", "spot", "size", "found", "k", "word", "signs", "sign"]
theorem sc_u_law_code : FnScope N_u_law_code ["cells", "spot"] (defScope s_u_law_code) := ⟨rfl, rfl, rfl, by decide +kernel, rfl, by decide +kernel, by decide +kernel⟩
abbrev s_u_law_is : Stmt := topS 28
abbrev N_u_law_is : List Str := ["item", "order", "signs", "sign", "number", "row"]
theorem sc_u_law_is : FnScope N_u_law_is ["item"] (defScope s_u_law_is) := ⟨rfl, rfl, rfl, by decide +kernel, rfl, by decide +kernel, by decide +kernel⟩
abbrev s_is_tuple_of : Stmt := topS 13
abbrev N_is_tuple_of : List Str := ["thing", "least", "most"]
theorem sc_is_tuple_of : FnScope N_is_tuple_of ["thing", "least", "most"] (defScope s_is_tuple_of) := ⟨rfl, rfl, rfl, by decide +kernel, rfl, by decide +kernel, by decide +kernel⟩
abbrev s_word_of : Stmt := topS 11
abbrev N_word_of : List Str := ["thing"]
theorem sc_word_of : FnScope N_word_of ["thing"] (defScope s_word_of) := ⟨rfl, rfl, rfl, by decide +kernel, rfl, by decide +kernel, by decide +kernel⟩
abbrev s_is_whole : Stmt := topS 10
abbrev N_is_whole : List Str := ["thing"]
theorem sc_is_whole : FnScope N_is_whole ["thing"] (defScope s_is_whole) := ⟨rfl, rfl, rfl, by decide +kernel, rfl, by decide +kernel, by decide +kernel⟩
abbrev s_u_is_part : Stmt := topS 20
abbrev N_u_is_part : List Str := ["thing", "kind", "many"]
theorem sc_u_is_part : FnScope N_u_is_part ["thing", "kind", "many"] (defScope s_u_is_part) := ⟨rfl, rfl, rfl, by decide +kernel, rfl, by decide +kernel, by decide +kernel⟩
abbrev s_is_order : Stmt := topS 19
abbrev N_is_order : List Str := ["thing", "many", "parts", "part", "kind"]
theorem sc_is_order : FnScope N_is_order ["thing", "many"] (defScope s_is_order) := ⟨rfl, rfl, rfl, by decide +kernel, rfl, by decide +kernel, by decide +kernel⟩
abbrev s_is_code : Stmt := topS 18
abbrev N_is_code : List Str := ["thing", "part"]
theorem sc_is_code : FnScope N_is_code ["thing"] (defScope s_is_code) := ⟨rfl, rfl, rfl, by decide +kernel, rfl, by decide +kernel, by decide +kernel⟩
abbrev s_Machine_init : Stmt := inS 22 0
abbrev N_Machine_init : List Str := ["self", "code"]
theorem sc_Machine_init : FnScope N_Machine_init ["self", "code"] (defScope s_Machine_init) := ⟨rfl, rfl, rfl, by decide +kernel, rfl, by decide +kernel, by decide +kernel⟩
abbrev s_u_law_right : Stmt := topS 30
abbrev N_u_law_right : List Str := ["item", "due", "kept", "caught", "error", "others"]
theorem sc_u_law_right : FnScope N_u_law_right ["item"] (defScope s_u_law_right) := ⟨rfl, rfl, rfl, by decide +kernel, rfl, by decide +kernel, by decide +kernel⟩
abbrev s_u_law_bent : Stmt := topS 29
abbrev N_u_law_bent : List Str := ["cells", "spot", "orders", "n", "at", "way", "order", "m", "odd", "place"]
theorem sc_u_law_bent : FnScope N_u_law_bent ["cells", "spot", "orders"] (defScope s_u_law_bent) := ⟨rfl, rfl, rfl, by decide +kernel, rfl, by decide +kernel, by decide +kernel⟩
abbrev s_law : Stmt := topS 31
abbrev N_law : List Str := ["script", "spot", "turn", "orders", "item", "odd", "wide"]
theorem sc_law : FnScope N_law ["script"] (defScope s_law) := ⟨rfl, rfl, rfl, by decide +kernel, rfl, by decide +kernel, by decide +kernel⟩
def ex_0 : Str → Option Bool := fun y => if y = "BadCode" then some true else none
def ixs_0 : Str → Option Bool := fun y => if y = "BadCode" then some false else none
def ix_BadCode : Str → Option Bool := fun y => if y = "BadCode" then some true else none
def ix_ValueError : Str → Option Bool := fun y => if y = "BadCode" then some true else none
def ks_PARTS : List Str := ["set", "copy", "add", "sub", "mul", "less", "same", "jump", "none", "mark", "stop"]
def tbl_PARTS : List (Str × Val) := [("set", .d (.tuple [(.str "box"), (.str "number")])), ("copy", .d (.tuple [(.str "box"), (.str "box")])), ("add", .d (.tuple [(.str "box"), (.str "box"), (.str "box")])), ("sub", .d (.tuple [(.str "box"), (.str "box"), (.str "box")])), ("mul", .d (.tuple [(.str "box"), (.str "box"), (.str "box")])), ("less", .d (.tuple [(.str "box"), (.str "box"), (.str "box")])), ("same", .d (.tuple [(.str "box"), (.str "box"), (.str "box")])), ("jump", .d (.tuple [(.str "place")])), ("none", .d (.tuple [(.str "box"), (.str "place")])), ("mark", .d (.tuple [(.str "count")])), ("stop", .d (.tuple []))]
/-- what the top has written -/
structure Fx (w : World) (K : PySem.W.Frag) (mg : Str → Option Value) where
  A_StairError : Addr
  g_StairError : mg "StairError" = some (.ref A_StairError)
  A_BadGoal : Addr
  g_BadGoal : mg "BadGoal" = some (.ref A_BadGoal)
  A_BadRun : Addr
  g_BadRun : mg "BadRun" = some (.ref A_BadRun)
  A_BadCode : Addr
  g_BadCode : mg "BadCode" = some (.ref A_BadCode)
  A_NotMade : Addr
  g_NotMade : mg "NotMade" = some (.ref A_NotMade)
  A_GreatError : Addr
  g_GreatError : mg "GreatError" = some (.ref A_GreatError)
  A_MissError : Addr
  g_MissError : mg "MissError" = some (.ref A_MissError)
  A_Machine : Addr
  g_Machine : mg "Machine" = some (.ref A_Machine)
  x_BadCode : PySem.W.excIn K A_BadCode [.type "ValueError", .type "Exception", .type "BaseException", .type "object"] "ValueError.__new__" = true
  k_BadCode : PySem.W.keepIn K (.ref A_BadCode) = true
  b_BadCode : PySem.W.subIn K (.ref A_BadCode) (.type "BaseException") = some true
  t_BadCode : PySem.W.typeIn K (.ref A_BadCode) = some (.type "type")
  ex_0 : ∀ (y : Str) (b : Bool), K65.ex_0 y = some b → ∀ C, mg y = some (.ref C) → PySem.W.exmAny K (.ref C) [.ref A_StairError, .ref A_GreatError, .ref A_MissError] = some b
  ixs_0 : ∀ (y : Str) (b : Bool), K65.ixs_0 y = some b → ∀ C, mg y = some (.ref C) → ExcC K C ∧ PySem.W.kitAny K (.ref C) [.ref A_BadGoal, .ref A_BadRun, .ref A_NotMade, .ref A_GreatError, .ref A_MissError] = some b
  ix_BadCode : ∀ (y : Str) (b : Bool), K65.ix_BadCode y = some b → ∀ C, mg y = some (.ref C) → ExcC K C ∧ PySem.W.kitOne K (.ref C) (.ref A_BadCode) = some b
  ix_ValueError : ∀ (y : Str) (b : Bool), K65.ix_ValueError y = some b → ∀ C, mg y = some (.ref C) → ExcC K C ∧ PySem.W.kitOne K (.ref C) (.type "ValueError") = some b
  a_u_law_shapes : Addr
  d_u_law_shapes : FuncData
  F_u_law_shapes : Fun K "_law_shapes" "_law_shapes" s_u_law_shapes a_u_law_shapes d_u_law_shapes
  g_u_law_shapes : mg "_law_shapes" = some (.ref a_u_law_shapes)
  a_u_law_cell : Addr
  d_u_law_cell : FuncData
  F_u_law_cell : Fun K "_law_cell" "_law_cell" s_u_law_cell a_u_law_cell d_u_law_cell
  g_u_law_cell : mg "_law_cell" = some (.ref a_u_law_cell)
  a_u_law_number : Addr
  d_u_law_number : FuncData
  F_u_law_number : Fun K "_law_number" "_law_number" s_u_law_number a_u_law_number d_u_law_number
  g_u_law_number : mg "_law_number" = some (.ref a_u_law_number)
  a_u_law_code : Addr
  d_u_law_code : FuncData
  F_u_law_code : Fun K "_law_code" "_law_code" s_u_law_code a_u_law_code d_u_law_code
  g_u_law_code : mg "_law_code" = some (.ref a_u_law_code)
  a_u_law_is : Addr
  d_u_law_is : FuncData
  F_u_law_is : Fun K "_law_is" "_law_is" s_u_law_is a_u_law_is d_u_law_is
  g_u_law_is : mg "_law_is" = some (.ref a_u_law_is)
  a_is_tuple_of : Addr
  d_is_tuple_of : FuncData
  F_is_tuple_of : Fun K "is_tuple_of" "is_tuple_of" s_is_tuple_of a_is_tuple_of d_is_tuple_of
  g_is_tuple_of : mg "is_tuple_of" = some (.ref a_is_tuple_of)
  a_word_of : Addr
  d_word_of : FuncData
  F_word_of : Fun K "word_of" "word_of" s_word_of a_word_of d_word_of
  g_word_of : mg "word_of" = some (.ref a_word_of)
  a_is_whole : Addr
  d_is_whole : FuncData
  F_is_whole : Fun K "is_whole" "is_whole" s_is_whole a_is_whole d_is_whole
  g_is_whole : mg "is_whole" = some (.ref a_is_whole)
  a_u_is_part : Addr
  d_u_is_part : FuncData
  F_u_is_part : Fun K "_is_part" "_is_part" s_u_is_part a_u_is_part d_u_is_part
  g_u_is_part : mg "_is_part" = some (.ref a_u_is_part)
  a_is_order : Addr
  d_is_order : FuncData
  F_is_order : Fun K "is_order" "is_order" s_is_order a_is_order d_is_order
  g_is_order : mg "is_order" = some (.ref a_is_order)
  a_is_code : Addr
  d_is_code : FuncData
  F_is_code : Fun K "is_code" "is_code" s_is_code a_is_code d_is_code
  g_is_code : mg "is_code" = some (.ref a_is_code)
  a_Machine_init : Addr
  d_Machine_init : FuncData
  F_Machine_init : Fun K "__init__" "Machine.__init__" s_Machine_init a_Machine_init d_Machine_init
  a_u_law_right : Addr
  d_u_law_right : FuncData
  F_u_law_right : Fun K "_law_right" "_law_right" s_u_law_right a_u_law_right d_u_law_right
  g_u_law_right : mg "_law_right" = some (.ref a_u_law_right)
  a_u_law_bent : Addr
  d_u_law_bent : FuncData
  F_u_law_bent : Fun K "_law_bent" "_law_bent" s_u_law_bent a_u_law_bent d_u_law_bent
  g_u_law_bent : mg "_law_bent" = some (.ref a_u_law_bent)
  M_Machine : L2.Mk K A_Machine a_Machine_init
  at_Machine_u_code : ∀ C, mg "Machine" = some (.ref C) → Cls K C ∧ NoAttr K C "_code"
  at_Machine_u_numbers : ∀ C, mg "Machine" = some (.ref C) → Cls K C ∧ NoAttr K C "_numbers"
  at_Machine_u_place : ∀ C, mg "Machine" = some (.ref C) → Cls K C ∧ NoAttr K C "_place"
  at_Machine_u_many_done : ∀ C, mg "Machine" = some (.ref C) → Cls K C ∧ NoAttr K C "_many_done"
  at_Machine_u_is_stopped : ∀ C, mg "Machine" = some (.ref C) → Cls K C ∧ NoAttr K C "_is_stopped"
  A_PARTS : Addr
  m_PARTS : mg "PARTS" = some (.ref A_PARTS)
  t_PARTS : TabOk K w A_PARTS K65.ks_PARTS
  h_PARTS : TabHas K A_PARTS K65.tbl_PARTS
  a_law : Addr
  d_law : FuncData
  F_law : Fun K "law" "law" s_law a_law d_law
  n_ValueError : mg "ValueError" = none
  n_all : mg "all" = none
  n_bool : mg "bool" = none
  n_int : mg "int" = none
  n_isinstance : mg "isinstance" = none
  n_len : mg "len" = none
  n_list : mg "list" = none
  n_min : mg "min" = none
  n_range : mg "range" = none
  n_repr : mg "repr" = none
  n_str : mg "str" = none
  n_tuple : mg "tuple" = none
  n_zip : mg "zip" = none
  v_MOST_BOXES : Value
  c_MOST_BOXES : mg "MOST_BOXES" = some v_MOST_BOXES
  r_MOST_BOXES : RelV (.int 1000) v_MOST_BOXES
  v_MOST_ORDERS : Value
  c_MOST_ORDERS : mg "MOST_ORDERS" = some v_MOST_ORDERS
  r_MOST_ORDERS : RelV (.int 5000) v_MOST_ORDERS
/-! ### _law_shapes -/
def body_u_law_shapes : SD := (sSeq (sSet 0 (dLst (dCons (dTup (dCons (dC (.str "set")) (dCons (dC (.str "bn")) dNil))) (dCons (dTup (dCons (dC (.str "copy")) (dCons (dC (.str "bb")) dNil))) (dCons (dTup (dCons (dC (.str "jump")) (dCons (dC (.str "p")) dNil))) (dCons (dTup (dCons (dC (.str "none")) (dCons (dC (.str "bp")) dNil))) (dCons (dTup (dCons (dC (.str "mark")) (dCons (dC (.str "k")) dNil))) (dCons (dTup (dCons (dC (.str "stop")) (dCons (dC (.str "")) dNil))) dNil)))))))) (sRet (dBin oAdd (dVar 0) (dLc (itAny (dTup (dCons (dC (.str "add")) (dCons (dC (.str "sub")) (dCons (dC (.str "mul")) (dCons (dC (.str "less")) (dCons (dC (.str "same")) dNil))))))) (toName 1) (fun l => kTest (fun _ => M.ret true) (kPush l (dTup (dCons (dVar 1) (dCons (dC (.str "bbb")) dNil))))) [1]))))
def fn_u_law_shapes : Fn := bodyFn ([] : List Str).length N_u_law_shapes.length body_u_law_shapes
theorem ar_u_law_shapes : Arity ([] : List Str).length fn_u_law_shapes := bodyFn_arity _ _ _
theorem bi_u_law_shapes {w : World} {K : PySem.W.Frag} {mg : Str → Option Value} (T : Fx w K mg) : Binds K T.d_u_law_shapes [] [] := T.F_u_law_shapes.binds (ps := []) fun _ _ _ _ _ _ us hl => match us, hl with | [], _ => rfl
theorem ok_u_law_shapes {P : Program} {w : World} {K : PySem.W.Frag} {mg : Str → Option Value} {base : Heap} (T : Fx w K mg) : FnG P w K mg base 1 T.a_u_law_shapes T.d_u_law_shapes [] fn_u_law_shapes :=
  fn_body (b := body_u_law_shapes) (k := 0) T.F_u_law_shapes sc_u_law_shapes fun cdv A outer s H E C tk pass => (bd_cons (sd_set (i := 0) C.hN (ed_lst (ad_cons (ed_tup (ad_cons ed_str (ad_cons ed_str ad_nil))) (ad_cons (ed_tup (ad_cons ed_str (ad_cons ed_str ad_nil))) (ad_cons (ed_tup (ad_cons ed_str (ad_cons ed_str ad_nil))) (ad_cons (ed_tup (ad_cons ed_str (ad_cons ed_str ad_nil))) (ad_cons (ed_tup (ad_cons ed_str (ad_cons ed_str ad_nil))) (ad_cons (ed_tup (ad_cons ed_str (ad_cons ed_str ad_nil))) ad_nil)))))))) (bd_one (sd_ret (ed_op od_add (ed_var 0) (ed_lc C (id_any (ed_tup (ad_cons ed_str (ad_cons ed_str (ad_cons ed_str (ad_cons ed_str (ad_cons ed_str ad_nil))))))) (blkOk_by (N := N_u_law_shapes) (sc := defScope s_u_law_shapes) (own := [("word", 1)]) (by decide +kernel)) (by decide) (fun _ _ _ _ _ => (gd_name (i := 1) C.blk.hN)) (fun _ _ _ _ _ => td_nil) (fun _ _ _ _ _ => (ed_tup (ad_cons (ed_var 1) (ad_cons ed_str ad_nil)))))))))
/-! ### _law_cell -/
def body_u_law_cell : SD := (sSeq (sPut (dBin oAdd (dBin oIx (dVar 1) (dC (.int 0))) (dC (.int 1))) (dVar 1) (dC (.int 0))) (sSeq (sSet 2 (dBin oIx (dVar 1) (dC (.int 0)))) (sSeq (sSet 3 (dBin oAdd (dBin oMul (dBin oMul (dC (.int 31)) (dVar 2)) (dVar 2)) (dBin oMul (dC (.int 7919)) (dVar 2)))) (sSeq (sIf (tAndD (toB (dBin oGt (dFn1 oLen (dVar 0)) (dC (.int 0)))) (tAndD (toB (dBin oGe (dBin oIx (dVar 0) (dBin oMod (dVar 2) (dFn1 oLen (dVar 0)))) (dBin oPow (dC (.int 10)) (dC (.int 18))))) (toB (dBin oLt (dBin oDiv (dVar 2) (dFn1 oLen (dVar 0))) (dC (.int 60)))))) (sSeq (sSet 4 (dBin oIx (dVar 0) (dBin oMod (dVar 2) (dFn1 oLen (dVar 0))))) (sSeq (sFor (itRng (dBin oDiv (dVar 2) (dFn1 oLen (dVar 0)))) (toName 5) (sSet 4 (dBin oDiv (dVar 4) (dC (.int 306783379))))) (sIf (toB (dBin oGt (dVar 4) (dC (.int 0)))) (sRet (dBin oMod (dVar 4) (dC (.int 306783379)))) sNil))) sNil) (sSeq (sIf (toB (dBin oGt (dFn1 oLen (dVar 0)) (dC (.int 0)))) (sSet 3 (dBin oAdd (dVar 3) (dBin oMul (dBin oMod (dBin oIx (dVar 0) (dBin oMod (dVar 2) (dFn1 oLen (dVar 0)))) (dC (.int 2147483629))) (dBin oAdd (dC (.int 1)) (dBin oDiv (dVar 2) (dFn1 oLen (dVar 0))))))) sNil) (sRet (dBin oDiv (dBin oMod (dBin oPow (dBin oMod (dVar 3) (dC (.int 2147483647))) (dC (.int 5))) (dC (.int 2147483647))) (dC (.int 7)))))))))
def fn_u_law_cell : Fn := bodyFn (["cells", "spot"] : List Str).length N_u_law_cell.length body_u_law_cell
theorem ar_u_law_cell : Arity (["cells", "spot"] : List Str).length fn_u_law_cell := bodyFn_arity _ _ _
theorem bi_u_law_cell {w : World} {K : PySem.W.Frag} {mg : Str → Option Value} (T : Fx w K mg) : Binds K T.d_u_law_cell ["cells", "spot"] [] := T.F_u_law_cell.binds (ps := ["cells", "spot"]) fun _ _ _ _ _ _ us hl => match us, hl with | [_, _], _ => rfl
theorem ok_u_law_cell {P : Program} {w : World} {K : PySem.W.Frag} {mg : Str → Option Value} {base : Heap} (T : Fx w K mg) : FnG P w K mg base 1 T.a_u_law_cell T.d_u_law_cell ["cells", "spot"] fn_u_law_cell :=
  fn_body (b := body_u_law_cell) (k := 0) T.F_u_law_cell sc_u_law_cell fun cdv A outer s H E C tk pass => (bd_cons (sd_put (ed_op od_add (ed_ix C (ed_var 1) ed_int) ed_int) (ed_var 1) ed_int) (bd_cons (sd_set (i := 2) C.hN (ed_ix C (ed_var 1) ed_int)) (bd_cons (sd_set (i := 3) C.hN (ed_op od_add (ed_op od_mul (ed_op od_mul ed_int (ed_var 2)) (ed_var 2)) (ed_op od_mul ed_int (ed_var 2)))) (bd_cons (sd_if (td_w (wd_and (td_cmp od_gt (ed_fn1 cd_len T.n_len (by decide +kernel) (ed_var 0)) ed_int) (wd_and (td_cmp od_ge (ed_ix C (ed_var 0) (ed_op od_mod (ed_var 2) (ed_fn1 cd_len T.n_len (by decide +kernel) (ed_var 0)))) (ed_op od_pow ed_int ed_int)) (wd_and1 (td_cmp od_lt (ed_op od_div (ed_var 2) (ed_fn1 cd_len T.n_len (by decide +kernel) (ed_var 0))) ed_int))))) (bd_cons (sd_set (i := 4) C.hN (ed_ix C (ed_var 0) (ed_op od_mod (ed_var 2) (ed_fn1 cd_len T.n_len (by decide +kernel) (ed_var 0))))) (bd_cons (sd_for C pass (id_rng T.n_range (ed_op od_div (ed_var 2) (ed_fn1 cd_len T.n_len (by decide +kernel) (ed_var 0)))) (gd_name (i := 5) C.hN) (bd_one (sd_set (i := 4) C.hN (ed_op od_div (ed_var 4) ed_int)))) (bd_one (sd_if (td_cmp od_gt (ed_var 4) ed_int) (bd_one (sd_ret (ed_op od_mod (ed_var 4) ed_int))) bd_nil)))) bd_nil) (bd_cons (sd_if (td_cmp od_gt (ed_fn1 cd_len T.n_len (by decide +kernel) (ed_var 0)) ed_int) (bd_one (sd_set (i := 3) C.hN (ed_op od_add (ed_var 3) (ed_op od_mul (ed_op od_mod (ed_ix C (ed_var 0) (ed_op od_mod (ed_var 2) (ed_fn1 cd_len T.n_len (by decide +kernel) (ed_var 0)))) ed_int) (ed_op od_add ed_int (ed_op od_div (ed_var 2) (ed_fn1 cd_len T.n_len (by decide +kernel) (ed_var 0)))))))) bd_nil) (bd_one (sd_ret (ed_op od_div (ed_op od_mod (ed_op od_pow (ed_op od_mod (ed_var 3) ed_int) ed_int) ed_int) ed_int))))))))
/-! ### _law_number -/
def body_u_law_number : SD := (sSeq (sSet 4 (dCall fn_u_law_cell (dCons (dVar 0) (dCons (dVar 1) dNil)))) (sSeq (sIf (toB (dBin oEq (dVar 2) (dC (.str "b")))) (sRet (dBin oIx (dLst (dCons (dC (.int 0)) (dCons (dC (.int 999)) (dCons (dBin oMod (dBin oDiv (dVar 4) (dC (.int 4))) (dC (.int 1000))) (dCons (dBin oMod (dBin oDiv (dVar 4) (dC (.int 4))) (dC (.int 9))) dNil))))) (dBin oMod (dVar 4) (dC (.int 4))))) sNil) (sSeq (sIf (toB (dBin oEq (dVar 2) (dC (.str "n")))) (sRet (dBin oIx (dLst (dCons (dC (.int 0)) (dCons (dFn1 oNeg (dC (.int 1))) (dCons (dBin oPow (dC (.int 10)) (dC (.int 60))) (dCons (dBin oSub (dC (.int 0)) (dVar 4)) (dCons (dBin oMod (dVar 4) (dC (.int 100))) dNil)))))) (dBin oMod (dBin oDiv (dVar 4) (dC (.int 7))) (dC (.int 5))))) sNil) (sRet (dIf (toB (dBin oEq (dVar 2) (dC (.str "p")))) (dBin oMod (dVar 4) (dVar 3)) (dBin oIx (dLst (dCons (dC (.int 0)) (dCons (dBin oMod (dVar 4) (dC (.int 7))) (dCons (dBin oPow (dC (.int 10)) (dC (.int 9))) dNil)))) (dBin oMod (dVar 4) (dC (.int 3)))))))))
def fn_u_law_number : Fn := bodyFn (["cells", "spot", "sign", "size"] : List Str).length N_u_law_number.length body_u_law_number
theorem ar_u_law_number : Arity (["cells", "spot", "sign", "size"] : List Str).length fn_u_law_number := bodyFn_arity _ _ _
theorem bi_u_law_number {w : World} {K : PySem.W.Frag} {mg : Str → Option Value} (T : Fx w K mg) : Binds K T.d_u_law_number ["cells", "spot", "sign", "size"] [] := T.F_u_law_number.binds (ps := ["cells", "spot", "sign", "size"]) fun _ _ _ _ _ _ us hl => match us, hl with | [_, _, _, _], _ => rfl
theorem ok_u_law_number {P : Program} {w : World} {K : PySem.W.Frag} {mg : Str → Option Value} {base : Heap} (T : Fx w K mg) : FnG P w K mg base 2 T.a_u_law_number T.d_u_law_number ["cells", "spot", "sign", "size"] fn_u_law_number :=
  fn_body (b := body_u_law_number) (k := 1) T.F_u_law_number sc_u_law_number fun cdv A outer s H E C tk pass => (bd_cons (sd_set (i := 4) C.hN (ed_call (ok_u_law_cell T) ar_u_law_cell C (by decide) tk T.g_u_law_cell T.F_u_law_cell.kp (bi_u_law_cell T) (ad_cons (ed_var 0) (ad_cons (ed_var 1) ad_nil)))) (bd_cons (sd_if (td_cmp (od_eq C.u64) (ed_var 2) ed_str) (bd_one (sd_ret (ed_ix C (ed_lst (ad_cons ed_int (ad_cons ed_int (ad_cons (ed_op od_mod (ed_op od_div (ed_var 4) ed_int) ed_int) (ad_cons (ed_op od_mod (ed_op od_div (ed_var 4) ed_int) ed_int) ad_nil))))) (ed_op od_mod (ed_var 4) ed_int)))) bd_nil) (bd_cons (sd_if (td_cmp (od_eq C.u64) (ed_var 2) ed_str) (bd_one (sd_ret (ed_ix C (ed_lst (ad_cons ed_int (ad_cons (ed_neg ed_int) (ad_cons (ed_op od_pow ed_int ed_int) (ad_cons (ed_op od_sub ed_int (ed_var 4)) (ad_cons (ed_op od_mod (ed_var 4) ed_int) ad_nil)))))) (ed_op od_mod (ed_op od_div (ed_var 4) ed_int) ed_int)))) bd_nil) (bd_one (sd_ret (ed_if (td_cmp (od_eq C.u64) (ed_var 2) ed_str) (ed_op od_mod (ed_var 4) (ed_var 3)) (ed_ix C (ed_lst (ad_cons ed_int (ad_cons (ed_op od_mod (ed_var 4) ed_int) (ad_cons (ed_op od_pow ed_int ed_int) ad_nil)))) (ed_op od_mod (ed_var 4) ed_int))))))))
/-! ### _law_code -/
def body_u_law_code : SD := (sSeq (sPar 2 3 (dCons (dBin oAdd (dC (.int 1)) (dBin oMod (dCall fn_u_law_cell (dCons (dVar 0) (dCons (dVar 1) dNil))) (dC (.int 30)))) (dCons (dLstC dNil) dNil))) (sSeq (sFor (itRng (dVar 2)) (toName 4) (sSeq (sAsg (toTup (toCons (toName 5) (toCons (toName 6) toNil))) (dBin oIx (dCall fn_u_law_shapes fun _ => M.ret []) (dBin oMod (dCall fn_u_law_cell (dCons (dVar 0) (dCons (dVar 1) dNil))) (dC (.int 11))))) (sExpr (dApp (dVar 3) (dBin oAdd (dTup (dCons (dVar 5) dNil)) (dFn1 oTuple (dLc (itAny (dVar 6)) (toName 7) (fun l => kTest (fun _ => M.ret true) (kPush l (dCall fn_u_law_number (dCons (dVar 0) (dCons (dVar 1) (dCons (dVar 7) (dCons (dVar 2) dNil))))))) [7]))))))) (sRet (dFn1 oTuple (dVar 3)))))
def fn_u_law_code : Fn := bodyFn (["cells", "spot"] : List Str).length N_u_law_code.length body_u_law_code
theorem ar_u_law_code : Arity (["cells", "spot"] : List Str).length fn_u_law_code := bodyFn_arity _ _ _
theorem bi_u_law_code {w : World} {K : PySem.W.Frag} {mg : Str → Option Value} (T : Fx w K mg) : Binds K T.d_u_law_code ["cells", "spot"] [] := T.F_u_law_code.binds (ps := ["cells", "spot"]) fun _ _ _ _ _ _ us hl => match us, hl with | [_, _], _ => rfl
theorem ok_u_law_code {P : Program} {w : World} {K : PySem.W.Frag} {mg : Str → Option Value} {base : Heap} (T : Fx w K mg) : FnG P w K mg base 3 T.a_u_law_code T.d_u_law_code ["cells", "spot"] fn_u_law_code :=
  fn_body (b := body_u_law_code) (k := 2) T.F_u_law_code sc_u_law_code fun cdv A outer s H E C tk pass => (bd_cons (sd_two (i := 2) (j := 3) C.hc C.hN (ad_cons (ed_op od_add ed_int (ed_op od_mod (ed_call (ok_u_law_cell T) ar_u_law_cell C (by decide) tk T.g_u_law_cell T.F_u_law_cell.kp (bi_u_law_cell T) (ad_cons (ed_var 0) (ad_cons (ed_var 1) ad_nil))) ed_int)) (ad_cons (ed_lstC ad_nil) ad_nil))) (bd_cons (sd_for C pass (id_rng T.n_range (ed_var 2)) (gd_name (i := 4) C.hN) (bd_cons (sd_asg (ed_ix C (ed_call0 (ok_u_law_shapes T) ar_u_law_shapes C (by decide) tk T.g_u_law_shapes T.F_u_law_shapes.kp (bi_u_law_shapes T)) (ed_op od_mod (ed_call (ok_u_law_cell T) ar_u_law_cell C (by decide) tk T.g_u_law_cell T.F_u_law_cell.kp (bi_u_law_cell T) (ad_cons (ed_var 0) (ad_cons (ed_var 1) ad_nil))) ed_int)) (gd_tup C.hc (gs_cons (gd_name (i := 5) C.hN) (gs_cons (gd_name (i := 6) C.hN) gs_nil)) (arCons (arCons arNil)))) (bd_one (sd_expr (ed_append (ed_var 3) (ed_op od_add (ed_tup (ad_cons (ed_var 5) ad_nil)) (ed_ty1 cd_tuple T.n_tuple (by decide +kernel) (ed_lc C (id_any (ed_var 6)) (blkOk_by (N := N_u_law_code) (sc := defScope s_u_law_code) (own := [("sign", 7)]) (by decide +kernel)) (by decide) (fun _ _ _ _ _ => (gd_name (i := 7) C.blk.hN)) (fun _ _ _ _ _ => td_nil) (fun _ _ _ _ _ => (ed_call (ok_u_law_number T) ar_u_law_number C.blk (by decide) takes0 T.g_u_law_number T.F_u_law_number.kp (bi_u_law_number T) (ad_cons (ed_var 0) (ad_cons (ed_var 1) (ad_cons (ed_var 7) (ad_cons (ed_var 2) ad_nil)))))))))))))) (bd_one (sd_ret (ed_ty1 cd_tuple T.n_tuple (by decide +kernel) (ed_var 3))))))
/-! ### _law_is -/
def body_u_law_is : SD := (sSeq (sIf (tOrD (tNotD (toB (dFn1 (oIsB "tuple") (dVar 0)))) (tNotD (toB (dChain oLt oLt (dC (.int 0)) (dFn1 oLen (dVar 0)) (dC (.int 5001)))))) (sRet (dC (.bool false))) sNil) (sSeq (sFor (itAny (dVar 0)) (toName 1) (sSeq (sIf (tOrD (tNotD (toB (dFn1 (oIsB "tuple") (dVar 1)))) (tOrD (toB (dBin oEqT (dVar 1) (dTup dNil))) (tNotD (toB (dFn1 (oIsB "str") (dBin oIx (dVar 1) (dC (.int 0)))))))) (sRet (dC (.bool false))) sNil) (sSeq (sSet 2 (dLc (itAny (dCall fn_u_law_shapes fun _ => M.ret [])) (toName 5) (fun l => kTest (toB (dBin oEq (dBin oIx (dVar 5) (dC (.int 0))) (dBin oIx (dVar 1) (dC (.int 0))))) (kPush l (dBin oIx (dVar 5) (dC (.int 1))))) [5])) (sSeq (sIf (tOrD (toB (dBin oEq (dVar 2) (dLst dNil))) (toB (dBin oNe (dBin oAdd (dFn1 oLen (dBin oIx (dVar 2) (dC (.int 0)))) (dC (.int 1))) (dFn1 oLen (dVar 1))))) (sRet (dC (.bool false))) sNil) (sFor (itZip (dCons (dBin oIx (dVar 2) (dC (.int 0))) (dCons (dSl (dVar 1) (pSome (dC (.int 1))) pNone) dNil))) (toTup (toCons (toName 3) (toCons (toName 4) toNil))) (sSeq (sIf (tOrD (tNotD (toB (dFn1 (oIsB "int") (dVar 4)))) (tOrD (toB (dFn1 (oIsB "bool") (dVar 4))) (tAndD (toB (dBin oNe (dVar 3) (dC (.str "n")))) (toB (dBin oLt (dVar 4) (dC (.int 0))))))) (sRet (dC (.bool false))) sNil) (sIf (tOrD (tAndD (toB (dBin oEq (dVar 3) (dC (.str "b")))) (toB (dBin oGt (dVar 4) (dC (.int 999))))) (tAndD (toB (dBin oEq (dVar 3) (dC (.str "p")))) (toB (dBin oGe (dVar 4) (dFn1 oLen (dVar 0)))))) (sRet (dC (.bool false))) sNil))))))) (sRet (dC (.bool true)))))
def fn_u_law_is : Fn := bodyFn (["item"] : List Str).length N_u_law_is.length body_u_law_is
theorem ar_u_law_is : Arity (["item"] : List Str).length fn_u_law_is := bodyFn_arity _ _ _
theorem bi_u_law_is {w : World} {K : PySem.W.Frag} {mg : Str → Option Value} (T : Fx w K mg) : Binds K T.d_u_law_is ["item"] [] := T.F_u_law_is.binds (ps := ["item"]) fun _ _ _ _ _ _ us hl => match us, hl with | [_], _ => rfl
theorem ok_u_law_is {P : Program} {w : World} {K : PySem.W.Frag} {mg : Str → Option Value} {base : Heap} (T : Fx w K mg) : FnG P w K mg base 2 T.a_u_law_is T.d_u_law_is ["item"] fn_u_law_is :=
  fn_body (b := body_u_law_is) (k := 1) T.F_u_law_is sc_u_law_is fun cdv A outer s H E C tk pass => (bd_cons (sd_if (td_w (wd_or (td_not (td_val (ed_isB (T := "tuple") (by decide) T.n_isinstance T.n_tuple (by decide +kernel) (ed_var 0) rfl))) (wd_or1 (td_not (td_chain od_lt od_lt ed_int (ed_fn1 cd_len T.n_len (by decide +kernel) (ed_var 0)) ed_int))))) (bd_one (sd_ret ed_bl)) bd_nil) (bd_cons (sd_for C pass (id_any (ed_var 0)) (gd_name (i := 1) C.hN) (bd_cons (sd_if (td_w (wd_or (td_not (td_val (ed_isB (T := "tuple") (by decide) T.n_isinstance T.n_tuple (by decide +kernel) (ed_var 1) rfl))) (wd_or (td_cmp (od_eqT C.u64) (ed_var 1) (ed_tup ad_nil)) (wd_or1 (td_not (td_val (ed_isB (T := "str") (by decide) T.n_isinstance T.n_str (by decide +kernel) (ed_ix C (ed_var 1) ed_int) rfl))))))) (bd_one (sd_ret ed_bl)) bd_nil) (bd_cons (sd_setLc (i := 2) C (id_any (ed_call0 (ok_u_law_shapes T) ar_u_law_shapes C (by decide) tk T.g_u_law_shapes T.F_u_law_shapes.kp (bi_u_law_shapes T))) (blkOk_by (N := N_u_law_is) (sc := defScope s_u_law_is) (own := [("row", 5)]) (by decide +kernel)) (by decide) (fun _ _ _ _ _ => (gd_name (i := 5) C.blk.hN)) (fun _ _ _ _ _ => (td_one (td_cmp (od_eq C.blk.u64) (ed_ix C.blk (ed_var 5) ed_int) (ed_ix C.blk (ed_var 1) ed_int)))) (fun _ _ _ _ _ => (ed_ix C.blk (ed_var 5) ed_int)) (hsw := sw_true rfl rfl rfl (by decide +kernel))) (bd_cons (sd_if (td_w (wd_or (td_cmp (od_eq C.u64) (ed_var 2) (ed_lst ad_nil)) (wd_or1 (td_cmp (od_ne C.u64) (ed_op od_add (ed_fn1 cd_len T.n_len (by decide +kernel) (ed_ix C (ed_var 2) ed_int)) ed_int) (ed_fn1 cd_len T.n_len (by decide +kernel) (ed_var 1)))))) (bd_one (sd_ret ed_bl)) bd_nil) (bd_one (sd_for C pass (id_zip T.n_zip (ad_cons (ed_ix C (ed_var 2) ed_int) (ad_cons (ed_sl (ed_var 1) (pd_some ed_int) pd_none) ad_nil))) (gd_tup C.hc (gs_cons (gd_name (i := 3) C.hN) (gs_cons (gd_name (i := 4) C.hN) gs_nil)) (arCons (arCons arNil))) (bd_cons (sd_if (td_w (wd_or (td_not (td_val (ed_isB (T := "int") (by decide) T.n_isinstance T.n_int (by decide +kernel) (ed_var 4) rfl))) (wd_or (td_val (ed_isB (T := "bool") (by decide) T.n_isinstance T.n_bool (by decide +kernel) (ed_var 4) rfl)) (wd_or1 (td_w (wd_and (td_cmp (od_ne C.u64) (ed_var 3) ed_str) (wd_and1 (td_cmp od_lt (ed_var 4) ed_int)))))))) (bd_one (sd_ret ed_bl)) bd_nil) (bd_one (sd_if (td_w (wd_or (td_w (wd_and (td_cmp (od_eq C.u64) (ed_var 3) ed_str) (wd_and1 (td_cmp od_gt (ed_var 4) ed_int)))) (wd_or1 (td_w (wd_and (td_cmp (od_eq C.u64) (ed_var 3) ed_str) (wd_and1 (td_cmp od_ge (ed_var 4) (ed_fn1 cd_len T.n_len (by decide +kernel) (ed_var 0))))))))) (bd_one (sd_ret ed_bl)) bd_nil))))))))) (bd_one (sd_ret ed_bl))))
/-! ### is_tuple_of -/
def body_is_tuple_of : SD := (sRet (dAnd (dFn1 (oIsB "tuple") (dVar 0)) (dChain oLe oLe (dVar 1) (dFn1 oLen (dVar 0)) (dVar 2))))
def fn_is_tuple_of : Fn := bodyFn (["thing", "least", "most"] : List Str).length N_is_tuple_of.length body_is_tuple_of
theorem ar_is_tuple_of : Arity (["thing", "least", "most"] : List Str).length fn_is_tuple_of := bodyFn_arity _ _ _
theorem bi_is_tuple_of {w : World} {K : PySem.W.Frag} {mg : Str → Option Value} (T : Fx w K mg) : Binds K T.d_is_tuple_of ["thing", "least", "most"] [] := T.F_is_tuple_of.binds (ps := ["thing", "least", "most"]) fun _ _ _ _ _ _ us hl => match us, hl with | [_, _, _], _ => rfl
theorem ok_is_tuple_of {P : Program} {w : World} {K : PySem.W.Frag} {mg : Str → Option Value} {base : Heap} (T : Fx w K mg) : FnG P w K mg base 1 T.a_is_tuple_of T.d_is_tuple_of ["thing", "least", "most"] fn_is_tuple_of :=
  fn_body (b := body_is_tuple_of) (k := 0) T.F_is_tuple_of sc_is_tuple_of fun cdv A outer s H E C tk pass => (bd_one (sd_ret (ed_and (ed_isB (T := "tuple") (by decide) T.n_isinstance T.n_tuple (by decide +kernel) (ed_var 0) rfl) (ed_one (ed_chain od_le od_le (ed_var 1) (ed_fn1 cd_len T.n_len (by decide +kernel) (ed_var 0)) (ed_var 2))))))
/-! ### word_of -/
def body_word_of : SD := (sSeq (sIf (tAndD (toB (dFn1 (oIsB "tuple") (dVar 0))) (tAndD (toB (dBin oGt (dFn1 oLen (dVar 0)) (dC (.int 0)))) (toB (dFn1 (oIsB "str") (dBin oIx (dVar 0) (dC (.int 0))))))) (sRet (dBin oIx (dVar 0) (dC (.int 0)))) sNil) (sRet (dC (.str ""))))
def fn_word_of : Fn := bodyFn (["thing"] : List Str).length N_word_of.length body_word_of
theorem ar_word_of : Arity (["thing"] : List Str).length fn_word_of := bodyFn_arity _ _ _
theorem bi_word_of {w : World} {K : PySem.W.Frag} {mg : Str → Option Value} (T : Fx w K mg) : Binds K T.d_word_of ["thing"] [] := T.F_word_of.binds (ps := ["thing"]) fun _ _ _ _ _ _ us hl => match us, hl with | [_], _ => rfl
theorem ok_word_of {P : Program} {w : World} {K : PySem.W.Frag} {mg : Str → Option Value} {base : Heap} (T : Fx w K mg) : FnG P w K mg base 1 T.a_word_of T.d_word_of ["thing"] fn_word_of :=
  fn_body (b := body_word_of) (k := 0) T.F_word_of sc_word_of fun cdv A outer s H E C tk pass => (bd_cons (sd_if (td_w (wd_and (td_val (ed_isB (T := "tuple") (by decide) T.n_isinstance T.n_tuple (by decide +kernel) (ed_var 0) rfl)) (wd_and (td_cmp od_gt (ed_fn1 cd_len T.n_len (by decide +kernel) (ed_var 0)) ed_int) (wd_and1 (td_val (ed_isB (T := "str") (by decide) T.n_isinstance T.n_str (by decide +kernel) (ed_ix C (ed_var 0) ed_int) rfl)))))) (bd_one (sd_ret (ed_ix C (ed_var 0) ed_int))) bd_nil) (bd_one (sd_ret ed_str)))
/-! ### is_whole -/
def body_is_whole : SD := (sRet (dAnd (dFn1 (oIsB "int") (dVar 0)) (dNot (dFn1 (oIsB "bool") (dVar 0)))))
def fn_is_whole : Fn := bodyFn (["thing"] : List Str).length N_is_whole.length body_is_whole
theorem ar_is_whole : Arity (["thing"] : List Str).length fn_is_whole := bodyFn_arity _ _ _
theorem bi_is_whole {w : World} {K : PySem.W.Frag} {mg : Str → Option Value} (T : Fx w K mg) : Binds K T.d_is_whole ["thing"] [] := T.F_is_whole.binds (ps := ["thing"]) fun _ _ _ _ _ _ us hl => match us, hl with | [_], _ => rfl
theorem ok_is_whole {P : Program} {w : World} {K : PySem.W.Frag} {mg : Str → Option Value} {base : Heap} (T : Fx w K mg) : FnG P w K mg base 1 T.a_is_whole T.d_is_whole ["thing"] fn_is_whole :=
  fn_body (b := body_is_whole) (k := 0) T.F_is_whole sc_is_whole fun cdv A outer s H E C tk pass => (bd_one (sd_ret (ed_and (ed_isB (T := "int") (by decide) T.n_isinstance T.n_int (by decide +kernel) (ed_var 0) rfl) (ed_one (ed_not (ed_isB (T := "bool") (by decide) T.n_isinstance T.n_bool (by decide +kernel) (ed_var 0) rfl))))))
/-! ### _is_part -/
def body_u_is_part : SD := (sSeq (sIf (tNotD (toT (dCall fn_is_whole (dCons (dVar 0) dNil)))) (sRet (dC (.bool false))) sNil) (sSeq (sIf (toB (dBin oEq (dVar 1) (dC (.str "box")))) (sRet (dChain oLe oLt (dC (.int 0)) (dVar 0) (dC (.int 1000)))) sNil) (sSeq (sIf (toB (dBin oEq (dVar 1) (dC (.str "place")))) (sRet (dAnd (dBin oGe (dVar 0) (dC (.int 0))) (dOr (dNone true (dVar 2)) (dBin oLt (dVar 0) (dVar 2))))) sNil) (sRet (dOr (dBin oEq (dVar 1) (dC (.str "number"))) (dBin oGe (dVar 0) (dC (.int 0))))))))
def fn_u_is_part : Fn := bodyFn (["thing", "kind", "many"] : List Str).length N_u_is_part.length body_u_is_part
theorem ar_u_is_part : Arity (["thing", "kind", "many"] : List Str).length fn_u_is_part := bodyFn_arity _ _ _
theorem bi_u_is_part {w : World} {K : PySem.W.Frag} {mg : Str → Option Value} (T : Fx w K mg) : Binds K T.d_u_is_part ["thing", "kind", "many"] [] := T.F_u_is_part.binds (ps := ["thing", "kind", "many"]) fun _ _ _ _ _ _ us hl => match us, hl with | [_, _, _], _ => rfl
theorem ok_u_is_part {P : Program} {w : World} {K : PySem.W.Frag} {mg : Str → Option Value} {base : Heap} (T : Fx w K mg) : FnG P w K mg base 2 T.a_u_is_part T.d_u_is_part ["thing", "kind", "many"] fn_u_is_part :=
  fn_body (b := body_u_is_part) (k := 1) T.F_u_is_part sc_u_is_part fun cdv A outer s H E C tk pass => (bd_cons (sd_if (td_not (td_truth (ed_call (ok_is_whole T) ar_is_whole C (by decide) tk T.g_is_whole T.F_is_whole.kp (bi_is_whole T) (ad_cons (ed_var 0) ad_nil)))) (bd_one (sd_ret ed_bl)) bd_nil) (bd_cons (sd_if (td_cmp (od_eq C.u64) (ed_var 1) ed_str) (bd_one (sd_ret (ed_chain od_le od_lt ed_int (ed_var 0) (ed_glob T.c_MOST_BOXES T.r_MOST_BOXES (fun _ => .int _))))) bd_nil) (bd_cons (sd_if (td_cmp (od_eq C.u64) (ed_var 1) ed_str) (bd_one (sd_ret (ed_and (ed_cmp od_ge (ed_var 0) ed_int) (ed_one (ed_or (ed_isno (ed_var 2)) (ed_one (ed_cmp od_lt (ed_var 0) (ed_var 2)))))))) bd_nil) (bd_one (sd_ret (ed_or (ed_cmp (od_eq C.u64) (ed_var 1) ed_str) (ed_one (ed_cmp od_ge (ed_var 0) ed_int))))))))
/-! ### is_order -/
def body_is_order : SD := (sSeq (sSet 2 (dTabGet ks_PARTS tbl_PARTS (dCall fn_word_of (dCons (dVar 0) dNil)))) (sSeq (sIf (tOrD (toB (dNone true (dVar 2))) (toB (dBin oNe (dFn1 oLen (dVar 0)) (dBin oAdd (dFn1 oLen (dVar 2)) (dC (.int 1)))))) (sRet (dC (.bool false))) sNil) (sRet (dFn1 oAll (dLc (itZip (dCons (dSl (dVar 0) (pSome (dC (.int 1))) pNone) (dCons (dVar 2) dNil))) (toTup (toCons (toName 3) (toCons (toName 4) toNil))) (fun l => kTest (fun _ => M.ret true) (kPush l (dCall fn_u_is_part (dCons (dVar 3) (dCons (dVar 4) (dCons (dVar 1) dNil)))))) [3, 4])))))
def fn_is_order : Fn := bodyFn (["thing", "many"] : List Str).length N_is_order.length body_is_order
theorem ar_is_order : Arity (["thing", "many"] : List Str).length fn_is_order := bodyFn_arity _ _ _
theorem bi_is_order {w : World} {K : PySem.W.Frag} {mg : Str → Option Value} (T : Fx w K mg) : Binds K T.d_is_order ["thing", "many"] [] := T.F_is_order.binds (ps := ["thing", "many"]) fun _ _ _ _ _ _ us hl => match us, hl with | [_, _], _ => rfl
theorem ok_is_order {P : Program} {w : World} {K : PySem.W.Frag} {mg : Str → Option Value} {base : Heap} (T : Fx w K mg) : FnG P w K mg base 3 T.a_is_order T.d_is_order ["thing", "many"] fn_is_order :=
  fn_body (b := body_is_order) (k := 2) T.F_is_order sc_is_order fun cdv A outer s H E C tk pass => (bd_cons (sd_set (i := 2) C.hN (ed_tabGet T.t_PARTS T.h_PARTS T.m_PARTS (ed_call (ok_word_of T) ar_word_of C (by decide) tk T.g_word_of T.F_word_of.kp (bi_word_of T) (ad_cons (ed_var 0) ad_nil)))) (bd_cons (sd_if (td_w (wd_or (td_isno (ed_var 2)) (wd_or1 (td_cmp (od_ne C.u64) (ed_fn1 cd_len T.n_len (by decide +kernel) (ed_var 0)) (ed_op od_add (ed_fn1 cd_len T.n_len (by decide +kernel) (ed_var 2)) ed_int))))) (bd_one (sd_ret ed_bl)) bd_nil) (bd_one (sd_ret (ed_fn1 (cd_all C) T.n_all (by decide +kernel) (ed_lc C (id_zip T.n_zip (ad_cons (ed_sl (ed_var 0) (pd_some ed_int) pd_none) (ad_cons (ed_var 2) ad_nil))) (blkOk_by (N := N_is_order) (sc := defScope s_is_order) (own := [("part", 3), ("kind", 4)]) (by decide +kernel)) (by decide) (fun _ _ _ _ _ => (gd_tup C.blk.hc (gs_cons (gd_name (i := 3) C.blk.hN) (gs_cons (gd_name (i := 4) C.blk.hN) gs_nil)) (arCons (arCons arNil)))) (fun _ _ _ _ _ => td_nil) (fun _ _ _ _ _ => (ed_call (ok_u_is_part T) ar_u_is_part C.blk (by decide) takes0 T.g_u_is_part T.F_u_is_part.kp (bi_u_is_part T) (ad_cons (ed_var 3) (ad_cons (ed_var 4) (ad_cons (ed_var 1) ad_nil)))))))))))
/-! ### is_code -/
def body_is_code : SD := (sSeq (sIf (tNotD (toT (dCall fn_is_tuple_of (dCons (dVar 0) (dCons (dC (.int 1)) (dCons (dC (.int 5000)) dNil)))))) (sRet (dC (.bool false))) sNil) (sRet (dFn1 oAll (dLc (itAny (dVar 0)) (toName 1) (fun l => kTest (fun _ => M.ret true) (kPush l (dCall fn_is_order (dCons (dVar 1) (dCons (dFn1 oLen (dVar 0)) dNil))))) [1]))))
def fn_is_code : Fn := bodyFn (["thing"] : List Str).length N_is_code.length body_is_code
theorem ar_is_code : Arity (["thing"] : List Str).length fn_is_code := bodyFn_arity _ _ _
theorem bi_is_code {w : World} {K : PySem.W.Frag} {mg : Str → Option Value} (T : Fx w K mg) : Binds K T.d_is_code ["thing"] [] := T.F_is_code.binds (ps := ["thing"]) fun _ _ _ _ _ _ us hl => match us, hl with | [_], _ => rfl
theorem ok_is_code {P : Program} {w : World} {K : PySem.W.Frag} {mg : Str → Option Value} {base : Heap} (T : Fx w K mg) : FnG P w K mg base 4 T.a_is_code T.d_is_code ["thing"] fn_is_code :=
  fn_body (b := body_is_code) (k := 3) T.F_is_code sc_is_code fun cdv A outer s H E C tk pass => (bd_cons (sd_if (td_not (td_truth (ed_call (ok_is_tuple_of T) ar_is_tuple_of C (by decide) tk T.g_is_tuple_of T.F_is_tuple_of.kp (bi_is_tuple_of T) (ad_cons (ed_var 0) (ad_cons ed_int (ad_cons (ed_glob T.c_MOST_ORDERS T.r_MOST_ORDERS (fun _ => .int _)) ad_nil)))))) (bd_one (sd_ret ed_bl)) bd_nil) (bd_one (sd_ret (ed_fn1 (cd_all C) T.n_all (by decide +kernel) (ed_lc C (id_any (ed_var 0)) (blkOk_by (N := N_is_code) (sc := defScope s_is_code) (own := [("part", 1)]) (by decide +kernel)) (by decide) (fun _ _ _ _ _ => (gd_name (i := 1) C.blk.hN)) (fun _ _ _ _ _ => td_nil) (fun _ _ _ _ _ => (ed_call (ok_is_order T) ar_is_order C.blk (by decide) takes0 T.g_is_order T.F_is_order.kp (bi_is_order T) (ad_cons (ed_var 1) (ad_cons (ed_fn1 cd_len T.n_len (by decide +kernel) (ed_var 0)) ad_nil)))))))))
theorem kb_is_code_thing {w : World} {K : PySem.W.Frag} {mg : Str → Option Value} (T : Fx w K mg) : KBind T.d_is_code ["thing"] ["thing"] same2 := fun s ws hl => by
  obtain ⟨oc, od, kV, doc, pm, an, cdv, ct, osl, e, lk, hcd⟩ := T.F_is_code.ex
  rw [e]
  exact match ws, hl with | [u0], _ => .of_eq rfl
/-! ### Machine.__init__ -/
def body_Machine_init : SD := (sSeq (sIf (tNotD (toT (dCall fn_is_code (dCons (dVar 1) dNil)))) (sRaise "BadCode" (dCons (dC (.str "no code: one to 5,000 orders")) dNil)) sNil) (sSeq (sAttr "Machine" "_code" (dVar 1) (dVar 0)) (sSeq (sAttr "Machine" "_numbers" (dBin oMulL (dLst (dCons (dC (.int 0)) dNil)) (dC (.int 1000))) (dVar 0)) (sSeq (sAttr "Machine" "_place" (dC (.int 0)) (dVar 0)) (sSeq (sAttr "Machine" "_many_done" (dC (.int 0)) (dVar 0)) (sAttr "Machine" "_is_stopped" (dC (.bool false)) (dVar 0)))))))
def fn_Machine_init : Fn := bodyFn (["self", "code"] : List Str).length N_Machine_init.length body_Machine_init
theorem ar_Machine_init : Arity (["self", "code"] : List Str).length fn_Machine_init := bodyFn_arity _ _ _
theorem bi_Machine_init {w : World} {K : PySem.W.Frag} {mg : Str → Option Value} (T : Fx w K mg) : Binds K T.d_Machine_init ["self", "code"] [] := T.F_Machine_init.binds (ps := ["self", "code"]) fun _ _ _ _ _ _ us hl => match us, hl with | [_, _], _ => rfl
theorem ok_Machine_init {P : Program} {w : World} {K : PySem.W.Frag} {mg : Str → Option Value} {base : Heap} (T : Fx w K mg) : FnG P w K mg base 5 T.a_Machine_init T.d_Machine_init ["self", "code"] fn_Machine_init :=
  fn_body (b := body_Machine_init) (k := 4) T.F_Machine_init sc_Machine_init fun cdv A outer s H E C tk pass => (bd_cons (sd_if (td_not (td_truth (ed_call (ok_is_code T) ar_is_code C (by decide) tk T.g_is_code T.F_is_code.kp (bi_is_code T) (ad_cons (ed_var 1) ad_nil)))) (bd_one (sd_raise C tk PySem.F.excBase_ValueError T.x_BadCode T.g_BadCode T.k_BadCode (raises_own T.b_BadCode T.t_BadCode) (ad_cons ed_str ad_nil))) bd_nil) (bd_cons (sd_attr T.at_Machine_u_code (ed_var 0) (ed_var 1)) (bd_cons (sd_attr T.at_Machine_u_numbers (ed_var 0) (ed_op od_mulL (ed_lst (ad_cons ed_int ad_nil)) (ed_glob T.c_MOST_BOXES T.r_MOST_BOXES (fun _ => .int _)))) (bd_cons (sd_attr T.at_Machine_u_place (ed_var 0) ed_int) (bd_cons (sd_attr T.at_Machine_u_many_done (ed_var 0) ed_int) (bd_one (sd_attr T.at_Machine_u_is_stopped (ed_var 0) ed_bl)))))))
theorem kb_Machine_init_code {w : World} {K : PySem.W.Frag} {mg : Str → Option Value} (T : Fx w K mg) : ∀ (s' : Shared) (u : Value) (us : List Value), us.length + 1 = (["self", "code"] : List Str).length → BindsTo s' T.d_Machine_init ⟨[u], (["code"] : List Str).zip us⟩ ((["self", "code"] : List Str).zip (u :: us)) := fun s u ws hl => by
  obtain ⟨oc, od, kV, doc, pm, an, cdv, ct, osl, e, lk, hcd⟩ := T.F_Machine_init.ex
  rw [e]
  exact match ws, hl with | [u0], _ => .of_eq rfl
/-! ### _law_right -/
def body_u_law_right : SD := (sSeq (sPar3 1 2 3 (dCons (dCall fn_u_law_is (dCons (dVar 0) dNil)) (dCons (dFn1 oRepr (dVar 0)) (dCons (dC (.none)) dNil)))) (sSeq (sIf (toB (dBin oNe (dFn1 oRepr (dLst (dCons (dCall fn_is_code (dCons (dVar 0) dNil)) (dCons (dCall fn_is_code (dArgs same2 (dCons (dVar 0) dNil))) dNil)))) (dFn1 oRepr (dBin oMulL (dLst (dCons (dVar 1) dNil)) (dC (.int 2)))))) (sRet (dC (.bool false))) sNil) (sSeq (sKeep (sExpr (dMake "Machine" fn_Machine_init (dCons (dVar 0) dNil))) ex_0 4 3) (sSeq (sIf (toT (dVar 1)) (sRet (dAnd (dNone true (dVar 3)) (dBin oEq (dFn1 oRepr (dVar 0)) (dVar 2)))) sNil) (sSeq (sSet 5 (clsX ixs_0 (dVar 3))) (sRet (dAnd (clsX ix_BadCode (dVar 3)) (dAnd (clsX ix_ValueError (dVar 3)) (dAnd (dNot (dVar 5)) (dBin oEq (dFn1 oRepr (dVar 0)) (dVar 2)))))))))))
def fn_u_law_right : Fn := bodyFn (["item"] : List Str).length N_u_law_right.length body_u_law_right
theorem ar_u_law_right : Arity (["item"] : List Str).length fn_u_law_right := bodyFn_arity _ _ _
theorem bi_u_law_right {w : World} {K : PySem.W.Frag} {mg : Str → Option Value} (T : Fx w K mg) : Binds K T.d_u_law_right ["item"] [] := T.F_u_law_right.binds (ps := ["item"]) fun _ _ _ _ _ _ us hl => match us, hl with | [_], _ => rfl
theorem ok_u_law_right {P : Program} {w : World} {K : PySem.W.Frag} {mg : Str → Option Value} {base : Heap} (T : Fx w K mg) : FnG P w K mg base 7 T.a_u_law_right T.d_u_law_right ["item"] fn_u_law_right :=
  fn_body (b := body_u_law_right) (k := 6) T.F_u_law_right sc_u_law_right fun cdv A outer s H E C tk pass => (bd_cons (sd_par3 (i := 1) (j := 2) (l := 3) C.hc C.hN (ad_cons (ed_call (ok_u_law_is T) ar_u_law_is C (by decide) tk T.g_u_law_is T.F_u_law_is.kp (bi_u_law_is T) (ad_cons (ed_var 0) ad_nil)) (ad_cons (ed_fn1 (cd_repr C) T.n_repr (by decide +kernel) (ed_var 0)) (ad_cons ed_non ad_nil))) rfl) (bd_cons (sd_if (td_cmp (od_ne C.u64) (ed_fn1 (cd_repr C) T.n_repr (by decide +kernel) (ed_lst (ad_cons (ed_call (ok_is_code T) ar_is_code C (by decide) tk T.g_is_code T.F_is_code.kp (bi_is_code T) (ad_cons (ed_var 0) ad_nil)) (ad_cons (ed_callK (k := 4) (ps := ["thing"]) (ks := ["thing"]) (perm := same2) (fun h => h) (fun a h => h) rfl (fun a h => h) (ok_is_code T) ar_is_code C (by decide) tk T.g_is_code T.F_is_code.kp (kb_is_code_thing T) (kd_cons (ed_var 0) kd_nil)) ad_nil)))) (ed_fn1 (cd_repr C) T.n_repr (by decide +kernel) (ed_op od_mulL (ed_lst (ad_cons (ed_var 1) ad_nil)) ed_int))) (bd_one (sd_ret ed_bl)) bd_nil) (bd_cons (sd_keep (i := 4) (j := 3) rfl rfl rfl C.hN tk (tst_three ⟨rfl, by decide, .inl T.g_StairError⟩ ⟨rfl, by decide, .inl T.g_GreatError⟩ ⟨rfl, by decide, .inl T.g_MissError⟩) T.ex_0 (fun W2 pn2 xe2 tk2 pass2 => (bd_one (sd_expr (ed_makeK (k := 5) (ps := ["self", "code"]) (ks := ["code"]) T.M_Machine (ok_Machine_init T) ar_Machine_init C.tr (by decide) tk2 T.g_Machine (kb_Machine_init_code T) (kd_cons (ed_var 0) kd_nil)))))) (bd_cons (sd_if (td_truth (ed_var 1)) (bd_one (sd_ret (ed_and (ed_isno (ed_var 3)) (ed_one (ed_cmp (od_eq C.u64) (ed_fn1 (cd_repr C) T.n_repr (by decide +kernel) (ed_var 0)) (ed_var 2)))))) bd_nil) (bd_cons (sd_set (i := 5) C.hN (ed_isXs T.n_isinstance (ed_var 3) (pa_cls (pe_glob (v := .ref T.A_BadGoal) rfl T.g_BadGoal rfl) (pa_cls (pe_glob (v := .ref T.A_BadRun) rfl T.g_BadRun rfl) (pa_cls (pe_glob (v := .ref T.A_NotMade) rfl T.g_NotMade rfl) (pa_cls (pe_glob (v := .ref T.A_GreatError) rfl T.g_GreatError rfl) (pa_cls (pe_glob (v := .ref T.A_MissError) rfl T.g_MissError rfl) pa_cls0))))) (.cons (.own _) (.cons (.own _) (.cons (.own _) (.cons (.own _) (.cons (.own _) .nil))))) T.ixs_0 (by show 5 ≤ 16777216; decide) rfl)) (bd_one (sd_ret (ed_and (ed_isX T.n_isinstance (ed_var 3) (pe_glob (v := .ref T.A_BadCode) rfl T.g_BadCode rfl) (.own _) T.ix_BadCode rfl) (ed_and (ed_isX T.n_isinstance (ed_var 3) (pe_bltn (v := .ty "ValueError") (u := .type "ValueError") rfl T.n_ValueError (by decide +kernel) rfl) (.ty _) T.ix_ValueError rfl) (ed_and (ed_not (ed_var 5)) (ed_one (ed_cmp (od_eq C.u64) (ed_fn1 (cd_repr C) T.n_repr (by decide +kernel) (ed_var 0)) (ed_var 2)))))))))))))
/-! ### _law_bent -/
def body_u_law_bent : SD := (sSeq (sSet 3 (dCall fn_u_law_cell (dCons (dVar 0) (dCons (dVar 1) dNil)))) (sSeq (sPar 4 5 (dCons (dBin oMod (dVar 3) (dFn1 oLen (dVar 2))) (dCons (dBin oMod (dBin oDiv (dVar 3) (dC (.int 30))) (dC (.int 7))) dNil))) (sSeq (sPar 6 7 (dCons (dBin oIx (dVar 2) (dVar 4)) (dCons (dCall fn_u_law_cell (dCons (dVar 0) (dCons (dVar 1) dNil))) dNil))) (sSeq (sSet 8 (dBin oIx (dLst (dCons (dC (.none)) (dCons (dC (.bool true)) (dCons (dC (.bool false)) (dCons (dC (.int 0)) (dCons (dC (.int 1)) (dCons (dFn1 oNeg (dC (.int 1))) (dCons (dC (.int 999)) (dCons (dC (.int 1000)) (dCons (dFn1 oLen (dVar 2)) (dCons (dC (.str "1")) (dCons (dTup dNil) (dCons (dLst dNil) (dCons dDict0 (dCons (dC (.str "jump")) (dCons (dTup (dCons (dC (.int 1)) dNil)) (dCons (dBin oPow (dC (.int 10)) (dC (.int 40))) dNil))))))))))))))))) (dBin oMod (dVar 7) (dC (.int 16))))) (sSeq (sIf (toB (dBin oEq (dVar 5) (dC (.int 0)))) (sRet (dBin oAdd (dSl (dVar 2) pNone (pSome (dVar 4))) (dSl (dVar 2) (pSome (dBin oAdd (dVar 4) (dC (.int 1)))) pNone))) sNil) (sSeq (sIf (toB (dBin oEq (dVar 5) (dC (.int 1)))) (sRet (dBin oAdd (dBin oAdd (dSl (dVar 2) pNone (pSome (dVar 4))) (dTup (dCons (dBin oAdd (dVar 6) (dTup (dCons (dVar 8) dNil))) dNil))) (dSl (dVar 2) (pSome (dBin oAdd (dVar 4) (dC (.int 1)))) pNone))) sNil) (sSeq (sIf (toB (dBin oEq (dVar 5) (dC (.int 2)))) (sRet (dBin oAdd (dBin oAdd (dSl (dVar 2) pNone (pSome (dVar 4))) (dTup (dCons (dSl (dVar 6) pNone (pSome (dFn1 oNeg (dC (.int 1))))) dNil))) (dSl (dVar 2) (pSome (dBin oAdd (dVar 4) (dC (.int 1)))) pNone))) sNil) (sSeq (sIf (toB (dBin oEq (dVar 5) (dC (.int 3)))) (sRet (dBin oAdd (dBin oAdd (dSl (dVar 2) pNone (pSome (dVar 4))) (dTup (dCons (dVar 8) dNil))) (dSl (dVar 2) (pSome (dBin oAdd (dVar 4) (dC (.int 1)))) pNone))) sNil) (sSeq (sIf (toB (dBin oEq (dVar 5) (dC (.int 4)))) (sRet (dBin oAdd (dBin oAdd (dSl (dVar 2) pNone (pSome (dVar 4))) (dTup (dCons (dBin oAdd (dTup (dCons (dBin oIx (dLst (dCons (dC (.str "go")) (dCons (dC (.str "Set")) (dCons (dC (.str "mark")) (dCons (dC (.str "copy")) dNil))))) (dBin oMod (dBin oDiv (dVar 7) (dC (.int 16))) (dC (.int 4)))) dNil)) (dSl (dVar 6) (pSome (dC (.int 1))) pNone)) dNil))) (dSl (dVar 2) (pSome (dBin oAdd (dVar 4) (dC (.int 1)))) pNone))) sNil) (sSeq (sIf (toB (dBin oEq (dVar 5) (dC (.int 5)))) (sRet (dBin oIx (dLst (dCons (dFn1 oList (dVar 2)) (dCons (dBin oAdd (dBin oAdd (dSl (dVar 2) pNone (pSome (dVar 4))) (dTup (dCons (dFn1 oList (dVar 6)) dNil))) (dSl (dVar 2) (pSome (dBin oAdd (dVar 4) (dC (.int 1)))) pNone)) dNil))) (dBin oMod (dBin oDiv (dVar 7) (dC (.int 16))) (dC (.int 2))))) sNil) (sSeq (sSet 9 (dBin oMod (dBin oDiv (dVar 7) (dC (.int 16))) (dFn1 oLen (dVar 6)))) (sRet (dBin oAdd (dBin oAdd (dSl (dVar 2) pNone (pSome (dVar 4))) (dTup (dCons (dBin oAdd (dBin oAdd (dSl (dVar 6) pNone (pSome (dVar 9))) (dTup (dCons (dVar 8) dNil))) (dSl (dVar 6) (pSome (dBin oAdd (dVar 9) (dC (.int 1)))) pNone)) dNil))) (dSl (dVar 2) (pSome (dBin oAdd (dVar 4) (dC (.int 1)))) pNone))))))))))))))
def fn_u_law_bent : Fn := bodyFn (["cells", "spot", "orders"] : List Str).length N_u_law_bent.length body_u_law_bent
theorem ar_u_law_bent : Arity (["cells", "spot", "orders"] : List Str).length fn_u_law_bent := bodyFn_arity _ _ _
theorem bi_u_law_bent {w : World} {K : PySem.W.Frag} {mg : Str → Option Value} (T : Fx w K mg) : Binds K T.d_u_law_bent ["cells", "spot", "orders"] [] := T.F_u_law_bent.binds (ps := ["cells", "spot", "orders"]) fun _ _ _ _ _ _ us hl => match us, hl with | [_, _, _], _ => rfl
theorem ok_u_law_bent {P : Program} {w : World} {K : PySem.W.Frag} {mg : Str → Option Value} {base : Heap} (T : Fx w K mg) : FnG P w K mg base 2 T.a_u_law_bent T.d_u_law_bent ["cells", "spot", "orders"] fn_u_law_bent :=
  fn_body (b := body_u_law_bent) (k := 1) T.F_u_law_bent sc_u_law_bent fun cdv A outer s H E C tk pass => (bd_cons (sd_set (i := 3) C.hN (ed_call (ok_u_law_cell T) ar_u_law_cell C (by decide) tk T.g_u_law_cell T.F_u_law_cell.kp (bi_u_law_cell T) (ad_cons (ed_var 0) (ad_cons (ed_var 1) ad_nil)))) (bd_cons (sd_par (i := 4) (j := 5) C.hc C.hN (ad_cons (ed_op od_mod (ed_var 3) (ed_fn1 cd_len T.n_len (by decide +kernel) (ed_var 2))) (ad_cons (ed_op od_mod (ed_op od_div (ed_var 3) ed_int) ed_int) ad_nil)) rfl) (bd_cons (sd_par (i := 6) (j := 7) C.hc C.hN (ad_cons (ed_ix C (ed_var 2) (ed_var 4)) (ad_cons (ed_call (ok_u_law_cell T) ar_u_law_cell C (by decide) tk T.g_u_law_cell T.F_u_law_cell.kp (bi_u_law_cell T) (ad_cons (ed_var 0) (ad_cons (ed_var 1) ad_nil))) ad_nil)) rfl) (bd_cons (sd_set (i := 8) C.hN (ed_ix C (ed_lst (ad_cons ed_non (ad_cons ed_bl (ad_cons ed_bl (ad_cons ed_int (ad_cons ed_int (ad_cons (ed_neg ed_int) (ad_cons ed_int (ad_cons ed_int (ad_cons (ed_fn1 cd_len T.n_len (by decide +kernel) (ed_var 2)) (ad_cons ed_str (ad_cons (ed_tup ad_nil) (ad_cons (ed_lst ad_nil) (ad_cons ed_dict0 (ad_cons ed_str (ad_cons (ed_tup (ad_cons ed_int ad_nil)) (ad_cons (ed_op od_pow ed_int ed_int) ad_nil))))))))))))))))) (ed_op od_mod (ed_var 7) ed_int))) (bd_cons (sd_if (td_cmp (od_eq C.u64) (ed_var 5) ed_int) (bd_one (sd_ret (ed_op od_add (ed_sl (ed_var 2) pd_none (pd_some (ed_var 4))) (ed_sl (ed_var 2) (pd_some (ed_op od_add (ed_var 4) ed_int)) pd_none)))) bd_nil) (bd_cons (sd_if (td_cmp (od_eq C.u64) (ed_var 5) ed_int) (bd_one (sd_ret (ed_op od_add (ed_op od_add (ed_sl (ed_var 2) pd_none (pd_some (ed_var 4))) (ed_tup (ad_cons (ed_op od_add (ed_var 6) (ed_tup (ad_cons (ed_var 8) ad_nil))) ad_nil))) (ed_sl (ed_var 2) (pd_some (ed_op od_add (ed_var 4) ed_int)) pd_none)))) bd_nil) (bd_cons (sd_if (td_cmp (od_eq C.u64) (ed_var 5) ed_int) (bd_one (sd_ret (ed_op od_add (ed_op od_add (ed_sl (ed_var 2) pd_none (pd_some (ed_var 4))) (ed_tup (ad_cons (ed_sl (ed_var 6) pd_none (pd_some (ed_neg ed_int))) ad_nil))) (ed_sl (ed_var 2) (pd_some (ed_op od_add (ed_var 4) ed_int)) pd_none)))) bd_nil) (bd_cons (sd_if (td_cmp (od_eq C.u64) (ed_var 5) ed_int) (bd_one (sd_ret (ed_op od_add (ed_op od_add (ed_sl (ed_var 2) pd_none (pd_some (ed_var 4))) (ed_tup (ad_cons (ed_var 8) ad_nil))) (ed_sl (ed_var 2) (pd_some (ed_op od_add (ed_var 4) ed_int)) pd_none)))) bd_nil) (bd_cons (sd_if (td_cmp (od_eq C.u64) (ed_var 5) ed_int) (bd_one (sd_ret (ed_op od_add (ed_op od_add (ed_sl (ed_var 2) pd_none (pd_some (ed_var 4))) (ed_tup (ad_cons (ed_op od_add (ed_tup (ad_cons (ed_ix C (ed_lst (ad_cons ed_str (ad_cons ed_str (ad_cons ed_str (ad_cons ed_str ad_nil))))) (ed_op od_mod (ed_op od_div (ed_var 7) ed_int) ed_int)) ad_nil)) (ed_sl (ed_var 6) (pd_some ed_int) pd_none)) ad_nil))) (ed_sl (ed_var 2) (pd_some (ed_op od_add (ed_var 4) ed_int)) pd_none)))) bd_nil) (bd_cons (sd_if (td_cmp (od_eq C.u64) (ed_var 5) ed_int) (bd_one (sd_ret (ed_ix C (ed_lst (ad_cons (ed_ty1 cd_list T.n_list (by decide +kernel) (ed_var 2)) (ad_cons (ed_op od_add (ed_op od_add (ed_sl (ed_var 2) pd_none (pd_some (ed_var 4))) (ed_tup (ad_cons (ed_ty1 cd_list T.n_list (by decide +kernel) (ed_var 6)) ad_nil))) (ed_sl (ed_var 2) (pd_some (ed_op od_add (ed_var 4) ed_int)) pd_none)) ad_nil))) (ed_op od_mod (ed_op od_div (ed_var 7) ed_int) ed_int)))) bd_nil) (bd_cons (sd_set (i := 9) C.hN (ed_op od_mod (ed_op od_div (ed_var 7) ed_int) (ed_fn1 cd_len T.n_len (by decide +kernel) (ed_var 6)))) (bd_one (sd_ret (ed_op od_add (ed_op od_add (ed_sl (ed_var 2) pd_none (pd_some (ed_var 4))) (ed_tup (ad_cons (ed_op od_add (ed_op od_add (ed_sl (ed_var 6) pd_none (pd_some (ed_var 9))) (ed_tup (ad_cons (ed_var 8) ad_nil))) (ed_sl (ed_var 6) (pd_some (ed_op od_add (ed_var 9) ed_int)) pd_none)) ad_nil))) (ed_sl (ed_var 2) (pd_some (ed_op od_add (ed_var 4) ed_int)) pd_none)))))))))))))))
/-! ### law -/
def body_law : SD := (sSeq (sSet 1 (dLstC (dCons (dC (.int 0)) dNil))) (sSeq (sFor (itRng (dBin oAdd (dC (.int 4)) (dBin oMin (dC (.int 16)) (dFn1 oLen (dVar 0))))) (toName 2) (sSeq (sSet 3 (dCall fn_u_law_code (dCons (dVar 0) (dCons (dVar 1) dNil)))) (sSeq (sFor (itAny (dTup (dCons (dVar 3) (dCons (dCall fn_u_law_bent (dCons (dVar 0) (dCons (dVar 1) (dCons (dVar 3) dNil)))) (dCons (dCall fn_u_law_bent (dCons (dVar 0) (dCons (dVar 1) (dCons (dVar 3) dNil)))) dNil))))) (toName 4) (sIf (tNotD (toT (dCall fn_u_law_right (dCons (dVar 4) dNil)))) (sRet (dC (.bool false))) sNil)) (sSeq (sSet 5 (dBin oIx (dLst (dCons (dC (.none)) (dCons (dTup dNil) (dCons (dC (.int 5)) (dCons (dC (.str "stop")) (dCons (dLst (dCons (dTup (dCons (dC (.str "stop")) dNil)) dNil)) (dCons (dTup (dCons (dC (.str "stop")) dNil)) (dCons (dTup (dCons (dTup (dCons (dC (.str "stop")) dNil)) (dCons (dC (.none)) dNil))) (dCons dDict0 (dCons (dC (.bool true)) dNil)))))))))) (dBin oMod (dCall fn_u_law_cell (dCons (dVar 0) (dCons (dVar 1) dNil))) (dC (.int 9))))) (sIf (tNotD (toT (dCall fn_u_law_right (dCons (dVar 5) dNil)))) (sRet (dC (.bool false))) sNil))))) (sSeq (sSet 6 (dBin oMulT (dTup (dCons (dTup (dCons (dC (.str "stop")) dNil)) dNil)) (dC (.int 4999)))) (sRet (dAnd (dCall fn_u_law_right (dCons (dBin oAdd (dVar 6) (dTup (dCons (dTup (dCons (dC (.str "jump")) (dCons (dC (.int 4999)) dNil))) dNil))) dNil)) (dCall fn_u_law_right (dCons (dBin oAdd (dVar 6) (dTup (dCons (dTup (dCons (dC (.str "jump")) (dCons (dC (.int 5000)) dNil))) (dCons (dTup (dCons (dC (.str "stop")) dNil)) dNil)))) dNil)))))))
def fn_law : Fn := bodyFn (["script"] : List Str).length N_law.length body_law
theorem ar_law : Arity (["script"] : List Str).length fn_law := bodyFn_arity _ _ _
theorem bi_law {w : World} {K : PySem.W.Frag} {mg : Str → Option Value} (T : Fx w K mg) : Binds K T.d_law ["script"] [] := T.F_law.binds (ps := ["script"]) fun _ _ _ _ _ _ us hl => match us, hl with | [_], _ => rfl
theorem ok_law {P : Program} {w : World} {K : PySem.W.Frag} {mg : Str → Option Value} {base : Heap} (T : Fx w K mg) : FnG P w K mg base 8 T.a_law T.d_law ["script"] fn_law :=
  fn_body (b := body_law) (k := 7) T.F_law sc_law fun cdv A outer s H E C tk pass => (bd_cons (sd_set (i := 1) C.hN (ed_lstC (ad_cons ed_int ad_nil))) (bd_cons (sd_for C pass (id_rng T.n_range (ed_op od_add ed_int (ed_fn2 (cd_min C) T.n_min (by decide +kernel) ed_int (ed_fn1 cd_len T.n_len (by decide +kernel) (ed_var 0))))) (gd_name (i := 2) C.hN) (bd_cons (sd_set (i := 3) C.hN (ed_call (ok_u_law_code T) ar_u_law_code C (by decide) tk T.g_u_law_code T.F_u_law_code.kp (bi_u_law_code T) (ad_cons (ed_var 0) (ad_cons (ed_var 1) ad_nil)))) (bd_cons (sd_for C pass (id_any (ed_tup (ad_cons (ed_var 3) (ad_cons (ed_call (ok_u_law_bent T) ar_u_law_bent C (by decide) tk T.g_u_law_bent T.F_u_law_bent.kp (bi_u_law_bent T) (ad_cons (ed_var 0) (ad_cons (ed_var 1) (ad_cons (ed_var 3) ad_nil)))) (ad_cons (ed_call (ok_u_law_bent T) ar_u_law_bent C (by decide) tk T.g_u_law_bent T.F_u_law_bent.kp (bi_u_law_bent T) (ad_cons (ed_var 0) (ad_cons (ed_var 1) (ad_cons (ed_var 3) ad_nil)))) ad_nil))))) (gd_name (i := 4) C.hN) (bd_one (sd_if (td_not (td_truth (ed_call (ok_u_law_right T) ar_u_law_right C (by decide) tk T.g_u_law_right T.F_u_law_right.kp (bi_u_law_right T) (ad_cons (ed_var 4) ad_nil)))) (bd_one (sd_ret ed_bl)) bd_nil))) (bd_cons (sd_set (i := 5) C.hN (ed_ix C (ed_lst (ad_cons ed_non (ad_cons (ed_tup ad_nil) (ad_cons ed_int (ad_cons ed_str (ad_cons (ed_lst (ad_cons (ed_tup (ad_cons ed_str ad_nil)) ad_nil)) (ad_cons (ed_tup (ad_cons ed_str ad_nil)) (ad_cons (ed_tup (ad_cons (ed_tup (ad_cons ed_str ad_nil)) (ad_cons ed_non ad_nil))) (ad_cons ed_dict0 (ad_cons ed_bl ad_nil)))))))))) (ed_op od_mod (ed_call (ok_u_law_cell T) ar_u_law_cell C (by decide) tk T.g_u_law_cell T.F_u_law_cell.kp (bi_u_law_cell T) (ad_cons (ed_var 0) (ad_cons (ed_var 1) ad_nil))) ed_int))) (bd_one (sd_if (td_not (td_truth (ed_call (ok_u_law_right T) ar_u_law_right C (by decide) tk T.g_u_law_right T.F_u_law_right.kp (bi_u_law_right T) (ad_cons (ed_var 5) ad_nil)))) (bd_one (sd_ret ed_bl)) bd_nil)))))) (bd_cons (sd_set (i := 6) C.hN (ed_op od_mulT (ed_tup (ad_cons (ed_tup (ad_cons ed_str ad_nil)) ad_nil)) ed_int)) (bd_one (sd_ret (ed_and (ed_call (ok_u_law_right T) ar_u_law_right C (by decide) tk T.g_u_law_right T.F_u_law_right.kp (bi_u_law_right T) (ad_cons (ed_op od_add (ed_var 6) (ed_tup (ad_cons (ed_tup (ad_cons ed_str (ad_cons ed_int ad_nil))) ad_nil))) ad_nil)) (ed_one (ed_call (ok_u_law_right T) ar_u_law_right C (by decide) tk T.g_u_law_right T.F_u_law_right.kp (bi_u_law_right T) (ad_cons (ed_op od_add (ed_var 6) (ed_tup (ad_cons (ed_tup (ad_cons ed_str (ad_cons ed_int ad_nil))) (ad_cons (ed_tup (ad_cons ed_str ad_nil)) ad_nil)))) ad_nil)))))))))
/-! ### what the top has written -/
theorem all_mk {P : Program} {w : World} {K : PySem.W.Frag} {h : Heap} {mg : Str → Option Value} {fa : Addr} (X : K.In h) (G : h.Ns mainGlobals mg) (hfa : mg "law" = some (.ref fa))
    {A_StairError A_BadGoal A_BadRun A_BadCode A_NotMade A_GreatError A_MissError A_Machine a_u_law_shapes a_u_law_cell a_u_law_number a_u_law_code a_u_law_is a_is_tuple_of a_word_of a_is_whole a_u_is_part a_is_order a_is_code a_Machine_init a_u_law_right a_u_law_bent a_law A_PARTS A_PARTS_10 A_PARTS_9 A_PARTS_8 A_PARTS_7 A_PARTS_6 A_PARTS_5 A_PARTS_4 A_PARTS_3 A_PARTS_2 A_PARTS_1 A_PARTS_0 : Addr} {od_u_law_shapes an_u_law_shapes od_u_law_cell an_u_law_cell od_u_law_number an_u_law_number od_u_law_code an_u_law_code od_u_law_is an_u_law_is od_is_tuple_of an_is_tuple_of od_word_of an_word_of od_is_whole an_is_whole od_u_is_part an_u_is_part od_is_order an_is_order od_is_code an_is_code od_Machine_init an_Machine_init od_u_law_right an_u_law_right od_u_law_bent an_u_law_bent od_law an_law : Option Addr} {sl_u_law_shapes sl_u_law_cell sl_u_law_number sl_u_law_code sl_u_law_is sl_is_tuple_of sl_word_of sl_is_whole sl_u_is_part sl_is_order sl_is_code sl_Machine_init sl_u_law_right sl_u_law_bent sl_law : Array (Option Value)} {oc_u_law_shapes kV_u_law_shapes dc_u_law_shapes pm_u_law_shapes cd_u_law_shapes ct_u_law_shapes oc_u_law_cell kV_u_law_cell dc_u_law_cell pm_u_law_cell cd_u_law_cell ct_u_law_cell oc_u_law_number kV_u_law_number dc_u_law_number pm_u_law_number cd_u_law_number ct_u_law_number oc_u_law_code kV_u_law_code dc_u_law_code pm_u_law_code cd_u_law_code ct_u_law_code oc_u_law_is kV_u_law_is dc_u_law_is pm_u_law_is cd_u_law_is ct_u_law_is oc_is_tuple_of kV_is_tuple_of dc_is_tuple_of pm_is_tuple_of cd_is_tuple_of ct_is_tuple_of oc_word_of kV_word_of dc_word_of pm_word_of cd_word_of ct_word_of oc_is_whole kV_is_whole dc_is_whole pm_is_whole cd_is_whole ct_is_whole oc_u_is_part kV_u_is_part dc_u_is_part pm_u_is_part cd_u_is_part ct_u_is_part oc_is_order kV_is_order dc_is_order pm_is_order cd_is_order ct_is_order oc_is_code kV_is_code dc_is_code pm_is_code cd_is_code ct_is_code oc_Machine_init kV_Machine_init dc_Machine_init pm_Machine_init cd_Machine_init ct_Machine_init oc_u_law_right kV_u_law_right dc_u_law_right pm_u_law_right cd_u_law_right ct_u_law_right oc_u_law_bent kV_u_law_bent dc_u_law_bent pm_u_law_bent cd_u_law_bent ct_u_law_bent oc_law kV_law dc_law pm_law cd_law ct_law : Value} {v_MOST_BOXES v_MOST_ORDERS : Value} {its_0 its_1 its_2 its_3 its_4 its_5 its_6 its_7 its_8 its_9 its_10 : Array Value} {cap_0 cap_1 cap_2 cap_3 cap_4 cap_5 cap_6 cap_7 cap_8 cap_9 cap_10 : Nat} {slt_0 slt_1 slt_2 slt_3 slt_4 slt_5 slt_6 slt_7 slt_8 slt_9 slt_10 : Array (Option Value)} {es_PARTS : Array DictEntry} {cad_PARTS : Nat}
    (h0 : PySem.W.nsIn K mainGlobals "StairError" = some (some (.ref A_StairError)))
    (h1 : PySem.W.nsIn K mainGlobals "BadGoal" = some (some (.ref A_BadGoal)))
    (h2 : PySem.W.nsIn K mainGlobals "BadRun" = some (some (.ref A_BadRun)))
    (h3 : PySem.W.nsIn K mainGlobals "BadCode" = some (some (.ref A_BadCode)))
    (h4 : PySem.W.nsIn K mainGlobals "NotMade" = some (some (.ref A_NotMade)))
    (h5 : PySem.W.nsIn K mainGlobals "GreatError" = some (some (.ref A_GreatError)))
    (h6 : PySem.W.nsIn K mainGlobals "MissError" = some (some (.ref A_MissError)))
    (h7 : PySem.W.nsIn K mainGlobals "Machine" = some (some (.ref A_Machine)))
    (h8 : PySem.W.excIn K A_BadCode [.type "ValueError", .type "Exception", .type "BaseException", .type "object"] "ValueError.__new__" = true)
    (h9 : PySem.W.keepIn K (.ref A_BadCode) = true)
    (h10 : PySem.W.subIn K (.ref A_BadCode) (.type "BaseException") = some true)
    (h11 : PySem.W.typeIn K (.ref A_BadCode) = some (.type "type"))
    (h12 : PySem.W.subIn K (.ref A_BadCode) (.ref A_MissError) = some false)
    (h13 : PySem.W.subIn K (.ref A_MissError) (.type "BaseException") = some true)
    (h14 : PySem.W.hasDictIn K A_MissError = true)
    (h15 : PySem.W.typeIn K (.ref A_MissError) = some (.type "type"))
    (h16 : PySem.W.subIn K (.ref A_BadCode) (.ref A_GreatError) = some false)
    (h17 : PySem.W.subIn K (.ref A_GreatError) (.type "BaseException") = some true)
    (h18 : PySem.W.hasDictIn K A_GreatError = true)
    (h19 : PySem.W.typeIn K (.ref A_GreatError) = some (.type "type"))
    (h20 : PySem.W.subIn K (.ref A_BadCode) (.ref A_StairError) = some true)
    (h21 : PySem.W.subIn K (.ref A_StairError) (.type "BaseException") = some true)
    (h22 : PySem.W.hasDictIn K A_StairError = true)
    (h23 : PySem.W.typeIn K (.ref A_StairError) = some (.type "type"))
    (h24 : A_BadCode ≠ A_MissError)
    (h25 : A_BadCode ≠ A_GreatError)
    (h26 : PySem.W.subIn K (.ref A_BadCode) (.ref A_NotMade) = some false)
    (h27 : A_BadCode ≠ A_NotMade)
    (h28 : PySem.W.hasDictIn K A_NotMade = true)
    (h29 : PySem.W.typeIn K (.ref A_NotMade) = some (.type "type"))
    (h30 : PySem.W.subIn K (.ref A_BadCode) (.ref A_BadRun) = some false)
    (h31 : A_BadCode ≠ A_BadRun)
    (h32 : PySem.W.hasDictIn K A_BadRun = true)
    (h33 : PySem.W.typeIn K (.ref A_BadRun) = some (.type "type"))
    (h34 : PySem.W.subIn K (.ref A_BadCode) (.ref A_BadGoal) = some false)
    (h35 : A_BadCode ≠ A_BadGoal)
    (h36 : PySem.W.hasDictIn K A_BadGoal = true)
    (h37 : PySem.W.typeIn K (.ref A_BadGoal) = some (.type "type"))
    (h38 : PySem.W.findIn K (.ref A_BadCode) "__getattribute__" = some (some (.builtin "BaseException.__getattribute__")))
    (h39 : PySem.W.findIn K (.ref A_BadCode) "__getattr__" = some none)
    (h40 : PySem.W.findIn K (.ref A_BadCode) "__class__" = some (some (.builtin "object.__class__")))
    (h41 : PySem.W.mroIn K A_BadCode (.type "object") = some true)
    (h42 : PySem.W.specialIn K (.builtin "object.__class__") "__get__" = some (some (.builtin "getset_descriptor.__get__")))
    (h43 : PySem.W.takesIn K (.builtin "object.__class__") = some true)
    (h44 : PySem.W.hasDictIn K A_BadCode = true)
    (h45 : PySem.W.subIn K (.ref A_BadCode) (.type "ValueError") = some true)
    (h46 : PySem.W.findIn K (.ref A_Machine) "__init__" = some (some (.ref a_Machine_init)))
    (h47 : PySem.W.nsIn K mainGlobals "_law_shapes" = some (some (.ref a_u_law_shapes)))
    (h48 : K.lookup a_u_law_shapes = some ⟨oc_u_law_shapes, od_u_law_shapes, .func (PySem.W.fnOf "_law_shapes" "_law_shapes" (defArgs s_u_law_shapes) (defBody s_u_law_shapes) (defScope s_u_law_shapes) .none kV_u_law_shapes dc_u_law_shapes pm_u_law_shapes an_u_law_shapes cd_u_law_shapes ct_u_law_shapes), sl_u_law_shapes⟩)
    (h49 : PySem.W.codeIn K cd_u_law_shapes "_law_shapes" = true)
    (h50 : PySem.W.keepIn K (.ref a_u_law_shapes) = true)
    (h51 : PySem.W.nsIn K mainGlobals "_law_cell" = some (some (.ref a_u_law_cell)))
    (h52 : K.lookup a_u_law_cell = some ⟨oc_u_law_cell, od_u_law_cell, .func (PySem.W.fnOf "_law_cell" "_law_cell" (defArgs s_u_law_cell) (defBody s_u_law_cell) (defScope s_u_law_cell) .none kV_u_law_cell dc_u_law_cell pm_u_law_cell an_u_law_cell cd_u_law_cell ct_u_law_cell), sl_u_law_cell⟩)
    (h53 : PySem.W.codeIn K cd_u_law_cell "_law_cell" = true)
    (h54 : PySem.W.keepIn K (.ref a_u_law_cell) = true)
    (h55 : PySem.W.nsIn K mainGlobals "_law_number" = some (some (.ref a_u_law_number)))
    (h56 : K.lookup a_u_law_number = some ⟨oc_u_law_number, od_u_law_number, .func (PySem.W.fnOf "_law_number" "_law_number" (defArgs s_u_law_number) (defBody s_u_law_number) (defScope s_u_law_number) .none kV_u_law_number dc_u_law_number pm_u_law_number an_u_law_number cd_u_law_number ct_u_law_number), sl_u_law_number⟩)
    (h57 : PySem.W.codeIn K cd_u_law_number "_law_number" = true)
    (h58 : PySem.W.keepIn K (.ref a_u_law_number) = true)
    (h59 : PySem.W.nsIn K mainGlobals "_law_code" = some (some (.ref a_u_law_code)))
    (h60 : K.lookup a_u_law_code = some ⟨oc_u_law_code, od_u_law_code, .func (PySem.W.fnOf "_law_code" "_law_code" (defArgs s_u_law_code) (defBody s_u_law_code) (defScope s_u_law_code) .none kV_u_law_code dc_u_law_code pm_u_law_code an_u_law_code cd_u_law_code ct_u_law_code), sl_u_law_code⟩)
    (h61 : PySem.W.codeIn K cd_u_law_code "_law_code" = true)
    (h62 : PySem.W.keepIn K (.ref a_u_law_code) = true)
    (h63 : PySem.W.nsIn K mainGlobals "_law_is" = some (some (.ref a_u_law_is)))
    (h64 : K.lookup a_u_law_is = some ⟨oc_u_law_is, od_u_law_is, .func (PySem.W.fnOf "_law_is" "_law_is" (defArgs s_u_law_is) (defBody s_u_law_is) (defScope s_u_law_is) .none kV_u_law_is dc_u_law_is pm_u_law_is an_u_law_is cd_u_law_is ct_u_law_is), sl_u_law_is⟩)
    (h65 : PySem.W.codeIn K cd_u_law_is "_law_is" = true)
    (h66 : PySem.W.keepIn K (.ref a_u_law_is) = true)
    (h67 : PySem.W.nsIn K mainGlobals "is_tuple_of" = some (some (.ref a_is_tuple_of)))
    (h68 : K.lookup a_is_tuple_of = some ⟨oc_is_tuple_of, od_is_tuple_of, .func (PySem.W.fnOf "is_tuple_of" "is_tuple_of" (defArgs s_is_tuple_of) (defBody s_is_tuple_of) (defScope s_is_tuple_of) .none kV_is_tuple_of dc_is_tuple_of pm_is_tuple_of an_is_tuple_of cd_is_tuple_of ct_is_tuple_of), sl_is_tuple_of⟩)
    (h69 : PySem.W.codeIn K cd_is_tuple_of "is_tuple_of" = true)
    (h70 : PySem.W.keepIn K (.ref a_is_tuple_of) = true)
    (h71 : PySem.W.nsIn K mainGlobals "word_of" = some (some (.ref a_word_of)))
    (h72 : K.lookup a_word_of = some ⟨oc_word_of, od_word_of, .func (PySem.W.fnOf "word_of" "word_of" (defArgs s_word_of) (defBody s_word_of) (defScope s_word_of) .none kV_word_of dc_word_of pm_word_of an_word_of cd_word_of ct_word_of), sl_word_of⟩)
    (h73 : PySem.W.codeIn K cd_word_of "word_of" = true)
    (h74 : PySem.W.keepIn K (.ref a_word_of) = true)
    (h75 : PySem.W.nsIn K mainGlobals "is_whole" = some (some (.ref a_is_whole)))
    (h76 : K.lookup a_is_whole = some ⟨oc_is_whole, od_is_whole, .func (PySem.W.fnOf "is_whole" "is_whole" (defArgs s_is_whole) (defBody s_is_whole) (defScope s_is_whole) .none kV_is_whole dc_is_whole pm_is_whole an_is_whole cd_is_whole ct_is_whole), sl_is_whole⟩)
    (h77 : PySem.W.codeIn K cd_is_whole "is_whole" = true)
    (h78 : PySem.W.keepIn K (.ref a_is_whole) = true)
    (h79 : PySem.W.nsIn K mainGlobals "_is_part" = some (some (.ref a_u_is_part)))
    (h80 : K.lookup a_u_is_part = some ⟨oc_u_is_part, od_u_is_part, .func (PySem.W.fnOf "_is_part" "_is_part" (defArgs s_u_is_part) (defBody s_u_is_part) (defScope s_u_is_part) .none kV_u_is_part dc_u_is_part pm_u_is_part an_u_is_part cd_u_is_part ct_u_is_part), sl_u_is_part⟩)
    (h81 : PySem.W.codeIn K cd_u_is_part "_is_part" = true)
    (h82 : PySem.W.keepIn K (.ref a_u_is_part) = true)
    (h83 : PySem.W.nsIn K mainGlobals "is_order" = some (some (.ref a_is_order)))
    (h84 : K.lookup a_is_order = some ⟨oc_is_order, od_is_order, .func (PySem.W.fnOf "is_order" "is_order" (defArgs s_is_order) (defBody s_is_order) (defScope s_is_order) .none kV_is_order dc_is_order pm_is_order an_is_order cd_is_order ct_is_order), sl_is_order⟩)
    (h85 : PySem.W.codeIn K cd_is_order "is_order" = true)
    (h86 : PySem.W.keepIn K (.ref a_is_order) = true)
    (h87 : PySem.W.nsIn K mainGlobals "is_code" = some (some (.ref a_is_code)))
    (h88 : K.lookup a_is_code = some ⟨oc_is_code, od_is_code, .func (PySem.W.fnOf "is_code" "is_code" (defArgs s_is_code) (defBody s_is_code) (defScope s_is_code) .none kV_is_code dc_is_code pm_is_code an_is_code cd_is_code ct_is_code), sl_is_code⟩)
    (h89 : PySem.W.codeIn K cd_is_code "is_code" = true)
    (h90 : PySem.W.keepIn K (.ref a_is_code) = true)
    (h91 : K.lookup a_Machine_init = some ⟨oc_Machine_init, od_Machine_init, .func (PySem.W.fnOf "__init__" "Machine.__init__" (defArgs s_Machine_init) (defBody s_Machine_init) (defScope s_Machine_init) .none kV_Machine_init dc_Machine_init pm_Machine_init an_Machine_init cd_Machine_init ct_Machine_init), sl_Machine_init⟩)
    (h92 : PySem.W.codeIn K cd_Machine_init "Machine.__init__" = true)
    (h93 : PySem.W.keepIn K (.ref a_Machine_init) = true)
    (h94 : PySem.W.nsIn K mainGlobals "_law_right" = some (some (.ref a_u_law_right)))
    (h95 : K.lookup a_u_law_right = some ⟨oc_u_law_right, od_u_law_right, .func (PySem.W.fnOf "_law_right" "_law_right" (defArgs s_u_law_right) (defBody s_u_law_right) (defScope s_u_law_right) .none kV_u_law_right dc_u_law_right pm_u_law_right an_u_law_right cd_u_law_right ct_u_law_right), sl_u_law_right⟩)
    (h96 : PySem.W.codeIn K cd_u_law_right "_law_right" = true)
    (h97 : PySem.W.keepIn K (.ref a_u_law_right) = true)
    (h98 : PySem.W.nsIn K mainGlobals "_law_bent" = some (some (.ref a_u_law_bent)))
    (h99 : K.lookup a_u_law_bent = some ⟨oc_u_law_bent, od_u_law_bent, .func (PySem.W.fnOf "_law_bent" "_law_bent" (defArgs s_u_law_bent) (defBody s_u_law_bent) (defScope s_u_law_bent) .none kV_u_law_bent dc_u_law_bent pm_u_law_bent an_u_law_bent cd_u_law_bent ct_u_law_bent), sl_u_law_bent⟩)
    (h100 : PySem.W.codeIn K cd_u_law_bent "_law_bent" = true)
    (h101 : PySem.W.keepIn K (.ref a_u_law_bent) = true)
    (h102 : PySem.W.nsIn K mainGlobals "law" = some (some (.ref a_law)))
    (h103 : K.lookup a_law = some ⟨oc_law, od_law, .func (PySem.W.fnOf "law" "law" (defArgs s_law) (defBody s_law) (defScope s_law) .none kV_law dc_law pm_law an_law cd_law ct_law), sl_law⟩)
    (h104 : PySem.W.codeIn K cd_law "law" = true)
    (h105 : PySem.W.keepIn K (.ref a_law) = true)
    (h106 : PySem.W.makesIn K A_Machine = true)
    (h107 : PySem.W.isFn K (.ref a_Machine_init) = true)
    (h108 : PySem.W.keepIn K (.ref A_Machine) = true)
    (h109 : PySem.W.plainGet K A_Machine Str.empty = true)
    (h110 : PySem.W.hasDictIn K A_Machine = true)
    (h111 : PySem.W.plainOver K A_Machine = true)
    (h112 : PySem.W.findIn K (.ref A_Machine) "__setattr__" = some (some (.builtin "object.__setattr__")))
    (h113 : PySem.W.findIn K (.ref A_Machine) "_code" = some none)
    (h114 : PySem.W.findIn K (.ref A_Machine) "_numbers" = some none)
    (h115 : PySem.W.findIn K (.ref A_Machine) "_place" = some none)
    (h116 : PySem.W.findIn K (.ref A_Machine) "_many_done" = some none)
    (h117 : PySem.W.findIn K (.ref A_Machine) "_is_stopped" = some none)
    (h118 : PySem.W.nsIn K mainGlobals "PARTS" = some (some (.ref A_PARTS)))
    (h119 : K.lookup A_PARTS = some ⟨.type "dict", none, .dict es_PARTS cad_PARTS, #[]⟩)
    (h120 : es_PARTS.toList.map He.keyOf = He.keysIn w.params ["set", "copy", "add", "sub", "mul", "less", "same", "jump", "none", "mark", "stop"])
    (h121 : (A_PARTS == sysModules) = false)
    (h122 : PySem.W.nsIn K A_PARTS "stop" = some (some (.ref A_PARTS_10)))
    (h123 : K.lookup A_PARTS_10 = some ⟨.type "tuple", none, .seq its_0 cap_0, slt_0⟩)
    (h124 : Vals [] its_0.toList)
    (h125 : its_0.size ≤ sizeLine)
    (h126 : PySem.W.nsIn K A_PARTS "mark" = some (some (.ref A_PARTS_9)))
    (h127 : K.lookup A_PARTS_9 = some ⟨.type "tuple", none, .seq its_1 cap_1, slt_1⟩)
    (h128 : Vals [(.str "count" : V)] its_1.toList)
    (h129 : its_1.size ≤ sizeLine)
    (h130 : PySem.W.nsIn K A_PARTS "none" = some (some (.ref A_PARTS_8)))
    (h131 : K.lookup A_PARTS_8 = some ⟨.type "tuple", none, .seq its_2 cap_2, slt_2⟩)
    (h132 : Vals [(.str "box" : V), (.str "place" : V)] its_2.toList)
    (h133 : its_2.size ≤ sizeLine)
    (h134 : PySem.W.nsIn K A_PARTS "jump" = some (some (.ref A_PARTS_7)))
    (h135 : K.lookup A_PARTS_7 = some ⟨.type "tuple", none, .seq its_3 cap_3, slt_3⟩)
    (h136 : Vals [(.str "place" : V)] its_3.toList)
    (h137 : its_3.size ≤ sizeLine)
    (h138 : PySem.W.nsIn K A_PARTS "same" = some (some (.ref A_PARTS_6)))
    (h139 : K.lookup A_PARTS_6 = some ⟨.type "tuple", none, .seq its_4 cap_4, slt_4⟩)
    (h140 : Vals [(.str "box" : V), (.str "box" : V), (.str "box" : V)] its_4.toList)
    (h141 : its_4.size ≤ sizeLine)
    (h142 : PySem.W.nsIn K A_PARTS "less" = some (some (.ref A_PARTS_5)))
    (h143 : K.lookup A_PARTS_5 = some ⟨.type "tuple", none, .seq its_5 cap_5, slt_5⟩)
    (h144 : Vals [(.str "box" : V), (.str "box" : V), (.str "box" : V)] its_5.toList)
    (h145 : its_5.size ≤ sizeLine)
    (h146 : PySem.W.nsIn K A_PARTS "mul" = some (some (.ref A_PARTS_4)))
    (h147 : K.lookup A_PARTS_4 = some ⟨.type "tuple", none, .seq its_6 cap_6, slt_6⟩)
    (h148 : Vals [(.str "box" : V), (.str "box" : V), (.str "box" : V)] its_6.toList)
    (h149 : its_6.size ≤ sizeLine)
    (h150 : PySem.W.nsIn K A_PARTS "sub" = some (some (.ref A_PARTS_3)))
    (h151 : K.lookup A_PARTS_3 = some ⟨.type "tuple", none, .seq its_7 cap_7, slt_7⟩)
    (h152 : Vals [(.str "box" : V), (.str "box" : V), (.str "box" : V)] its_7.toList)
    (h153 : its_7.size ≤ sizeLine)
    (h154 : PySem.W.nsIn K A_PARTS "add" = some (some (.ref A_PARTS_2)))
    (h155 : K.lookup A_PARTS_2 = some ⟨.type "tuple", none, .seq its_8 cap_8, slt_8⟩)
    (h156 : Vals [(.str "box" : V), (.str "box" : V), (.str "box" : V)] its_8.toList)
    (h157 : its_8.size ≤ sizeLine)
    (h158 : PySem.W.nsIn K A_PARTS "copy" = some (some (.ref A_PARTS_1)))
    (h159 : K.lookup A_PARTS_1 = some ⟨.type "tuple", none, .seq its_9 cap_9, slt_9⟩)
    (h160 : Vals [(.str "box" : V), (.str "box" : V)] its_9.toList)
    (h161 : its_9.size ≤ sizeLine)
    (h162 : PySem.W.nsIn K A_PARTS "set" = some (some (.ref A_PARTS_0)))
    (h163 : K.lookup A_PARTS_0 = some ⟨.type "tuple", none, .seq its_10 cap_10, slt_10⟩)
    (h164 : Vals [(.str "box" : V), (.str "number" : V)] its_10.toList)
    (h165 : its_10.size ≤ sizeLine)
    (h166 : PySem.W.nsIn K mainGlobals "ValueError" = some none)
    (h167 : PySem.W.nsIn K mainGlobals "all" = some none)
    (h168 : PySem.W.nsIn K mainGlobals "bool" = some none)
    (h169 : PySem.W.nsIn K mainGlobals "int" = some none)
    (h170 : PySem.W.nsIn K mainGlobals "isinstance" = some none)
    (h171 : PySem.W.nsIn K mainGlobals "len" = some none)
    (h172 : PySem.W.nsIn K mainGlobals "list" = some none)
    (h173 : PySem.W.nsIn K mainGlobals "min" = some none)
    (h174 : PySem.W.nsIn K mainGlobals "range" = some none)
    (h175 : PySem.W.nsIn K mainGlobals "repr" = some none)
    (h176 : PySem.W.nsIn K mainGlobals "str" = some none)
    (h177 : PySem.W.nsIn K mainGlobals "tuple" = some none)
    (h178 : PySem.W.nsIn K mainGlobals "zip" = some none)
    (h179 : PySem.W.nsIn K mainGlobals "MOST_BOXES" = some (some v_MOST_BOXES))
    (h180 : RelV (.int 1000) v_MOST_BOXES)
    (h181 : PySem.W.nsIn K mainGlobals "MOST_ORDERS" = some (some v_MOST_ORDERS))
    (h182 : RelV (.int 5000) v_MOST_ORDERS)
    : ∃ fd : FuncData, (∀ (s : Shared) (v : Value), BindsTo s fd ⟨[v], []⟩ [("script", v)]) ∧ ∀ base : Heap, K.In base → base.Ns mainGlobals mg → FnG P w K mg base 8 fa fd ["script"] fn_law := by
  have e := hfa.symm.trans (PySem.W.mg_of X G h102)
  cases e
  let T : Fx w K mg := {
    A_StairError := A_StairError
    g_StairError := PySem.W.mg_of X G h0
    A_BadGoal := A_BadGoal
    g_BadGoal := PySem.W.mg_of X G h1
    A_BadRun := A_BadRun
    g_BadRun := PySem.W.mg_of X G h2
    A_BadCode := A_BadCode
    g_BadCode := PySem.W.mg_of X G h3
    A_NotMade := A_NotMade
    g_NotMade := PySem.W.mg_of X G h4
    A_GreatError := A_GreatError
    g_GreatError := PySem.W.mg_of X G h5
    A_MissError := A_MissError
    g_MissError := PySem.W.mg_of X G h6
    A_Machine := A_Machine
    g_Machine := PySem.W.mg_of X G h7
    x_BadCode := h8
    k_BadCode := h9
    b_BadCode := h10
    t_BadCode := h11
    ex_0 := by
      intro y b h C hC
      unfold K65.ex_0 at h
      by_cases e : y = "BadCode"
      · rw [if_pos e] at h
        cases h
        subst e
        have z : C = A_BadCode := Value.ref.inj (Option.some.inj (hC.symm.trans (PySem.W.mg_of X G h3)))
        subst z
        exact (exms_cons (PySem.W.exm_ref h21 h22 h23 h20) (exms_cons (PySem.W.exm_ref h17 h18 h19 h16) (exms_cons (PySem.W.exm_ref h13 h14 h15 h12) exms_nil)))
      rw [if_neg e] at h
      cases h
    ixs_0 := by
      intro y b h C hC
      unfold K65.ixs_0 at h
      by_cases e : y = "BadCode"
      · rw [if_pos e] at h
        cases h
        subst e
        have z : C = A_BadCode := Value.ref.inj (Option.some.inj (hC.symm.trans (PySem.W.mg_of X G h3)))
        subst z
        exact ⟨⟨h38, h39, h10, h44, h40, h42, h43, h41⟩, (kits_no (kit_ref h35 h36 h37 h34) (kits_no (kit_ref h31 h32 h33 h30) (kits_no (kit_ref h27 h28 h29 h26) (kits_no (kit_ref h25 h18 h19 h16) (kits_no (kit_ref h24 h14 h15 h12) kits_nil)))))⟩
      rw [if_neg e] at h
      cases h
    ix_BadCode := by
      intro y b h C hC
      unfold K65.ix_BadCode at h
      by_cases e : y = "BadCode"
      · rw [if_pos e] at h
        cases h
        subst e
        have z : C = A_BadCode := Value.ref.inj (Option.some.inj (hC.symm.trans (PySem.W.mg_of X G h3)))
        subst z
        exact ⟨⟨h38, h39, h10, h44, h40, h42, h43, h41⟩, kit_same⟩
      rw [if_neg e] at h
      cases h
    ix_ValueError := by
      intro y b h C hC
      unfold K65.ix_ValueError at h
      by_cases e : y = "BadCode"
      · rw [if_pos e] at h
        cases h
        subst e
        have z : C = A_BadCode := Value.ref.inj (Option.some.inj (hC.symm.trans (PySem.W.mg_of X G h3)))
        subst z
        exact ⟨⟨h38, h39, h10, h44, h40, h42, h43, h41⟩, (kit_typ (by decide +kernel) h45)⟩
      rw [if_neg e] at h
      cases h
    a_u_law_shapes := a_u_law_shapes
    d_u_law_shapes := PySem.W.fnOf "_law_shapes" "_law_shapes" (defArgs s_u_law_shapes) (defBody s_u_law_shapes) (defScope s_u_law_shapes) .none kV_u_law_shapes dc_u_law_shapes pm_u_law_shapes an_u_law_shapes cd_u_law_shapes ct_u_law_shapes
    F_u_law_shapes := fun_mk (st := s_u_law_shapes) h48 h49 h50
    g_u_law_shapes := PySem.W.mg_of X G h47
    a_u_law_cell := a_u_law_cell
    d_u_law_cell := PySem.W.fnOf "_law_cell" "_law_cell" (defArgs s_u_law_cell) (defBody s_u_law_cell) (defScope s_u_law_cell) .none kV_u_law_cell dc_u_law_cell pm_u_law_cell an_u_law_cell cd_u_law_cell ct_u_law_cell
    F_u_law_cell := fun_mk (st := s_u_law_cell) h52 h53 h54
    g_u_law_cell := PySem.W.mg_of X G h51
    a_u_law_number := a_u_law_number
    d_u_law_number := PySem.W.fnOf "_law_number" "_law_number" (defArgs s_u_law_number) (defBody s_u_law_number) (defScope s_u_law_number) .none kV_u_law_number dc_u_law_number pm_u_law_number an_u_law_number cd_u_law_number ct_u_law_number
    F_u_law_number := fun_mk (st := s_u_law_number) h56 h57 h58
    g_u_law_number := PySem.W.mg_of X G h55
    a_u_law_code := a_u_law_code
    d_u_law_code := PySem.W.fnOf "_law_code" "_law_code" (defArgs s_u_law_code) (defBody s_u_law_code) (defScope s_u_law_code) .none kV_u_law_code dc_u_law_code pm_u_law_code an_u_law_code cd_u_law_code ct_u_law_code
    F_u_law_code := fun_mk (st := s_u_law_code) h60 h61 h62
    g_u_law_code := PySem.W.mg_of X G h59
    a_u_law_is := a_u_law_is
    d_u_law_is := PySem.W.fnOf "_law_is" "_law_is" (defArgs s_u_law_is) (defBody s_u_law_is) (defScope s_u_law_is) .none kV_u_law_is dc_u_law_is pm_u_law_is an_u_law_is cd_u_law_is ct_u_law_is
    F_u_law_is := fun_mk (st := s_u_law_is) h64 h65 h66
    g_u_law_is := PySem.W.mg_of X G h63
    a_is_tuple_of := a_is_tuple_of
    d_is_tuple_of := PySem.W.fnOf "is_tuple_of" "is_tuple_of" (defArgs s_is_tuple_of) (defBody s_is_tuple_of) (defScope s_is_tuple_of) .none kV_is_tuple_of dc_is_tuple_of pm_is_tuple_of an_is_tuple_of cd_is_tuple_of ct_is_tuple_of
    F_is_tuple_of := fun_mk (st := s_is_tuple_of) h68 h69 h70
    g_is_tuple_of := PySem.W.mg_of X G h67
    a_word_of := a_word_of
    d_word_of := PySem.W.fnOf "word_of" "word_of" (defArgs s_word_of) (defBody s_word_of) (defScope s_word_of) .none kV_word_of dc_word_of pm_word_of an_word_of cd_word_of ct_word_of
    F_word_of := fun_mk (st := s_word_of) h72 h73 h74
    g_word_of := PySem.W.mg_of X G h71
    a_is_whole := a_is_whole
    d_is_whole := PySem.W.fnOf "is_whole" "is_whole" (defArgs s_is_whole) (defBody s_is_whole) (defScope s_is_whole) .none kV_is_whole dc_is_whole pm_is_whole an_is_whole cd_is_whole ct_is_whole
    F_is_whole := fun_mk (st := s_is_whole) h76 h77 h78
    g_is_whole := PySem.W.mg_of X G h75
    a_u_is_part := a_u_is_part
    d_u_is_part := PySem.W.fnOf "_is_part" "_is_part" (defArgs s_u_is_part) (defBody s_u_is_part) (defScope s_u_is_part) .none kV_u_is_part dc_u_is_part pm_u_is_part an_u_is_part cd_u_is_part ct_u_is_part
    F_u_is_part := fun_mk (st := s_u_is_part) h80 h81 h82
    g_u_is_part := PySem.W.mg_of X G h79
    a_is_order := a_is_order
    d_is_order := PySem.W.fnOf "is_order" "is_order" (defArgs s_is_order) (defBody s_is_order) (defScope s_is_order) .none kV_is_order dc_is_order pm_is_order an_is_order cd_is_order ct_is_order
    F_is_order := fun_mk (st := s_is_order) h84 h85 h86
    g_is_order := PySem.W.mg_of X G h83
    a_is_code := a_is_code
    d_is_code := PySem.W.fnOf "is_code" "is_code" (defArgs s_is_code) (defBody s_is_code) (defScope s_is_code) .none kV_is_code dc_is_code pm_is_code an_is_code cd_is_code ct_is_code
    F_is_code := fun_mk (st := s_is_code) h88 h89 h90
    g_is_code := PySem.W.mg_of X G h87
    a_Machine_init := a_Machine_init
    d_Machine_init := PySem.W.fnOf "__init__" "Machine.__init__" (defArgs s_Machine_init) (defBody s_Machine_init) (defScope s_Machine_init) .none kV_Machine_init dc_Machine_init pm_Machine_init an_Machine_init cd_Machine_init ct_Machine_init
    F_Machine_init := fun_mk (st := s_Machine_init) h91 h92 h93
    a_u_law_right := a_u_law_right
    d_u_law_right := PySem.W.fnOf "_law_right" "_law_right" (defArgs s_u_law_right) (defBody s_u_law_right) (defScope s_u_law_right) .none kV_u_law_right dc_u_law_right pm_u_law_right an_u_law_right cd_u_law_right ct_u_law_right
    F_u_law_right := fun_mk (st := s_u_law_right) h95 h96 h97
    g_u_law_right := PySem.W.mg_of X G h94
    a_u_law_bent := a_u_law_bent
    d_u_law_bent := PySem.W.fnOf "_law_bent" "_law_bent" (defArgs s_u_law_bent) (defBody s_u_law_bent) (defScope s_u_law_bent) .none kV_u_law_bent dc_u_law_bent pm_u_law_bent an_u_law_bent cd_u_law_bent ct_u_law_bent
    F_u_law_bent := fun_mk (st := s_u_law_bent) h99 h100 h101
    g_u_law_bent := PySem.W.mg_of X G h98
    a_law := fa
    d_law := PySem.W.fnOf "law" "law" (defArgs s_law) (defBody s_law) (defScope s_law) .none kV_law dc_law pm_law an_law cd_law ct_law
    F_law := fun_mk (st := s_law) h103 h104 h105
    M_Machine := ⟨h106, h46, h107, h108⟩
    at_Machine_u_code := fun C hC => by
      have z : C = A_Machine := Value.ref.inj (Option.some.inj (hC.symm.trans (PySem.W.mg_of X G h7)))
      subst z
      exact ⟨⟨h109, h110, h111, h112⟩, h113⟩
    at_Machine_u_numbers := fun C hC => by
      have z : C = A_Machine := Value.ref.inj (Option.some.inj (hC.symm.trans (PySem.W.mg_of X G h7)))
      subst z
      exact ⟨⟨h109, h110, h111, h112⟩, h114⟩
    at_Machine_u_place := fun C hC => by
      have z : C = A_Machine := Value.ref.inj (Option.some.inj (hC.symm.trans (PySem.W.mg_of X G h7)))
      subst z
      exact ⟨⟨h109, h110, h111, h112⟩, h115⟩
    at_Machine_u_many_done := fun C hC => by
      have z : C = A_Machine := Value.ref.inj (Option.some.inj (hC.symm.trans (PySem.W.mg_of X G h7)))
      subst z
      exact ⟨⟨h109, h110, h111, h112⟩, h116⟩
    at_Machine_u_is_stopped := fun C hC => by
      have z : C = A_Machine := Value.ref.inj (Option.some.inj (hC.symm.trans (PySem.W.mg_of X G h7)))
      subst z
      exact ⟨⟨h109, h110, h111, h112⟩, h117⟩
    A_PARTS := A_PARTS
    m_PARTS := PySem.W.mg_of X G h118
    t_PARTS := tab_mk2 h119 h120 h121
    h_PARTS := (tabHas_cons (v := .ref A_PARTS_0) h162 rfl (fun z => (fun F => .tup (.inr ⟨_, its_10, cap_10, h163, rfl, rfl, rfl, h165, h164⟩) (.cons (.str _) (.cons (.str _) .nil))) z.F) (tabHas_cons (v := .ref A_PARTS_1) h158 rfl (fun z => (fun F => .tup (.inr ⟨_, its_9, cap_9, h159, rfl, rfl, rfl, h161, h160⟩) (.cons (.str _) (.cons (.str _) .nil))) z.F) (tabHas_cons (v := .ref A_PARTS_2) h154 rfl (fun z => (fun F => .tup (.inr ⟨_, its_8, cap_8, h155, rfl, rfl, rfl, h157, h156⟩) (.cons (.str _) (.cons (.str _) (.cons (.str _) .nil)))) z.F) (tabHas_cons (v := .ref A_PARTS_3) h150 rfl (fun z => (fun F => .tup (.inr ⟨_, its_7, cap_7, h151, rfl, rfl, rfl, h153, h152⟩) (.cons (.str _) (.cons (.str _) (.cons (.str _) .nil)))) z.F) (tabHas_cons (v := .ref A_PARTS_4) h146 rfl (fun z => (fun F => .tup (.inr ⟨_, its_6, cap_6, h147, rfl, rfl, rfl, h149, h148⟩) (.cons (.str _) (.cons (.str _) (.cons (.str _) .nil)))) z.F) (tabHas_cons (v := .ref A_PARTS_5) h142 rfl (fun z => (fun F => .tup (.inr ⟨_, its_5, cap_5, h143, rfl, rfl, rfl, h145, h144⟩) (.cons (.str _) (.cons (.str _) (.cons (.str _) .nil)))) z.F) (tabHas_cons (v := .ref A_PARTS_6) h138 rfl (fun z => (fun F => .tup (.inr ⟨_, its_4, cap_4, h139, rfl, rfl, rfl, h141, h140⟩) (.cons (.str _) (.cons (.str _) (.cons (.str _) .nil)))) z.F) (tabHas_cons (v := .ref A_PARTS_7) h134 rfl (fun z => (fun F => .tup (.inr ⟨_, its_3, cap_3, h135, rfl, rfl, rfl, h137, h136⟩) (.cons (.str _) .nil)) z.F) (tabHas_cons (v := .ref A_PARTS_8) h130 rfl (fun z => (fun F => .tup (.inr ⟨_, its_2, cap_2, h131, rfl, rfl, rfl, h133, h132⟩) (.cons (.str _) (.cons (.str _) .nil))) z.F) (tabHas_cons (v := .ref A_PARTS_9) h126 rfl (fun z => (fun F => .tup (.inr ⟨_, its_1, cap_1, h127, rfl, rfl, rfl, h129, h128⟩) (.cons (.str _) .nil)) z.F) (tabHas_cons (v := .ref A_PARTS_10) h122 rfl (fun z => (fun F => .tup (.inr ⟨_, its_0, cap_0, h123, rfl, rfl, rfl, h125, h124⟩) .nil) z.F) tabHas_nil)))))))))))
    n_ValueError := PySem.W.mg_none_of X G h166
    n_all := PySem.W.mg_none_of X G h167
    n_bool := PySem.W.mg_none_of X G h168
    n_int := PySem.W.mg_none_of X G h169
    n_isinstance := PySem.W.mg_none_of X G h170
    n_len := PySem.W.mg_none_of X G h171
    n_list := PySem.W.mg_none_of X G h172
    n_min := PySem.W.mg_none_of X G h173
    n_range := PySem.W.mg_none_of X G h174
    n_repr := PySem.W.mg_none_of X G h175
    n_str := PySem.W.mg_none_of X G h176
    n_tuple := PySem.W.mg_none_of X G h177
    n_zip := PySem.W.mg_none_of X G h178
    v_MOST_BOXES := v_MOST_BOXES
    c_MOST_BOXES := PySem.W.mg_of X G h179
    r_MOST_BOXES := h180
    v_MOST_ORDERS := v_MOST_ORDERS
    c_MOST_ORDERS := PySem.W.mg_of X G h181
    r_MOST_ORDERS := h182
  }
  exact ⟨T.d_law, fun s v => .of_eq rfl, fun base _ _ => ok_law T⟩
end K65
set_option maxRecDepth 100000
set_option maxHeartbeats 1000000
namespace K65
open PySem PySem.Spec PyProof.Rows L2 Zz
def wordD : D → Str
  | .tuple (.str t :: _) => t
  | _ => ""
theorem word_f (d : D) (S : List Cell) : fn_word_of [.d d] S = .ok (.d (.str (wordD d))) S := by
  refine body_ok ?_
  show body_word_of [some (.d d)] S = _
  unfold body_word_of
  cases d with
  | tuple ds =>
    match ds with
    | [] => simp [Zz.iteA, Zz.sSeq, Zz.sIf, Zz.sRet, Zz.sNil, Zz.sSet, Zz.sExpr, Zz.sRetN, Zz.sAsg, Zz.toTup, Zz.toCons, Zz.toNil, Zz.toName, Zz.tOrD, Zz.tAndD, Zz.tNotD, Zz.toB, Zz.toBr, Zz.toT, Zz.truD, Zz.dFn1, Zz.on1, Zz.dVar, Zz.dBin, Zz.on2, Zz.dChain, Zz.dNot, Zz.dAnd, Zz.dOr, Zz.dIf, Zz.dTup, Zz.dLst, Zz.dNil, Zz.dCons, Zz.frzs, Zz.dCall, Zz.oLe, Zz.oLt, Zz.oGt, Zz.oGe, Zz.oCmp, oIsB, isB, oLen, wordD]
    | x :: r =>
      have i1 : (0 : Int) < (r.length : Int) + 1 := by omega
      cases x <;> simp [Zz.iteA, Zz.sSeq, Zz.sIf, Zz.sRet, Zz.sNil, Zz.sSet, Zz.sExpr, Zz.sRetN, Zz.sAsg, Zz.toTup, Zz.toCons, Zz.toNil, Zz.toName, Zz.tOrD, Zz.tAndD, Zz.tNotD, Zz.toB, Zz.toBr, Zz.toT, Zz.truD, Zz.dFn1, Zz.on1, Zz.dVar, Zz.dBin, Zz.on2, Zz.dChain, Zz.dNot, Zz.dAnd, Zz.dOr, Zz.dIf, Zz.dTup, Zz.dLst, Zz.dNil, Zz.dCons, Zz.frzs, Zz.dCall, Zz.oLe, Zz.oLt, Zz.oGt, Zz.oGe, Zz.oCmp, oIsB, isB, oLen, wordD, oIx, i1, atI0]
  | _ => simp [Zz.iteA, Zz.sSeq, Zz.sIf, Zz.sRet, Zz.sNil, Zz.sSet, Zz.sExpr, Zz.sRetN, Zz.sAsg, Zz.toTup, Zz.toCons, Zz.toNil, Zz.toName, Zz.tOrD, Zz.tAndD, Zz.tNotD, Zz.toB, Zz.toBr, Zz.toT, Zz.truD, Zz.dFn1, Zz.on1, Zz.dVar, Zz.dBin, Zz.on2, Zz.dChain, Zz.dNot, Zz.dAnd, Zz.dOr, Zz.dIf, Zz.dTup, Zz.dLst, Zz.dNil, Zz.dCons, Zz.frzs, Zz.dCall, Zz.oLe, Zz.oLt, Zz.oGt, Zz.oGe, Zz.oCmp, oIsB, isB, wordD]
theorem whole_f (d : D) (S : List Cell) : fn_is_whole [.d d] S = .ok (.d (.bool (match d with | .int _ => true | _ => false))) S := by
  refine body_ok ?_
  show body_is_whole [some (.d d)] S = _
  unfold body_is_whole
  cases d <;> simp [Zz.iteA, Zz.sSeq, Zz.sIf, Zz.sRet, Zz.sNil, Zz.sSet, Zz.sExpr, Zz.sRetN, Zz.sAsg, Zz.toTup, Zz.toCons, Zz.toNil, Zz.toName, Zz.tOrD, Zz.tAndD, Zz.tNotD, Zz.toB, Zz.toBr, Zz.toT, Zz.truD, Zz.dFn1, Zz.on1, Zz.dVar, Zz.dBin, Zz.on2, Zz.dChain, Zz.dNot, Zz.dAnd, Zz.dOr, Zz.dIf, Zz.dTup, Zz.dLst, Zz.dNil, Zz.dCons, Zz.frzs, Zz.dCall, Zz.oLe, Zz.oLt, Zz.oGt, Zz.oGe, Zz.oCmp, oIsB, isB]
def lenB (a b : Int) : D → Bool
  | .tuple l => decide (a ≤ (l.length : Int)) && decide ((l.length : Int) ≤ b)
  | _ => false
theorem tuple_of_f (d : D) (a b : Int) (S : List Cell) : fn_is_tuple_of [.d d, .d (.int a), .d (.int b)] S = .ok (.d (.bool (lenB a b d))) S := by
  refine body_ok ?_
  show body_is_tuple_of [some (.d d), some (.d (.int a)), some (.d (.int b))] S = _
  unfold body_is_tuple_of
  cases d with
  | tuple l =>
    by_cases h : a ≤ (l.length : Int)
    · simp [Zz.iteA, Zz.sSeq, Zz.sIf, Zz.sRet, Zz.sNil, Zz.sSet, Zz.sExpr, Zz.sRetN, Zz.sAsg, Zz.toTup, Zz.toCons, Zz.toNil, Zz.toName, Zz.tOrD, Zz.tAndD, Zz.tNotD, Zz.toB, Zz.toBr, Zz.toT, Zz.truD, Zz.dFn1, Zz.on1, Zz.dVar, Zz.dBin, Zz.on2, Zz.dChain, Zz.dNot, Zz.dAnd, Zz.dOr, Zz.dIf, Zz.dTup, Zz.dLst, Zz.dNil, Zz.dCons, Zz.frzs, Zz.dCall, Zz.oLe, Zz.oLt, Zz.oGt, Zz.oGe, Zz.oCmp, oIsB, isB, oLen, h, lenB]
    · simp [Zz.iteA, Zz.sSeq, Zz.sIf, Zz.sRet, Zz.sNil, Zz.sSet, Zz.sExpr, Zz.sRetN, Zz.sAsg, Zz.toTup, Zz.toCons, Zz.toNil, Zz.toName, Zz.tOrD, Zz.tAndD, Zz.tNotD, Zz.toB, Zz.toBr, Zz.toT, Zz.truD, Zz.dFn1, Zz.on1, Zz.dVar, Zz.dBin, Zz.on2, Zz.dChain, Zz.dNot, Zz.dAnd, Zz.dOr, Zz.dIf, Zz.dTup, Zz.dLst, Zz.dNil, Zz.dCons, Zz.frzs, Zz.dCall, Zz.oLe, Zz.oLt, Zz.oGt, Zz.oGe, Zz.oCmp, oIsB, isB, oLen, h, lenB]
  | _ => simp [Zz.iteA, Zz.sSeq, Zz.sIf, Zz.sRet, Zz.sNil, Zz.sSet, Zz.sExpr, Zz.sRetN, Zz.sAsg, Zz.toTup, Zz.toCons, Zz.toNil, Zz.toName, Zz.tOrD, Zz.tAndD, Zz.tNotD, Zz.toB, Zz.toBr, Zz.toT, Zz.truD, Zz.dFn1, Zz.on1, Zz.dVar, Zz.dBin, Zz.on2, Zz.dChain, Zz.dNot, Zz.dAnd, Zz.dOr, Zz.dIf, Zz.dTup, Zz.dLst, Zz.dNil, Zz.dCons, Zz.frzs, Zz.dCall, Zz.oLe, Zz.oLt, Zz.oGt, Zz.oGe, Zz.oCmp, oIsB, isB, lenB]
theorem lits : ¬ (("place" : Str) = "box") ∧ ¬ (("number" : Str) = "box") ∧ ¬ (("number" : Str) = "place") ∧ ¬ (("count" : Str) = "box") ∧ ¬ (("count" : Str) = "place") ∧ ¬ (("count" : Str) = "number") ∧ ¬ (("place" : Str) = "number") ∧ ¬ (("box" : Str) = "place") ∧ ¬ (("box" : Str) = "number") := by decide +kernel
/-- a part by its kind -/
def kindB (k : Str) (n : Int) : D → Bool
  | .int i => if k = "box" then decide (0 ≤ i) && decide (i < 1000) else if k = "place" then decide (0 ≤ i) && decide (i < n) else decide (k = "number") || decide (0 ≤ i)
  | _ => false
theorem part_f (d : D) (k : Str) (n : Int) (S : List Cell) : fn_u_is_part [.d d, .d (.str k), .d (.int n)] S = .ok (.d (.bool (kindB k n d))) S := by
  refine body_ok ?_
  show body_u_is_part [some (.d d), some (.d (.str k)), some (.d (.int n))] S = _
  unfold body_u_is_part
  cases d with
  | int i =>
    by_cases h1 : k = "box"
    · by_cases h2 : 0 ≤ i <;> simp [Zz.iteA, Zz.sSeq, Zz.sIf, Zz.sRet, Zz.sNil, Zz.sSet, Zz.sExpr, Zz.sRetN, Zz.sAsg, Zz.toTup, Zz.toCons, Zz.toNil, Zz.toName, Zz.tOrD, Zz.tAndD, Zz.tNotD, Zz.toB, Zz.toBr, Zz.toT, Zz.truD, Zz.dFn1, Zz.on1, Zz.dVar, Zz.dBin, Zz.on2, Zz.dChain, Zz.dNot, Zz.dAnd, Zz.dOr, Zz.dIf, Zz.dTup, Zz.dLst, Zz.dNil, Zz.dCons, Zz.frzs, Zz.dCall, Zz.oLe, Zz.oLt, Zz.oGt, Zz.oGe, Zz.oCmp, whole_f, eqS, h1, h2, kindB]
    · by_cases h3 : k = "place"
      · by_cases h2 : 0 ≤ i <;> simp [Zz.iteA, Zz.sSeq, Zz.sIf, Zz.sRet, Zz.sNil, Zz.sSet, Zz.sExpr, Zz.sRetN, Zz.sAsg, Zz.toTup, Zz.toCons, Zz.toNil, Zz.toName, Zz.tOrD, Zz.tAndD, Zz.tNotD, Zz.toB, Zz.toBr, Zz.toT, Zz.truD, Zz.dFn1, Zz.on1, Zz.dVar, Zz.dBin, Zz.on2, Zz.dChain, Zz.dNot, Zz.dAnd, Zz.dOr, Zz.dIf, Zz.dTup, Zz.dLst, Zz.dNil, Zz.dCons, Zz.frzs, Zz.dCall, Zz.oLe, Zz.oLt, Zz.oGt, Zz.oGe, Zz.oCmp, whole_f, eqS, lits, h2, h3, kindB, dNone, noneV, Zz.isNon]
      · by_cases h4 : k = "number" <;> simp [Zz.iteA, Zz.sSeq, Zz.sIf, Zz.sRet, Zz.sNil, Zz.sSet, Zz.sExpr, Zz.sRetN, Zz.sAsg, Zz.toTup, Zz.toCons, Zz.toNil, Zz.toName, Zz.tOrD, Zz.tAndD, Zz.tNotD, Zz.toB, Zz.toBr, Zz.toT, Zz.truD, Zz.dFn1, Zz.on1, Zz.dVar, Zz.dBin, Zz.on2, Zz.dChain, Zz.dNot, Zz.dAnd, Zz.dOr, Zz.dIf, Zz.dTup, Zz.dLst, Zz.dNil, Zz.dCons, Zz.frzs, Zz.dCall, Zz.oLe, Zz.oLt, Zz.oGt, Zz.oGe, Zz.oCmp, whole_f, eqS, lits, h1, h3, h4, kindB]
  | _ => simp [Zz.iteA, Zz.sSeq, Zz.sIf, Zz.sRet, Zz.sNil, Zz.sSet, Zz.sExpr, Zz.sRetN, Zz.sAsg, Zz.toTup, Zz.toCons, Zz.toNil, Zz.toName, Zz.tOrD, Zz.tAndD, Zz.tNotD, Zz.toB, Zz.toBr, Zz.toT, Zz.truD, Zz.dFn1, Zz.on1, Zz.dVar, Zz.dBin, Zz.on2, Zz.dChain, Zz.dNot, Zz.dAnd, Zz.dOr, Zz.dIf, Zz.dTup, Zz.dLst, Zz.dNil, Zz.dCons, Zz.frzs, Zz.dCall, Zz.oLe, Zz.oLt, Zz.oGt, Zz.oGe, Zz.oCmp, whole_f, kindB]
end K65
set_option maxRecDepth 100000
set_option maxHeartbeats 1000000
namespace K65
open PySem PySem.Spec PyProof.Rows L2 Zz
theorem cut1 (x : D) (r : List D) : Zz.cutD (x :: r) (some 1) none = r := by
  have e : HT.sIx (x :: r).length 0 (some (1 : Int)) = 1 := by
    unfold HT.sIx
    simp
  have e2 : HT.sIx (x :: r).length (x :: r).length none = (x :: r).length := by unfold HT.sIx; rfl
  unfold Zz.cutD
  rw [e, e2]
  simp
/-- what stands behind a word -/
def partsT : List (Str × List Str) := [("set", ["box", "number"]), ("copy", ["box", "box"]), ("add", ["box", "box", "box"]), ("sub", ["box", "box", "box"]), ("mul", ["box", "box", "box"]), ("less", ["box", "box", "box"]), ("same", ["box", "box", "box"]), ("jump", ["place"]), ("none", ["box", "place"]), ("mark", ["count"]), ("stop", [])]
def partsOf (w : Str) : Option (List Str) := partsT.lookup w
def zipOk (n : Int) (r : List D) (ks : List Str) : Bool := (r.zip ks).all fun p => kindB p.2 n p.1
def orderB (n : Int) : D → Bool
  | .tuple (.str w :: r) => (match partsOf w with
    | some ks => decide (r.length = ks.length) && zipOk n r ks
    | none => false)
  | _ => false
def partsV (w : Str) : D := match partsOf w with
  | some ks => .tuple (ks.map .str)
  | none => .none
theorem tabGet_f {g : Env' → M Val} {ρ : Env'} {S S1 : List Cell} {w : Str} (h : g ρ S = .ok (.d (.str w)) S1) : dTabGet ks_PARTS tbl_PARTS g ρ S = .ok (.d (partsV w)) S1 := by
  have e1 : ks_PARTS = partsT.map (·.1) := rfl
  have e2 : tbl_PARTS = partsT.map fun p => (p.1, (fun ks : List Str => Val.d (.tuple (ks.map .str))) p.2) := rfl
  unfold dTabGet
  show (g ρ S).bind _ = _
  rw [h]
  show (if ks_PARTS.contains w = true then (match tbl_PARTS.lookup w with
      | some x => Res.ok x S1
      | none => .st) else .ok (.d .none) S1) = _
  rw [e1, e2, contains_look, look_map (fun ks : List Str => Val.d (.tuple (ks.map .str)))]
  unfold partsV partsOf
  cases partsT.lookup w with
  | none => rfl
  | some ks => rfl
theorem none_word {o : D} (h : partsOf (wordD o) ≠ none) : ∃ w r, o = .tuple (.str w :: r) := by
  have e : partsOf "" = none := by decide +kernel
  cases o with
  | tuple ds =>
    match ds with
    | [] => exact absurd e h
    | x :: r =>
      cases x with
      | str w => exact ⟨w, r, rfl⟩
      | _ => exact absurd e h
  | _ => exact absurd e h
theorem order_f (o : D) (n : Int) (S : List Cell) (hz : ∀ l, o = .tuple l → l.length ≤ 16777216) : fn_is_order [.d o, .d (.int n)] S = .ok (.d (.bool (orderB n o))) S := by
  refine body_ok ?_
  show sSeq (sSet 2 (dTabGet ks_PARTS tbl_PARTS (dCall fn_word_of (dCons (dVar 0) dNil)))) _ [some (.d o), some (.d (.int n)), none, none, none] S = _
  rw [sSeq_nx (sSet_at (tabGet_f ((dCall_at (dCons_at rfl rfl)).trans (word_f o S))))]
  show sSeq _ _ [some (.d o), some (.d (.int n)), some (.d (partsV (wordD o))), none, none] S = _
  cases hp : partsOf (wordD o) with
  | none =>
    have e1 : partsV (wordD o) = .none := by unfold partsV; rw [hp]
    have e2 : orderB n o = false := by
      unfold orderB
      split
      · rename_i w r
        have : partsOf w = none := hp
        rw [this]
      · rfl
    rw [e1, e2]
    exact (sSeq_rt (show sIf _ _ _ _ S = .rt (.d (.bool false)) S from (sIf_t (tOrD_t (toB_at rfl))).trans (sRet_at rfl)))
  | some ks =>
    obtain ⟨w, r, rfl⟩ := none_word (o := o) (by rw [hp]; simp)
    have hp' : partsOf w = some ks := hp
    have e1 : partsV (wordD (.tuple (.str w :: r))) = .tuple (ks.map .str) := by unfold partsV; rw [hp]
    have e2 : orderB n (.tuple (.str w :: r)) = (decide (r.length = ks.length) && zipOk n r ks) := by
      show (match partsOf w with
        | some ks => decide (r.length = ks.length) && zipOk n r ks
        | none => false) = _
      rw [hp']
    rw [e1, e2]
    have t : (tOrD (toB (dNone true (dVar 2))) (toB (dBin oNe (dFn1 oLen (dVar 0)) (dBin oAdd (dFn1 oLen (dVar 2)) (dC (.int 1)))))) [some (.d (.tuple (.str w :: r))), some (.d (.int n)), some (.d (.tuple (ks.map .str))), none, none] S = .ok (!decide (r.length = ks.length)) S := by
      refine tOrD_f (toB_at rfl) (toB_at (dBin_at (dFn1_at rfl rfl rfl) (dBin_at (dFn1_at rfl rfl rfl) rfl rfl rfl rfl) rfl rfl ((neI _ _).trans ?_)))
      congr 3
      rw [List.length_map, List.length_cons]
      refine decide_eq_decide.mpr ⟨fun h => by omega, fun h => by omega⟩
    by_cases hl : r.length = ks.length
    · rw [decide_eq_true hl] at t ⊢
      rw [sSeq_nx (sIf_skip t), Bool.true_and]
      have hr : r.length ≤ 16777216 := by have := hz _ rfl; rw [List.length_cons] at this; omega
      have c := dLc_pure (it := itZip (dCons (dSl (dVar 0) (pSome (dC (.int 1))) pNone) (dCons (dVar 2) dNil))) (g := toTup (toCons (toName 3) (toCons (toName 4) toNil))) (ts := fun _ => M.ret true) (f := dCall fn_u_is_part (dCons (dVar 3) (dCons (dVar 4) (dCons (dVar 1) dNil)))) (vs := [3, 4])
        (ρ := [some (.d (.tuple (.str w :: r))), some (.d (.int n)), some (.d (.tuple (ks.map .str))), none, none]) (S := S) (S1 := S) (ds := (r.zip ks).map fun p => PyData.tuple [p.1, .str p.2])
        (ρ1 := fun d => match d with | .tuple [x, y] => [some (.d (.tuple (.str w :: r))), some (.d (.int n)), some (.d (.tuple (ks.map .str))), some (.d x), some (.d y)] | _ => []) (p := fun _ => true) (v := fun d => match d with | .tuple [x, .str k] => .bool (kindB k n x) | _ => .none)
        (by
          rw [← zipD_str]
          refine itZip_at (a := .tuple r) (b := .tuple (ks.map .str)) (S2 := S) (dCons_at (dSl_at rfl (pSome_at rfl rfl) rfl rfl ?_) (dCons_at rfl rfl)) rfl rfl rfl
          show some (PyData.tuple (Zz.cutD (.str w :: r) (some 1) none)) = _
          rw [cut1]) (by rw [List.length_map, List.length_zip]; omega) (fun d hd => by
          obtain ⟨p, _, rfl⟩ := List.mem_map.mp hd
          rfl) (fun d _ R => rfl) (fun d hd _ R => by
          obtain ⟨p, _, rfl⟩ := List.mem_map.mp hd
          exact (dCall_at (dCons_at rfl (dCons_at rfl (dCons_at rfl rfl)))).trans (part_f p.1 p.2 n (S ++ R)))
      refine sRet_at (dFn1_at c rfl ?_)
      rw [filter_yes, List.map_map]
      exact oAll_map (fun p : D × Str => kindB p.2 n p.1) (r.zip ks)
    · rw [decide_eq_false hl] at t ⊢
      exact sSeq_rt ((sIf_t t).trans (sRet_at rfl))
def codeB : D → Bool
  | .tuple l => decide ((1 : Int) ≤ l.length) && decide ((l.length : Int) ≤ 5000) && l.all (orderB l.length)
  | _ => false
theorem code_f (d : D) (S : List Cell) (hz : ∀ l, d = .tuple l → ∀ x ∈ l, ∀ m, x = .tuple m → m.length ≤ 16777216) : fn_is_code [.d d] S = .ok (.d (.bool (codeB d))) S := by
  refine body_ok ?_
  have t := (toT_at (ρ := [some (.d d), none]) (S := S) (f := dCall fn_is_tuple_of (dCons (dVar 0) (dCons (dC (.int 1)) (dCons (dC (.int 5000)) dNil)))) ((dCall_at (dCons_at rfl (dCons_at rfl (dCons_at rfl rfl)))).trans (tuple_of_f d 1 5000 S)) rfl rfl)
  have t2 := tNotD_at t
  show sSeq _ _ [some (.d d), none] S = _
  have no : ∀ {b : Bool}, b = false → codeB d = false → lenB 1 5000 d = b → sSeq (sIf (tNotD (toT (dCall fn_is_tuple_of (dCons (dVar 0) (dCons (dC (.int 1)) (dCons (dC (.int 5000)) dNil)))))) (sRet (dC (.bool false))) sNil) (sRet (dFn1 oAll (dLc (itAny (dVar 0)) (toName 1) (fun l => kTest (fun _ => M.ret true) (kPush l (dCall fn_is_order (dCons (dVar 1) (dCons (dFn1 oLen (dVar 0)) dNil))))) [1]))) [some (.d d), none] S = .rt (.d (.bool (codeB d))) S := by
    intro b hb hc he
    rw [he, hb] at t2
    rw [hc]
    exact sSeq_rt ((sIf_t t2).trans (sRet_at rfl))
  cases d with
  | tuple l =>
    cases hb : (decide ((1 : Int) ≤ (l.length : Int)) && decide ((l.length : Int) ≤ 5000)) with
    | false => exact no rfl (by show (decide ((1 : Int) ≤ l.length) && decide ((l.length : Int) ≤ 5000) && _) = false; rw [hb]; rfl) hb
    | true =>
      have t3 : tNotD (toT (dCall fn_is_tuple_of (dCons (dVar 0) (dCons (dC (.int 1)) (dCons (dC (.int 5000)) dNil))))) [some (.d (.tuple l)), none] S = .ok false S := by
        have z := t2
        rw [show lenB 1 5000 (.tuple l) = true from hb] at z
        exact z
      show sSeq _ _ _ _ = .rt (.d (.bool (decide ((1 : Int) ≤ l.length) && decide ((l.length : Int) ≤ 5000) && l.all (orderB l.length)))) S
      rw [hb, Bool.true_and, sSeq_nx (sIf_skip t3)]
      have hl : l.length ≤ 5000 := by
        rw [Bool.and_eq_true, decide_eq_true_eq, decide_eq_true_eq] at hb
        omega
      have c := dLc_pure (it := itAny (dVar 0)) (g := toName 1) (ts := fun _ => M.ret true) (f := dCall fn_is_order (dCons (dVar 1) (dCons (dFn1 oLen (dVar 0)) dNil))) (vs := [1]) (ρ := [some (.d (.tuple l)), none]) (S := S) (S1 := S) (ds := l)
        (ρ1 := fun d => [some (.d (.tuple l)), some (.d d)]) (p := fun _ => true) (v := fun d => .bool (orderB l.length d)) (itAny_at (d := .tuple l) rfl rfl) (by omega) (fun d _ => rfl) (fun d _ R => rfl)
        (fun d hd _ R => (dCall_at (dCons_at rfl (dCons_at (dFn1_at rfl rfl (show oLen (.tuple l) = some (.int l.length) from rfl)) rfl))).trans (order_f d l.length (S ++ R) (hz l rfl d hd)))
      refine sRet_at (dFn1_at c rfl ?_)
      rw [filter_yes]
      exact oAll_map (orderB l.length) l
  | _ => exact no rfl rfl rfl
end K65
set_option maxRecDepth 100000
set_option maxHeartbeats 1000000
namespace K65
open PySem PySem.Spec PyProof.Rows L2 Zz
def rowsS : List (Str × Str) := [("set", "bn"), ("copy", "bb"), ("jump", "p"), ("none", "bp"), ("mark", "k"), ("stop", ""), ("add", "bbb"), ("sub", "bbb"), ("mul", "bbb"), ("less", "bbb"), ("same", "bbb")]
def rowsD : List D := rowsS.map fun p => .tuple [.str p.1, .str p.2]
theorem shapes_f (S : List Cell) : fn_u_law_shapes [] S = .ok (.d (.list rowsD)) S := by
  refine body_ok ?_
  show sSeq _ _ [none, none] S = _
  rw [sSeq_nx (sSet_at (dLst_at (ds := [.tuple [.str "set", .str "bn"], .tuple [.str "copy", .str "bb"], .tuple [.str "jump", .str "p"], .tuple [.str "none", .str "bp"], .tuple [.str "mark", .str "k"], .tuple [.str "stop", .str ""]]) (xs := [.d (.tuple [.str "set", .str "bn"]), .d (.tuple [.str "copy", .str "bb"]), .d (.tuple [.str "jump", .str "p"]), .d (.tuple [.str "none", .str "bp"]), .d (.tuple [.str "mark", .str "k"]), .d (.tuple [.str "stop", .str ""])]) rfl rfl (by decide)))]
  have c := dLc_pure (it := itAny (dTup (dCons (dC (.str "add")) (dCons (dC (.str "sub")) (dCons (dC (.str "mul")) (dCons (dC (.str "less")) (dCons (dC (.str "same")) dNil))))))) (g := toName 1) (ts := fun _ => M.ret true) (f := dTup (dCons (dVar 1) (dCons (dC (.str "bbb")) dNil))) (vs := [1])
    (ρ := [some (.d (.list [.tuple [.str "set", .str "bn"], .tuple [.str "copy", .str "bb"], .tuple [.str "jump", .str "p"], .tuple [.str "none", .str "bp"], .tuple [.str "mark", .str "k"], .tuple [.str "stop", .str ""]])), none]) (S := S) (S1 := S) (ds := [.str "add", .str "sub", .str "mul", .str "less", .str "same"])
    (ρ1 := fun d => [some (.d (.list [.tuple [.str "set", .str "bn"], .tuple [.str "copy", .str "bb"], .tuple [.str "jump", .str "p"], .tuple [.str "none", .str "bp"], .tuple [.str "mark", .str "k"], .tuple [.str "stop", .str ""]])), some (.d d)]) (p := fun _ => true) (v := fun d => .tuple [d, .str "bbb"]) rfl (by decide) (fun d _ => rfl) (fun d _ R => rfl) (fun d _ _ R => rfl)
  exact sRet_at (dBin_at rfl c rfl rfl rfl)
/-- the sign of a kind -/
def sgn (k : Str) : Str := if k = "box" then "b" else if k = "number" then "n" else if k = "place" then "p" else "k"
def four : List Str := ["box", "number", "place", "count"]
def sgOf (w : Str) : List Str := (rowsS.filter fun p => decide (p.1 = w)).map (·.2)
def chars (x : Str) : List Str := x.cps.toList.map fun c => ⟨#[c]⟩
def okW (w : Str) : Bool := match partsOf w, sgOf w with
  | some ks, [sg] => decide (chars sg = ks.map sgn) && (ks.all fun k => four.contains k) && SeqAt.shaped (.list [.str sg]) && decide (sg.length ≤ 16777216)
  | none, [] => true
  | _, _ => false
theorem okW_all (w : Str) : okW w = true := by
  by_cases h : w ∈ partsT.map (·.1)
  · exact (by decide +kernel : ∀ w ∈ partsT.map (·.1), okW w = true) w h
  · have e1 : partsOf w = none := by
      have z := contains_look w partsT
      unfold partsOf
      cases q : partsT.lookup w with
      | none => rfl
      | some x =>
        rw [q] at z
        exact absurd (List.contains_iff_mem.mp z) h
    have e2 : sgOf w = [] := by
      unfold sgOf
      rw [List.filter_eq_nil_iff.mpr fun p hp hw => h ?_]
      · rfl
      · have hk : ∀ p ∈ rowsS, p.1 ∈ partsT.map (·.1) := by decide +kernel
        rw [← of_decide_eq_true hw]
        exact hk p hp
    unfold okW
    rw [e1, e2]
abbrev pairB : SD := (sSeq (sIf (tOrD (tNotD (toB (dFn1 (oIsB "int") (dVar 4)))) (tOrD (toB (dFn1 (oIsB "bool") (dVar 4))) (tAndD (toB (dBin oNe (dVar 3) (dC (.str "n")))) (toB (dBin oLt (dVar 4) (dC (.int 0))))))) (sRet (dC (.bool false))) sNil) (sIf (tOrD (tAndD (toB (dBin oEq (dVar 3) (dC (.str "b")))) (toB (dBin oGt (dVar 4) (dC (.int 999))))) (tAndD (toB (dBin oEq (dVar 3) (dC (.str "p")))) (toB (dBin oGe (dVar 4) (dFn1 oLen (dVar 0)))))) (sRet (dC (.bool false))) sNil))
theorem lits2 : ¬ (("b" : Str) = "n") ∧ ¬ (("b" : Str) = "p") ∧ ¬ (("n" : Str) = "b") ∧ ¬ (("n" : Str) = "p") ∧ ¬ (("p" : Str) = "n") ∧ ¬ (("p" : Str) = "b") ∧ ¬ (("k" : Str) = "n") ∧ ¬ (("k" : Str) = "b") ∧ ¬ (("k" : Str) = "p") := by decide +kernel
theorem sgns : sgn "box" = "b" ∧ sgn "number" = "n" ∧ sgn "place" = "p" ∧ sgn "count" = "k" := by decide +kernel
theorem pair_f (l : List D) (k : Str) (hk : k ∈ four) (x : D) (o s e : Option Val) (S : List Cell) : pairB [some (.d (.tuple l)), o, s, some (.d (.str (sgn k))), some (.d x), e] S = if kindB k l.length x = true then .nx [some (.d (.tuple l)), o, s, some (.d (.str (sgn k))), some (.d x), e] S else .rt (.d (.bool false)) S := by
  have h4 : k = "box" ∨ k = "number" ∨ k = "place" ∨ k = "count" := by
    simpa [four] using hk
  cases x with
  | int i =>
    rcases h4 with rfl | rfl | rfl | rfl
    · by_cases h0 : 0 ≤ i
      · have h0' : ¬ i < 0 := by omega
        by_cases h1 : i < 1000
        · have h1' : ¬ 999 < i := by omega
          simp [Zz.iteA, Zz.sSeq, Zz.sIf, Zz.sRet, Zz.sNil, Zz.sSet, Zz.sExpr, Zz.sRetN, Zz.sAsg, Zz.toTup, Zz.toCons, Zz.toNil, Zz.toName, Zz.tOrD, Zz.tAndD, Zz.tNotD, Zz.toB, Zz.toBr, Zz.toT, Zz.truD, Zz.dFn1, Zz.on1, Zz.dVar, Zz.dBin, Zz.on2, Zz.dChain, Zz.dNot, Zz.dAnd, Zz.dOr, Zz.dIf, Zz.dTup, Zz.dLst, Zz.dNil, Zz.dCons, Zz.frzs, Zz.dCall, Zz.oLe, Zz.oLt, Zz.oGt, Zz.oGe, Zz.oCmp, oIsB, isB, eqS, neS, oLen, lits, lits2, sgns, kindB, h0, h0', h1, h1']
        · have h1' : 999 < i := by omega
          simp [Zz.iteA, Zz.sSeq, Zz.sIf, Zz.sRet, Zz.sNil, Zz.sSet, Zz.sExpr, Zz.sRetN, Zz.sAsg, Zz.toTup, Zz.toCons, Zz.toNil, Zz.toName, Zz.tOrD, Zz.tAndD, Zz.tNotD, Zz.toB, Zz.toBr, Zz.toT, Zz.truD, Zz.dFn1, Zz.on1, Zz.dVar, Zz.dBin, Zz.on2, Zz.dChain, Zz.dNot, Zz.dAnd, Zz.dOr, Zz.dIf, Zz.dTup, Zz.dLst, Zz.dNil, Zz.dCons, Zz.frzs, Zz.dCall, Zz.oLe, Zz.oLt, Zz.oGt, Zz.oGe, Zz.oCmp, oIsB, isB, eqS, neS, oLen, lits, lits2, sgns, kindB, h0, h0', h1, h1']
      · have h0' : i < 0 := by omega
        simp [Zz.iteA, Zz.sSeq, Zz.sIf, Zz.sRet, Zz.sNil, Zz.sSet, Zz.sExpr, Zz.sRetN, Zz.sAsg, Zz.toTup, Zz.toCons, Zz.toNil, Zz.toName, Zz.tOrD, Zz.tAndD, Zz.tNotD, Zz.toB, Zz.toBr, Zz.toT, Zz.truD, Zz.dFn1, Zz.on1, Zz.dVar, Zz.dBin, Zz.on2, Zz.dChain, Zz.dNot, Zz.dAnd, Zz.dOr, Zz.dIf, Zz.dTup, Zz.dLst, Zz.dNil, Zz.dCons, Zz.frzs, Zz.dCall, Zz.oLe, Zz.oLt, Zz.oGt, Zz.oGe, Zz.oCmp, oIsB, isB, eqS, neS, oLen, lits, lits2, sgns, kindB, h0, h0']
    · simp [Zz.iteA, Zz.sSeq, Zz.sIf, Zz.sRet, Zz.sNil, Zz.sSet, Zz.sExpr, Zz.sRetN, Zz.sAsg, Zz.toTup, Zz.toCons, Zz.toNil, Zz.toName, Zz.tOrD, Zz.tAndD, Zz.tNotD, Zz.toB, Zz.toBr, Zz.toT, Zz.truD, Zz.dFn1, Zz.on1, Zz.dVar, Zz.dBin, Zz.on2, Zz.dChain, Zz.dNot, Zz.dAnd, Zz.dOr, Zz.dIf, Zz.dTup, Zz.dLst, Zz.dNil, Zz.dCons, Zz.frzs, Zz.dCall, Zz.oLe, Zz.oLt, Zz.oGt, Zz.oGe, Zz.oCmp, oIsB, isB, eqS, neS, oLen, lits, lits2, sgns, kindB]
    · by_cases h0 : 0 ≤ i
      · have h0' : ¬ i < 0 := by omega
        by_cases h1 : i < l.length
        · have h1' : ¬ (l.length : Int) ≤ i := by omega
          simp [Zz.iteA, Zz.sSeq, Zz.sIf, Zz.sRet, Zz.sNil, Zz.sSet, Zz.sExpr, Zz.sRetN, Zz.sAsg, Zz.toTup, Zz.toCons, Zz.toNil, Zz.toName, Zz.tOrD, Zz.tAndD, Zz.tNotD, Zz.toB, Zz.toBr, Zz.toT, Zz.truD, Zz.dFn1, Zz.on1, Zz.dVar, Zz.dBin, Zz.on2, Zz.dChain, Zz.dNot, Zz.dAnd, Zz.dOr, Zz.dIf, Zz.dTup, Zz.dLst, Zz.dNil, Zz.dCons, Zz.frzs, Zz.dCall, Zz.oLe, Zz.oLt, Zz.oGt, Zz.oGe, Zz.oCmp, oIsB, isB, eqS, neS, oLen, lits, lits2, sgns, kindB, h0, h0', h1, h1']
        · have h1' : (l.length : Int) ≤ i := by omega
          simp [Zz.iteA, Zz.sSeq, Zz.sIf, Zz.sRet, Zz.sNil, Zz.sSet, Zz.sExpr, Zz.sRetN, Zz.sAsg, Zz.toTup, Zz.toCons, Zz.toNil, Zz.toName, Zz.tOrD, Zz.tAndD, Zz.tNotD, Zz.toB, Zz.toBr, Zz.toT, Zz.truD, Zz.dFn1, Zz.on1, Zz.dVar, Zz.dBin, Zz.on2, Zz.dChain, Zz.dNot, Zz.dAnd, Zz.dOr, Zz.dIf, Zz.dTup, Zz.dLst, Zz.dNil, Zz.dCons, Zz.frzs, Zz.dCall, Zz.oLe, Zz.oLt, Zz.oGt, Zz.oGe, Zz.oCmp, oIsB, isB, eqS, neS, oLen, lits, lits2, sgns, kindB, h0, h0', h1, h1']
      · have h0' : i < 0 := by omega
        simp [Zz.iteA, Zz.sSeq, Zz.sIf, Zz.sRet, Zz.sNil, Zz.sSet, Zz.sExpr, Zz.sRetN, Zz.sAsg, Zz.toTup, Zz.toCons, Zz.toNil, Zz.toName, Zz.tOrD, Zz.tAndD, Zz.tNotD, Zz.toB, Zz.toBr, Zz.toT, Zz.truD, Zz.dFn1, Zz.on1, Zz.dVar, Zz.dBin, Zz.on2, Zz.dChain, Zz.dNot, Zz.dAnd, Zz.dOr, Zz.dIf, Zz.dTup, Zz.dLst, Zz.dNil, Zz.dCons, Zz.frzs, Zz.dCall, Zz.oLe, Zz.oLt, Zz.oGt, Zz.oGe, Zz.oCmp, oIsB, isB, eqS, neS, oLen, lits, lits2, sgns, kindB, h0, h0']
    · by_cases h0 : 0 ≤ i
      · have h0' : ¬ i < 0 := by omega
        simp [Zz.iteA, Zz.sSeq, Zz.sIf, Zz.sRet, Zz.sNil, Zz.sSet, Zz.sExpr, Zz.sRetN, Zz.sAsg, Zz.toTup, Zz.toCons, Zz.toNil, Zz.toName, Zz.tOrD, Zz.tAndD, Zz.tNotD, Zz.toB, Zz.toBr, Zz.toT, Zz.truD, Zz.dFn1, Zz.on1, Zz.dVar, Zz.dBin, Zz.on2, Zz.dChain, Zz.dNot, Zz.dAnd, Zz.dOr, Zz.dIf, Zz.dTup, Zz.dLst, Zz.dNil, Zz.dCons, Zz.frzs, Zz.dCall, Zz.oLe, Zz.oLt, Zz.oGt, Zz.oGe, Zz.oCmp, oIsB, isB, eqS, neS, oLen, lits, lits2, sgns, kindB, h0, h0']
      · have h0' : i < 0 := by omega
        simp [Zz.iteA, Zz.sSeq, Zz.sIf, Zz.sRet, Zz.sNil, Zz.sSet, Zz.sExpr, Zz.sRetN, Zz.sAsg, Zz.toTup, Zz.toCons, Zz.toNil, Zz.toName, Zz.tOrD, Zz.tAndD, Zz.tNotD, Zz.toB, Zz.toBr, Zz.toT, Zz.truD, Zz.dFn1, Zz.on1, Zz.dVar, Zz.dBin, Zz.on2, Zz.dChain, Zz.dNot, Zz.dAnd, Zz.dOr, Zz.dIf, Zz.dTup, Zz.dLst, Zz.dNil, Zz.dCons, Zz.frzs, Zz.dCall, Zz.oLe, Zz.oLt, Zz.oGt, Zz.oGe, Zz.oCmp, oIsB, isB, eqS, neS, oLen, lits, lits2, sgns, kindB, h0, h0']
  | _ => simp [Zz.iteA, Zz.sSeq, Zz.sIf, Zz.sRet, Zz.sNil, Zz.sSet, Zz.sExpr, Zz.sRetN, Zz.sAsg, Zz.toTup, Zz.toCons, Zz.toNil, Zz.toName, Zz.tOrD, Zz.tAndD, Zz.tNotD, Zz.toB, Zz.toBr, Zz.toT, Zz.truD, Zz.dFn1, Zz.on1, Zz.dVar, Zz.dBin, Zz.on2, Zz.dChain, Zz.dNot, Zz.dAnd, Zz.dOr, Zz.dIf, Zz.dTup, Zz.dLst, Zz.dNil, Zz.dCons, Zz.frzs, Zz.dCall, Zz.oLe, Zz.oLt, Zz.oGt, Zz.oGe, Zz.oCmp, oIsB, isB, kindB]
end K65
set_option maxRecDepth 100000
set_option maxHeartbeats 1000000
namespace K65
open PySem PySem.Spec PyProof.Rows L2 Zz
section
variable {ρ : Env'} {S S' : List Cell}
theorem tNotD_t {t : Env' → M Bool} (h : t ρ S = .ok false S') : tNotD t ρ S = .ok true S' := tNotD_at h
theorem tNotD_f {t : Env' → M Bool} (h : t ρ S = .ok true S') : tNotD t ρ S = .ok false S' := tNotD_at h
end
abbrev tgP : Tg := (toTup (toCons (toName 3) (toCons (toName 4) toNil)))
theorem pairs_loop (l : List D) (o s e : Option Val) (S : List Cell) : ∀ (P : List (Str × D)), (∀ p ∈ P, p.1 ∈ four) → ∀ a3 a4 : Option Val, ∃ b3 b4 : Option Val,
    forGo tgP pairB (P.map fun p : Str × D => PyData.tuple [.str (sgn p.1), p.2]) [some (.d (.tuple l)), o, s, a3, a4, e] S = if (P.all fun p : Str × D => kindB p.1 l.length p.2) = true then .nx [some (.d (.tuple l)), o, s, b3, b4, e] S else .rt (.d (.bool false)) S
  | [], _, a3, a4 => ⟨a3, a4, rfl⟩
  | (k, x) :: P, h, a3, a4 => by
    obtain ⟨b3, b4, ih⟩ := pairs_loop l o s e S P (fun p hp => h p (List.mem_cons_of_mem _ hp)) (some (.d (.str (sgn k)))) (some (.d x))
    refine ⟨b3, b4, ?_⟩
    have st := pair_f l k (h _ List.mem_cons_self) x o s e S
    show (match pairB [some (.d (.tuple l)), o, s, some (.d (.str (sgn k))), some (.d x), e] S with | .nx ρ2 S2 => forGo tgP pairB (P.map fun p : Str × D => PyData.tuple [.str (sgn p.1), p.2]) ρ2 S2 | .ct ρ2 S2 => forGo tgP pairB (P.map fun p : Str × D => PyData.tuple [.str (sgn p.1), p.2]) ρ2 S2 | .bk ρ2 S2 => .nx ρ2 S2 | .rt v S2 => .rt v S2 | .ex x ρ2 S2 => .ex x ρ2 S2 | .st => .st) = _
    rw [st, List.all_cons]
    cases hb : kindB k l.length x with
    | true =>
      rw [if_pos rfl, Bool.true_and]
      exact ih
    | false =>
      rw [if_neg Bool.false_ne_true, Bool.false_and, if_neg Bool.false_ne_true]
abbrev ordB : SD := (sSeq (sIf (tOrD (tNotD (toB (dFn1 (oIsB "tuple") (dVar 1)))) (tOrD (toB (dBin oEqT (dVar 1) (dTup dNil))) (tNotD (toB (dFn1 (oIsB "str") (dBin oIx (dVar 1) (dC (.int 0)))))))) (sRet (dC (.bool false))) sNil) (sSeq (sSet 2 (dLc (itAny (dCall fn_u_law_shapes fun _ => M.ret [])) (toName 5) (fun l => kTest (toB (dBin oEq (dBin oIx (dVar 5) (dC (.int 0))) (dBin oIx (dVar 1) (dC (.int 0))))) (kPush l (dBin oIx (dVar 5) (dC (.int 1))))) [5])) (sSeq (sIf (tOrD (toB (dBin oEq (dVar 2) (dLst dNil))) (toB (dBin oNe (dBin oAdd (dFn1 oLen (dBin oIx (dVar 2) (dC (.int 0)))) (dC (.int 1))) (dFn1 oLen (dVar 1))))) (sRet (dC (.bool false))) sNil) (sFor (itZip (dCons (dBin oIx (dVar 2) (dC (.int 0))) (dCons (dSl (dVar 1) (pSome (dC (.int 1))) pNone) dNil))) tgP pairB))))
theorem signs_f (l r : List D) (w : Str) (a2 a3 a4 a5 : Option Val) (S : List Cell) : dLc (itAny (dCall fn_u_law_shapes fun _ => M.ret [])) (toName 5) (fun l => kTest (toB (dBin oEq (dBin oIx (dVar 5) (dC (.int 0))) (dBin oIx (dVar 1) (dC (.int 0))))) (kPush l (dBin oIx (dVar 5) (dC (.int 1))))) [5]
    [some (.d (.tuple l)), some (.d (.tuple (.str w :: r))), a2, a3, a4, a5] S = .ok (.d (.list ((sgOf w).map .str))) S := by
  rw [dLc_pure (ds := rowsD) (S1 := S) (ρ1 := fun d => [some (.d (.tuple l)), some (.d (.tuple (.str w :: r))), a2, a3, a4, some (.d d)]) (p := fun d => match d with | .tuple [.str a, b] => decide (a = w) | _ => false) (v := fun d => match d with | .tuple [a, b] => b | _ => .none)
    (itAny_at (d := .list rowsD) ((dCall_at (xs := []) rfl).trans (shapes_f S)) rfl) (by decide) (fun d hd => rfl) (fun d hd R => ?_) fun d hd _ R => ?_]
  · show Res.ok (Val.d (.list ((rowsD.filter _).map _))) S = _
    unfold sgOf rowsD
    rw [List.filter_map, List.map_map, List.map_map]
    rfl
  · obtain ⟨p, _, rfl⟩ := List.mem_map.mp hd
    exact toB_at (dBin_at (dBin_at rfl rfl rfl rfl (atI0 _ _)) (dBin_at rfl rfl rfl rfl (atI0 _ _)) rfl rfl (eqS _ _))
  · obtain ⟨p, _, rfl⟩ := List.mem_map.mp hd
    exact dBin_at rfl rfl rfl rfl (atI1 _ _ _)
theorem zip_swap (n : Int) : ∀ (r : List D) (ks : List Str), ((ks.zip r).all fun p => kindB p.1 n p.2) = zipOk n r ks
  | [], [] => rfl
  | [], _ :: _ => rfl
  | _ :: _, [] => rfl
  | x :: r, k :: ks => by
    show (kindB k n x && (ks.zip r).all _) = (kindB k n x && zipOk n r ks)
    rw [zip_swap n r ks]
theorem zipD_sgn : ∀ (ks : List Str) (r : List D), zipD ((ks.map sgn).map .str) r = (ks.zip r).map fun p => PyData.tuple [.str (sgn p.1), p.2]
  | [], _ => rfl
  | _ :: _, [] => rfl
  | k :: ks, x :: r => by
    show _ :: zipD ((ks.map sgn).map .str) r = _ :: _
    rw [zipD_sgn ks r]; rfl
theorem ord_f (l : List D) (o : D) (a2 a3 a4 a5 : Option Val) (S : List Cell) : ∃ b2 b3 b4 b5 : Option Val, ordB [some (.d (.tuple l)), some (.d o), a2, a3, a4, a5] S = if orderB l.length o = true then .nx [some (.d (.tuple l)), some (.d o), b2, b3, b4, b5] S else .rt (.d (.bool false)) S := by
  have no : orderB l.length o = false → tOrD (tNotD (toB (dFn1 (oIsB "tuple") (dVar 1)))) (tOrD (toB (dBin oEqT (dVar 1) (dTup dNil))) (tNotD (toB (dFn1 (oIsB "str") (dBin oIx (dVar 1) (dC (.int 0))))))) [some (.d (.tuple l)), some (.d o), a2, a3, a4, a5] S = .ok true S →
      ∃ b2 b3 b4 b5 : Option Val, ordB [some (.d (.tuple l)), some (.d o), a2, a3, a4, a5] S = if orderB l.length o = true then .nx [some (.d (.tuple l)), some (.d o), b2, b3, b4, b5] S else .rt (.d (.bool false)) S := fun h t => by
    refine ⟨none, none, none, none, ?_⟩
    rw [h, if_neg Bool.false_ne_true]
    exact sSeq_rt ((sIf_t t).trans (sRet_at rfl))
  cases o with
  | tuple ds =>
    match ds with
    | [] => exact no rfl (tOrD_f (tNotD_f (toB_at (dFn1_at rfl rfl rfl))) (tOrD_t (toB_at (dBin_at rfl rfl rfl rfl rfl))))
    | x :: r =>
      cases x with
      | str w =>
        have t1 : tOrD (tNotD (toB (dFn1 (oIsB "tuple") (dVar 1)))) (tOrD (toB (dBin oEqT (dVar 1) (dTup dNil))) (tNotD (toB (dFn1 (oIsB "str") (dBin oIx (dVar 1) (dC (.int 0))))))) [some (.d (.tuple l)), some (.d (.tuple (.str w :: r))), a2, a3, a4, a5] S = .ok false S :=
          tOrD_f (tNotD_f (toB_at (dFn1_at rfl rfl rfl))) (tOrD_f (toB_at (dBin_at rfl rfl rfl rfl rfl)) (tNotD_f (toB_at (dFn1_at (dBin_at rfl rfl rfl rfl (atI0 _ _)) rfl rfl))))
        have s2 := signs_f l r w a2 a3 a4 a5 S
        have hw := okW_all w
        have hob : orderB l.length (.tuple (.str w :: r)) = (match partsOf w with
          | some ks => decide (r.length = ks.length) && zipOk l.length r ks
          | none => false) := rfl
        unfold okW at hw
        cases hp : partsOf w with
        | none =>
          rw [hp] at hw hob
          dsimp only at hob
          cases hs : sgOf w with
          | cons a b => rw [hs] at hw; cases hw
          | nil =>
            rw [hs] at s2
            refine ⟨none, none, none, none, ?_⟩
            rw [hob, if_neg Bool.false_ne_true]
            show sSeq _ _ _ S = _
            rw [sSeq_nx (sIf_skip t1), sSeq_nx (sSet_at s2)]
            exact sSeq_rt ((sIf_t (tOrD_t (toB_at (dBin_at rfl (dLst_at (xs := []) (ds := []) rfl rfl (by decide)) rfl rfl rfl)))).trans (sRet_at rfl))
        | some ks =>
          rw [hp] at hw hob
          dsimp only at hob
          cases hs : sgOf w with
          | nil => rw [hs] at hw; cases hw
          | cons sg b =>
            cases b with
            | cons c d => rw [hs] at hw; cases hw
            | nil =>
              rw [hs] at hw s2
              simp only [Bool.and_eq_true, decide_eq_true_eq] at hw
              obtain ⟨⟨⟨h1, h2⟩, h3⟩, h4⟩ := hw
              have hlen : (sg.length : Int) = ks.length := by
                have z := congrArg List.length h1
                unfold chars at z
                rw [List.length_map, List.length_map, size_len] at z
                omega
              have t2 : (tOrD (toB (dBin oEq (dVar 2) (dLst dNil))) (toB (dBin oNe (dBin oAdd (dFn1 oLen (dBin oIx (dVar 2) (dC (.int 0)))) (dC (.int 1))) (dFn1 oLen (dVar 1))))) [some (.d (.tuple l)), some (.d (.tuple (.str w :: r))), some (.d (.list [.str sg])), a3, a4, a5] S = .ok (!decide (r.length = ks.length)) S := by
                refine tOrD_f (toB_at (dBin_at rfl (dLst_at (xs := []) (ds := []) rfl rfl (by decide)) rfl rfl ?_)) (toB_at (dBin_at (dBin_at (dFn1_at (dBin_at rfl rfl rfl rfl (atI0 _ _)) rfl (show oLen (.str sg) = some (.int sg.length) from if_pos h4)) rfl rfl rfl (add_at _ _)) (dFn1_at rfl rfl (show oLen (.tuple (.str w :: r)) = some (.int (List.length (.str w :: r))) from rfl)) rfl rfl ((neI _ _).trans ?_)))
                · show (eqD (.list [.str sg]) (.list [])).map PyData.bool = _
                  unfold eqD
                  rw [if_neg (by simp [flatD]), h3]
                  rfl
                · congr 3
                  refine decide_eq_decide.mpr ⟨fun h => ?_, fun h => ?_⟩
                  · rw [hlen] at h
                    rw [List.length_cons] at h
                    omega
                  · rw [hlen, List.length_cons]
                    omega
              by_cases hl : r.length = ks.length
              · obtain ⟨b3, b4, lo⟩ := pairs_loop l (some (.d (.tuple (.str w :: r)))) (some (.d (.list [.str sg]))) a5 S (ks.zip r) (fun p hp => List.contains_iff_mem.mp (List.all_eq_true.mp h2 _ (List.of_mem_zip hp).1)) a3 a4
                refine ⟨some (.d (.list [.str sg])), b3, b4, a5, ?_⟩
                rw [hob, decide_eq_true hl, Bool.true_and]
                rw [decide_eq_true hl] at t2
                show sSeq _ _ _ S = _
                rw [sSeq_nx (sIf_skip t1), sSeq_nx (sSet_at s2)]
                show sSeq _ _ [some (.d (.tuple l)), some (.d (.tuple (.str w :: r))), some (.d (.list [.str sg])), a3, a4, a5] S = _
                rw [sSeq_nx (sIf_skip t2)]
                have it : itZip (dCons (dBin oIx (dVar 2) (dC (.int 0))) (dCons (dSl (dVar 1) (pSome (dC (.int 1))) pNone) dNil)) [some (.d (.tuple l)), some (.d (.tuple (.str w :: r))), some (.d (.list [.str sg])), a3, a4, a5] S = .ok ((ks.zip r).map fun p => PyData.tuple [.str (sgn p.1), p.2]) S := by
                  rw [← zipD_sgn, ← h1]
                  refine itZip_at (a := .str sg) (b := .tuple r) (S2 := S) (dCons_at (dBin_at rfl rfl rfl rfl (atI0 _ _)) (dCons_at (dSl_at rfl (pSome_at rfl rfl) rfl rfl ?_) rfl)) rfl ?_ rfl
                  · show some (PyData.tuple (Zz.cutD (.str w :: r) (some 1) none)) = _
                    rw [cut1]
                  · show some _ = some _
                    unfold chars
                    rw [List.map_map]
                    rfl
                rw [sFor_at it, lo, zip_swap]
              · refine ⟨none, none, none, none, ?_⟩
                rw [hob, decide_eq_false hl, Bool.false_and, if_neg Bool.false_ne_true]
                rw [decide_eq_false hl] at t2
                show sSeq _ _ _ S = _
                rw [sSeq_nx (sIf_skip t1), sSeq_nx (sSet_at s2)]
                exact sSeq_rt ((sIf_t t2).trans (sRet_at rfl))
      | _ => exact no rfl (tOrD_f (tNotD_f (toB_at (dFn1_at rfl rfl rfl))) (tOrD_f (toB_at (dBin_at rfl rfl rfl rfl rfl)) (tNotD_t (toB_at (dFn1_at (dBin_at rfl rfl rfl rfl (atI0 _ _)) rfl rfl)))))
  | _ => exact no rfl (tOrD_t (tNotD_t (toB_at (dFn1_at rfl rfl rfl))))
theorem ords_loop (l : List D) (S : List Cell) : ∀ (os : List D) (a1 a2 a3 a4 a5 : Option Val), ∃ b1 b2 b3 b4 b5 : Option Val,
    forGo (toName 1) ordB os [some (.d (.tuple l)), a1, a2, a3, a4, a5] S = if (os.all (orderB l.length)) = true then .nx [some (.d (.tuple l)), b1, b2, b3, b4, b5] S else .rt (.d (.bool false)) S
  | [], a1, a2, a3, a4, a5 => ⟨a1, a2, a3, a4, a5, rfl⟩
  | o :: os, a1, a2, a3, a4, a5 => by
    obtain ⟨c2, c3, c4, c5, st⟩ := ord_f l o a2 a3 a4 a5 S
    obtain ⟨b1, b2, b3, b4, b5, ih⟩ := ords_loop l S os (some (.d o)) c2 c3 c4 c5
    refine ⟨b1, b2, b3, b4, b5, ?_⟩
    show (match ordB [some (.d (.tuple l)), some (.d o), a2, a3, a4, a5] S with | .nx ρ2 S2 => forGo (toName 1) ordB os ρ2 S2 | .ct ρ2 S2 => forGo (toName 1) ordB os ρ2 S2 | .bk ρ2 S2 => .nx ρ2 S2 | .rt v S2 => .rt v S2 | .ex x ρ2 S2 => .ex x ρ2 S2 | .st => .st) = _
    rw [st, List.all_cons]
    cases hb : orderB l.length o with
    | true =>
      rw [if_pos rfl, Bool.true_and]
      exact ih
    | false => rw [if_neg Bool.false_ne_true, Bool.false_and, if_neg Bool.false_ne_true]
theorem law_is_f (d : D) (S : List Cell) : fn_u_law_is [.d d] S = .ok (.d (.bool (codeB d))) S := by
  refine body_ok ?_
  show sSeq _ _ [some (.d d), none, none, none, none, none] S = _
  have no : codeB d = false → tOrD (tNotD (toB (dFn1 (oIsB "tuple") (dVar 0)))) (tNotD (toB (dChain oLt oLt (dC (.int 0)) (dFn1 oLen (dVar 0)) (dC (.int 5001))))) [some (.d d), none, none, none, none, none] S = .ok true S →
      sSeq (sIf (tOrD (tNotD (toB (dFn1 (oIsB "tuple") (dVar 0)))) (tNotD (toB (dChain oLt oLt (dC (.int 0)) (dFn1 oLen (dVar 0)) (dC (.int 5001)))))) (sRet (dC (.bool false))) sNil) (sSeq (sFor (itAny (dVar 0)) (toName 1) ordB) (sRet (dC (.bool true)))) [some (.d d), none, none, none, none, none] S = .rt (.d (.bool (codeB d))) S := fun h t => by
    rw [h]
    exact sSeq_rt ((sIf_t t).trans (sRet_at rfl))
  cases d with
  | tuple l =>
    have ch : dChain oLt oLt (dC (.int 0)) (dFn1 oLen (dVar 0)) (dC (.int 5001)) [some (.d (.tuple l)), none, none, none, none, none] S = .ok (.d (.bool (decide ((1 : Int) ≤ l.length) && decide ((l.length : Int) ≤ 5000)))) S := by
      have e1 : ((0 : Int) < (l.length : Int)) = ((1 : Int) ≤ l.length) := propext ⟨fun h => by omega, fun h => by omega⟩
      have e2 : ((l.length : Int) < 5001) = ((l.length : Int) ≤ 5000) := propext ⟨fun h => by omega, fun h => by omega⟩
      by_cases h : (1 : Int) ≤ l.length
      · have h' : (0 : Int) < (l.length : Int) := by omega
        have h'' : l ≠ [] := fun z => by rw [z] at h'; simp at h'
        by_cases h2 : (l.length : Int) ≤ 5000
        · have h2' : (l.length : Int) < 5001 := by omega
          have h3 : l.length ≤ 5000 := by omega
          have h4 : 1 ≤ l.length := by omega
          have h5 : 0 < l.length := by omega
          have h6 : l.length < 5001 := by omega
          simp [Zz.iteA, Zz.sSeq, Zz.sIf, Zz.sRet, Zz.sNil, Zz.sSet, Zz.sExpr, Zz.sRetN, Zz.sAsg, Zz.toTup, Zz.toCons, Zz.toNil, Zz.toName, Zz.tOrD, Zz.tAndD, Zz.tNotD, Zz.toB, Zz.toBr, Zz.toT, Zz.truD, Zz.dFn1, Zz.on1, Zz.dVar, Zz.dBin, Zz.on2, Zz.dChain, Zz.dNot, Zz.dAnd, Zz.dOr, Zz.dIf, Zz.dTup, Zz.dLst, Zz.dNil, Zz.dCons, Zz.frzs, Zz.dCall, Zz.oLe, Zz.oLt, Zz.oGt, Zz.oGe, Zz.oCmp, oLen, h, h', h2, h2', h3, h4, h5, h6]
        · have h2' : ¬ (l.length : Int) < 5001 := by omega
          have h3 : ¬ l.length ≤ 5000 := by omega
          have h4 : 1 ≤ l.length := by omega
          have h5 : 0 < l.length := by omega
          have h6 : ¬ l.length < 5001 := by omega
          simp [Zz.iteA, Zz.sSeq, Zz.sIf, Zz.sRet, Zz.sNil, Zz.sSet, Zz.sExpr, Zz.sRetN, Zz.sAsg, Zz.toTup, Zz.toCons, Zz.toNil, Zz.toName, Zz.tOrD, Zz.tAndD, Zz.tNotD, Zz.toB, Zz.toBr, Zz.toT, Zz.truD, Zz.dFn1, Zz.on1, Zz.dVar, Zz.dBin, Zz.on2, Zz.dChain, Zz.dNot, Zz.dAnd, Zz.dOr, Zz.dIf, Zz.dTup, Zz.dLst, Zz.dNil, Zz.dCons, Zz.frzs, Zz.dCall, Zz.oLe, Zz.oLt, Zz.oGt, Zz.oGe, Zz.oCmp, oLen, h, h', h2, h2', h3, h4, h5, h6]
      · have h' : ¬ (0 : Int) < (l.length : Int) := by omega
        have h4 : ¬ 1 ≤ l.length := by omega
        have h5 : ¬ 0 < l.length := by omega
        have h6 : l = [] := List.eq_nil_of_length_eq_zero (by omega)
        subst h6
        rfl
    cases hb : (decide ((1 : Int) ≤ (l.length : Int)) && decide ((l.length : Int) ≤ 5000)) with
    | false =>
      rw [hb] at ch
      exact no (by show (decide ((1 : Int) ≤ l.length) && decide ((l.length : Int) ≤ 5000) && _) = false; rw [hb]; rfl) (tOrD_f (tNotD_f (toB_at (dFn1_at rfl rfl rfl))) (tNotD_t (toB_at ch)))
    | true =>
      rw [hb] at ch
      have tt : tOrD (tNotD (toB (dFn1 (oIsB "tuple") (dVar 0)))) (tNotD (toB (dChain oLt oLt (dC (.int 0)) (dFn1 oLen (dVar 0)) (dC (.int 5001))))) [some (.d (.tuple l)), none, none, none, none, none] S = .ok false S := tOrD_f (tNotD_f (toB_at (dFn1_at rfl rfl rfl))) (tNotD_f (toB_at ch))
      rw [sSeq_nx (sIf_skip tt)]
      obtain ⟨b1, b2, b3, b4, b5, lo⟩ := ords_loop l S l none none none none none
      show sSeq (sFor (itAny (dVar 0)) (toName 1) ordB) (sRet (dC (.bool true))) [some (.d (.tuple l)), none, none, none, none, none] S = .rt (.d (.bool (decide ((1 : Int) ≤ l.length) && decide ((l.length : Int) ≤ 5000) && l.all (orderB l.length)))) S
      rw [hb, Bool.true_and]
      have f := (sFor_at (g := toName 1) (b := ordB) (itAny_at (f := dVar 0) (ρ := [some (.d (.tuple l)), none, none, none, none, none]) (S := S) (d := .tuple l) rfl rfl)).trans lo
      cases ha : l.all (orderB l.length) with
      | true =>
        rw [ha, if_pos rfl] at f
        rw [sSeq_nx f]
        rfl
      | false =>
        rw [ha, if_neg Bool.false_ne_true] at f
        exact sSeq_rt f
  | _ => exact no rfl (tOrD_t (tNotD_t (toB_at (dFn1_at rfl rfl rfl))))
end K65
set_option maxRecDepth 100000
set_option maxHeartbeats 1000000
namespace K65
open PySem PySem.Spec PyProof.Rows L2 Zz
theorem getLast_at (S : List Cell) (c : Cell) : (S ++ [c])[S.length]? = some c := by rw [List.getElem?_append_right (Nat.le_refl _), Nat.sub_self]; rfl
theorem setLast_at (S : List Cell) (c c' : Cell) : (S ++ [c]).set S.length c' = S ++ [c'] := by rw [List.set_append_right _ _ (Nat.le_refl _), Nat.sub_self]; rfl
theorem sAttr_at {cn f : Str} {g o : Env' → M Val} {ρ : Env'} {S : List Cell} {d : D} {fs : List (Str × D)} (hg : g ρ (S ++ [.ins cn fs]) = .ok (.d d) (S ++ [.ins cn fs])) (ho : o ρ (S ++ [.ins cn fs]) = .ok (.c S.length) (S ++ [.ins cn fs])) (hz : fs.length < 1000) :
    sAttr cn f g o ρ (S ++ [.ins cn fs]) = .nx ρ (S ++ [.ins cn (setAt_ f d fs)]) := by
  unfold sAttr
  rw [hg]
  simp only [Res.then_ok, frz_d]
  rw [ho]
  simp only [Res.then_ok, getLast_at]
  rw [if_pos ⟨trivial, hz⟩, setLast_at]
theorem setAt_le {f : Str} {d : D} : ∀ {fs : List (Str × D)} {k : Nat}, fs.length ≤ k → (setAt_ f d fs).length ≤ k + 1
  | [], k, h => Nat.succ_le_succ (Nat.zero_le _)
  | (g, x) :: r, k, h => by
    unfold setAt_
    split
    · exact Nat.le_succ_of_le h
    · have h' : r.length ≤ k - 1 := by rw [List.length_cons] at h; omega
      have z := setAt_le (f := f) (d := d) h'
      rw [List.length_cons] at h ⊢
      omega
theorem mul_list : oMulL (.list [.int 0]) (.int 1000) = some (.list (repD (1000 : Int).toNat [.int 0])) := by
  show (if (0 : Int) ≤ 1000 ∧ (1000 : Int) ≤ 1000000 ∧ ([PyData.int 0] : List D).length * (1000 : Int).toNat ≤ 16777216 then some (PyData.list (repD (1000 : Int).toNat [.int 0])) else none) = _
  rw [if_pos (by decide)]
theorem mul_two (b : Bool) : oMulL (.list [.bool b]) (.int 2) = some (.list [.bool b, .bool b]) := by
  show (if (0 : Int) ≤ 2 ∧ (2 : Int) ≤ 1000000 ∧ ([PyData.bool b] : List D).length * (2 : Int).toNat ≤ 16777216 then some (PyData.list (repD (2 : Int).toNat [.bool b])) else none) = _
  rw [if_pos ⟨by decide, by decide, by show 1 * 2 ≤ _; decide⟩]
  rfl
theorem dAnd_t {f g : Env' → M Val} {ρ : Env'} {S S1 : List Cell} (h : f ρ S = .ok (.d (.bool true)) S1) : dAnd f g ρ S = g ρ S1 := by
  show (toB f ρ S).bind _ = _
  rw [toB_at h]
  rfl
theorem dNot_f {f : Env' → M Val} {ρ : Env'} {S S1 : List Cell} (h : f ρ S = .ok (.d (.bool false)) S1) : dNot f ρ S = .ok (.d (.bool true)) S1 := by
  show (toB f ρ S).bind _ = _
  rw [toB_at h]
  rfl
/-- what the law hands in: shown, and its orders not too long -/
structure Gd (d : D) : Prop where
  rp : oRepr d = some (.str d.shown)
  sz : ∀ l, d = .tuple l → ∀ x ∈ l, ∀ m, x = .tuple m → m.length ≤ 16777216
theorem init_bad {d : D} (g : Gd d) (h : codeB d = false) (S : List Cell) : fn_Machine_init [.c S.length, .d d] (S ++ [.ins "Machine" []]) = .ex ⟨"BadCode", []⟩ (S ++ [.ins "Machine" []]) := by
  have cf := code_f d (S ++ [.ins "Machine" []]) g.sz
  rw [h] at cf
  have t := tNotD_t (toT_at (ρ := [some (.c S.length), some (.d d)]) (f := dCall fn_is_code (dCons (dVar 1) dNil)) ((dCall_at (dCons_at rfl rfl)).trans cf) rfl rfl)
  have b : body_Machine_init [some (.c S.length), some (.d d)] (S ++ [.ins "Machine" []]) = .ex ⟨"BadCode", []⟩ [some (.c S.length), some (.d d)] (S ++ [.ins "Machine" []]) := by
    unfold body_Machine_init sSeq
    rw [sIf_t t]
    rfl
  unfold fn_Machine_init bodyFn
  rw [if_pos (show ([Val.c S.length, Val.d d] : List Val).length = (["self", "code"] : List Str).length from rfl)]
  show Zz.finish (S ++ [Cell.ins "Machine" []]).length (body_Machine_init [some (.c S.length), some (.d d)] (S ++ [Cell.ins "Machine" []])) = _
  rw [b]
  show Res.ex _ ((S ++ [Cell.ins "Machine" []]).take (S ++ [Cell.ins "Machine" []]).length) = _
  rw [List.take_length]
theorem init_good {d : D} (g : Gd d) (h : codeB d = true) (S : List Cell) : ∃ fs, fn_Machine_init [.c S.length, .d d] (S ++ [.ins "Machine" []]) = .ok (.d .none) (S ++ [.ins "Machine" fs]) := by
  have cf := code_f d (S ++ [.ins "Machine" []]) g.sz
  rw [h] at cf
  have t := tNotD_f (toT_at (ρ := [some (.c S.length), some (.d d)]) (f := dCall fn_is_code (dCons (dVar 1) dNil)) ((dCall_at (dCons_at rfl rfl)).trans cf) rfl rfl)
  have b : ∃ fs, body_Machine_init [some (.c S.length), some (.d d)] (S ++ [.ins "Machine" []]) = .nx [some (.c S.length), some (.d d)] (S ++ [.ins "Machine" fs]) := by
    unfold body_Machine_init
    refine ⟨setAt_ "_is_stopped" (.bool false) (setAt_ "_many_done" (.int 0) (setAt_ "_place" (.int 0) (setAt_ "_numbers" (.list (repD (1000 : Int).toNat [.int 0])) (setAt_ "_code" d [])))), ?_⟩
    rw [sSeq_nx (sIf_skip t)]
    rw [sSeq_nx (sAttr_at (d := d) rfl rfl (by decide))]
    have e2 : dBin oMulL (dLst (dCons (dC (.int 0)) dNil)) (dC (.int 1000)) [some (.c S.length), some (.d d)] (S ++ [.ins "Machine" (setAt_ "_code" d [])]) = .ok (.d (.list (repD (1000 : Int).toNat [.int 0]))) (S ++ [.ins "Machine" (setAt_ "_code" d [])]) :=
      dBin_at (dLst_at (xs := [.d (.int 0)]) (ds := [.int 0]) rfl rfl (by decide)) rfl rfl rfl mul_list
    have l1 : (setAt_ "_code" d []).length ≤ 1 := setAt_le (Nat.zero_le _)
    rw [sSeq_nx (sAttr_at e2 rfl (Nat.lt_of_le_of_lt l1 (by decide)))]
    rw [sSeq_nx (sAttr_at (d := .int 0) rfl rfl (Nat.lt_of_le_of_lt (setAt_le l1) (by decide)))]
    rw [sSeq_nx (sAttr_at (d := .int 0) rfl rfl (Nat.lt_of_le_of_lt (setAt_le (setAt_le l1)) (by decide)))]
    exact sAttr_at (d := .bool false) rfl rfl (Nat.lt_of_le_of_lt (setAt_le (setAt_le (setAt_le l1))) (by decide))
  obtain ⟨fs, b⟩ := b
  refine ⟨fs, ?_⟩
  unfold fn_Machine_init bodyFn
  rw [if_pos (show ([Val.c S.length, Val.d d] : List Val).length = (["self", "code"] : List Str).length from rfl)]
  show Zz.finish (S ++ [Cell.ins "Machine" []]).length (body_Machine_init [some (.c S.length), some (.d d)] (S ++ [Cell.ins "Machine" []])) = _
  rw [b]
  show Res.ok _ ((S ++ [Cell.ins "Machine" fs]).take (S ++ [Cell.ins "Machine" []]).length) = _
  rw [List.take_of_length_le (by simp)]
theorem repr_two (b : Bool) : ∃ s : Str, oRepr (.list [.bool b, .bool b]) = some (.str s) := by
  refine ⟨(PyData.list [.bool b, .bool b]).shown, ?_⟩
  unfold oRepr
  rw [if_pos (by cases b <;> decide +kernel)]
theorem law_right_f {d : D} (g : Gd d) (S : List Cell) : fn_u_law_right [.d d] S = .ok (.d (.bool true)) S := by
  have fin : ∀ R, body_u_law_right [some (.d d), none, none, none, none, none] S = .rt (.d (.bool true)) (S ++ R) → fn_u_law_right [.d d] S = .ok (.d (.bool true)) S := fun R h => by
    refine (body_rt (np := 1) (nl := 6) (b := body_u_law_right) (as := [.d d]) rfl h).trans ?_
    rw [List.take_left']
    rfl
  have s1 : sPar3 1 2 3 (dCons (dCall fn_u_law_is (dCons (dVar 0) dNil)) (dCons (dFn1 oRepr (dVar 0)) (dCons (dC (.none)) dNil))) [some (.d d), none, none, none, none, none] S = .nx [some (.d d), some (.d (.bool (codeB d))), some (.d (.str d.shown)), some (.d .none), none, none] S := by
    have aa : dCons (dCall fn_u_law_is (dCons (dVar 0) dNil)) (dCons (dFn1 oRepr (dVar 0)) (dCons (dC (.none)) dNil)) [some (.d d), none, none, none, none, none] S = .ok [.d (.bool (codeB d)), .d (.str d.shown), .d .none] S := dCons_at ((dCall_at (dCons_at rfl rfl)).trans (law_is_f d S)) (dCons_at (dFn1_at rfl rfl g.rp) (dCons_at rfl rfl))
    unfold sPar3
    rw [aa]
    rfl
  have cf := code_f d S g.sz
  obtain ⟨s, es⟩ := repr_two (codeB d)
  have t2 : toB (dBin oNe (dFn1 oRepr (dLst (dCons (dCall fn_is_code (dCons (dVar 0) dNil)) (dCons (dCall fn_is_code (dArgs same2 (dCons (dVar 0) dNil))) dNil)))) (dFn1 oRepr (dBin oMulL (dLst (dCons (dVar 1) dNil)) (dC (.int 2))))) [some (.d d), some (.d (.bool (codeB d))), some (.d (.str d.shown)), some (.d .none), none, none] S = .ok false S := by
    refine toB_at (dBin_at (x := .str s) (y := .str s) (dFn1_at (dLst_at (xs := [.d (.bool (codeB d)), .d (.bool (codeB d))]) (ds := [.bool (codeB d), .bool (codeB d)]) (dCons_at ((dCall_at (dCons_at rfl rfl)).trans cf) (dCons_at ((dCall_at (xs := [.d d]) rfl).trans cf) rfl)) rfl (by show 2 ≤ _; decide)) rfl es) (dFn1_at (dBin_at (c := .list [.bool (codeB d), .bool (codeB d)]) (dLst_at (xs := [.d (.bool (codeB d))]) (ds := [.bool (codeB d)]) (dCons_at rfl rfl) rfl (by show 1 ≤ _; decide)) rfl rfl rfl (mul_two _)) rfl es) rfl rfl ((neS s s).trans (by rw [decide_eq_true rfl]; rfl)))
  have eqk : ∀ (ρ : Env') (T : List Cell), ρ[0]? = some (some (.d d)) → ρ[2]? = some (some (.d (.str d.shown))) → dBin oEq (dFn1 oRepr (dVar 0)) (dVar 2) ρ T = .ok (.d (.bool true)) T := fun ρ T h0 h2 =>
    dBin_at (dFn1_at (dVar_at h0) rfl g.rp) (dVar_at h2) rfl rfl ((eqS _ _).trans (by rw [decide_eq_true rfl]))
  cases hc : codeB d with
  | true =>
    rw [hc] at s1 t2
    obtain ⟨fs, hm⟩ := init_good g hc S
    refine fin [.ins "Machine" fs] ?_
    unfold body_u_law_right
    rw [sSeq_nx s1, sSeq_nx (sIf_skip t2)]
    have mk : dMake "Machine" fn_Machine_init (dCons (dVar 0) dNil) [some (.d d), some (.d (.bool true)), some (.d (.str d.shown)), some (.d .none), none, none] S = .ok (.c S.length) (S ++ [.ins "Machine" fs]) := by
      show (fn_Machine_init [.c S.length, .d d] (S ++ [Cell.ins "Machine" []])).bind _ = _
      rw [hm]
      rfl
    have k : sKeep (sExpr (dMake "Machine" fn_Machine_init (dCons (dVar 0) dNil))) ex_0 4 3 [some (.d d), some (.d (.bool true)), some (.d (.str d.shown)), some (.d .none), none, none] S = .nx [some (.d d), some (.d (.bool true)), some (.d (.str d.shown)), some (.d .none), none, none] (S ++ [.ins "Machine" fs]) := by
      unfold sKeep
      rw [sExpr_at mk]
    rw [sSeq_nx k]
    refine sSeq_rt ((sIf_t (toT_at rfl rfl rfl)).trans (sRet_at ?_))
    exact (dAnd_t rfl).trans (eqk _ _ rfl rfl)
  | false =>
    rw [hc] at s1 t2
    have hm := init_bad g hc S
    refine fin [.ins "Machine" [], .exc ⟨"BadCode", []⟩] ?_
    unfold body_u_law_right
    rw [sSeq_nx s1, sSeq_nx (sIf_skip t2)]
    have mk : sExpr (dMake "Machine" fn_Machine_init (dCons (dVar 0) dNil)) [some (.d d), some (.d (.bool false)), some (.d (.str d.shown)), some (.d .none), none, none] S = .ex ⟨"BadCode", []⟩ [some (.d d), some (.d (.bool false)), some (.d (.str d.shown)), some (.d .none), none, none] (S ++ [.ins "Machine" []]) := by
      unfold sExpr
      have z : dMake "Machine" fn_Machine_init (dCons (dVar 0) dNil) [some (.d d), some (.d (.bool false)), some (.d (.str d.shown)), some (.d .none), none, none] S = .ex ⟨"BadCode", []⟩ (S ++ [.ins "Machine" []]) := by
        show (fn_Machine_init [.c S.length, .d d] (S ++ [Cell.ins "Machine" []])).bind _ = _
        rw [hm]
        rfl
      rw [z]
      rfl
    have k : sKeep (sExpr (dMake "Machine" fn_Machine_init (dCons (dVar 0) dNil))) ex_0 4 3 [some (.d d), some (.d (.bool false)), some (.d (.str d.shown)), some (.d .none), none, none] S = .nx [some (.d d), some (.d (.bool false)), some (.d (.str d.shown)), some (.c (S.length + 1)), none, none] (S ++ [.ins "Machine" [], .exc ⟨"BadCode", []⟩]) := by
      unfold sKeep
      rw [mk]
      show SRes.nx _ _ = _
      rw [List.length_append, List.append_assoc]
      rfl
    rw [sSeq_nx k]
    rw [sSeq_nx (sIf_skip (toT_at rfl rfl rfl))]
    have cx : ∀ (f : Str → Option Bool) (b : Bool) (o : Option Val), f "BadCode" = some b → clsX f (dVar 3) [some (.d d), some (.d (.bool false)), some (.d (.str d.shown)), some (.c (S.length + 1)), none, o] (S ++ [.ins "Machine" [], .exc ⟨"BadCode", []⟩]) = .ok (.d (.bool b)) (S ++ [.ins "Machine" [], .exc ⟨"BadCode", []⟩]) := fun f b o hf => by
      show onX f (.c (S.length + 1)) (S ++ [.ins "Machine" [], .exc ⟨"BadCode", []⟩]) = _
      have ge : (S ++ [Cell.ins "Machine" [], .exc ⟨"BadCode", []⟩])[S.length + 1]? = some (.exc ⟨"BadCode", []⟩) := by
        have e1 : S.length + 1 - S.length = 1 := by omega
        rw [List.getElem?_append_right (by omega), e1]; rfl
      unfold onX
      simp only [ge, hf]
    rw [sSeq_nx (sSet_at (cx ixs_0 false none rfl))]
    exact sRet_at ((dAnd_t (cx ix_BadCode true _ rfl)).trans ((dAnd_t (cx ix_ValueError true _ rfl)).trans ((dAnd_t (dNot_f rfl)).trans (eqk _ _ rfl rfl))))
end K65
set_option maxRecDepth 100000
set_option maxHeartbeats 1000000
namespace K65
open PySem PySem.Spec PyProof.Rows L2 Zz
/-! ### what is drawn can be shown -/
structure Gw (c : Bool) (e w : Nat) (d : D) : Prop where
  shw : d.showable = true
  lea : d.leavesShort 100 = true
  dep : d.depth ≤ e
  wgt : d.weight ≤ w
  dic : (if c = true then !d.hasDict else noL d) = true
theorem Gw.mono {c : Bool} {e w e' w' : Nat} {d : D} (h : Gw c e w d) (h1 : e ≤ e') (h2 : w ≤ w') : Gw c e' w' d := ⟨h.shw, h.lea, Nat.le_trans h.dep h1, Nat.le_trans h.wgt h2, h.dic⟩
theorem len_weight : ∀ l : List D, l.length ≤ PyData.weightAll l
  | [] => Nat.zero_le _
  | x :: l => by
    have := len_weight l
    rw [PyData.weightAll, List.length_cons]
    omega
theorem mem_weight : ∀ {l : List D} {x : D}, x ∈ l → x.weight ≤ PyData.weightAll l
  | y :: l, x, h => by
    rw [PyData.weightAll]
    rcases List.mem_cons.mp h with rfl | h
    · omega
    · have := mem_weight h
      omega
theorem Gw.gd {c : Bool} {e w : Nat} {d : D} (h : Gw c e w d) (he : e ≤ 90) (hw : w ≤ 160000) : Gd d := by
  refine ⟨?_, fun l hl x hx m hm => ?_⟩
  · have z := PyData.shown_le 100 (by decide) d h.lea
    have h1 := h.wgt
    have h2 : (100 + 2) * d.weight ≤ (100 + 2) * 160000 := Nat.mul_le_mul_left _ (Nat.le_trans h1 hw)
    have h3 : d.shown.length ≤ 16777216 := by omega
    have h4 : d.depth ≤ 90 := Nat.le_trans h.dep he
    have h5 : (!d.hasDict || noL d) = true := by
      have q := h.dic
      cases c with
      | true => rw [if_pos rfl] at q; rw [q]; rfl
      | false => rw [if_neg Bool.false_ne_true] at q; rw [q, Bool.or_true]
    unfold oRepr
    rw [if_pos]
    rw [h.shw, h5, decide_eq_true h3, decide_eq_true h4]
    rfl
  · subst hl
    subst hm
    have h1 := h.wgt
    rw [PyData.weight] at h1
    have h2 := mem_weight hx
    rw [PyData.weight] at h2
    have h3 := len_weight m
    omega
theorem showAll_of : ∀ {l : List D}, (∀ x ∈ l, x.showable = true) → PyData.showableAll l = true
  | [], _ => rfl
  | x :: l, h => by
    rw [PyData.showableAll, h x List.mem_cons_self, showAll_of fun y hy => h y (List.mem_cons_of_mem _ hy)]
    rfl
theorem leavesAll_of : ∀ {l : List D}, (∀ x ∈ l, x.leavesShort 100 = true) → PyData.leavesShortAll 100 l = true
  | [], _ => rfl
  | x :: l, h => by
    rw [PyData.leavesShortAll, h x List.mem_cons_self, leavesAll_of fun y hy => h y (List.mem_cons_of_mem _ hy)]
    rfl
theorem dictAll_of : ∀ {l : List D}, (∀ x ∈ l, x.hasDict = false) → PyData.hasDictAll l = false
  | [], _ => rfl
  | x :: l, h => by
    rw [PyData.hasDictAll, h x List.mem_cons_self, dictAll_of fun y hy => h y (List.mem_cons_of_mem _ hy)]
    rfl
theorem noLs_of : ∀ {l : List D}, (∀ x ∈ l, noL x = true) → noLs l = true
  | [], _ => rfl
  | x :: l, h => by
    rw [noLs, h x List.mem_cons_self, noLs_of fun y hy => h y (List.mem_cons_of_mem _ hy)]
    rfl
theorem depth_of : ∀ {l : List D} {n : Nat}, (∀ d ∈ l, d.depth ≤ n) → PyData.depthAll l ≤ n
  | [], n, _ => Nat.zero_le _
  | x :: r, n, h => by
    rw [PyData.depthAll]
    have h1 := h x List.mem_cons_self
    have h2 := depth_of fun d hd => h d (List.mem_cons_of_mem _ hd)
    omega
theorem weight_of {w : Nat} : ∀ {l : List D}, (∀ d ∈ l, d.weight ≤ w) → PyData.weightAll l ≤ l.length * (w + 1)
  | [], _ => Nat.zero_le _
  | x :: r, h => by
    rw [PyData.weightAll, List.length_cons, Nat.succ_mul]
    have h1 := h x List.mem_cons_self
    have h2 := weight_of fun d hd => h d (List.mem_cons_of_mem _ hd)
    omega
theorem Gw.tup {c : Bool} {e w n : Nat} {l : List D} (h : ∀ x ∈ l, Gw c e w x) (hl : l.length ≤ n) : Gw c (e + 1) (n * (w + 1)) (.tuple l) := by
  refine ⟨by rw [PyData.showable]; exact showAll_of fun x hx => (h x hx).shw, by rw [PyData.leavesShort]; exact leavesAll_of fun x hx => (h x hx).lea, ?_, ?_, ?_⟩
  · rw [PyData.depth]
    have := depth_of fun x hx => (h x hx).dep
    omega
  · rw [PyData.weight]
    exact Nat.le_trans (weight_of fun x hx => (h x hx).wgt) (Nat.mul_le_mul_right _ hl)
  · cases c with
    | true =>
      rw [if_pos rfl, PyData.hasDict, dictAll_of fun x hx => ?_]
      · rfl
      · have q := (h x hx).dic
        rw [if_pos rfl] at q
        simpa using q
    | false =>
      rw [if_neg Bool.false_ne_true, noL]
      exact noLs_of fun x hx => by
        have q := (h x hx).dic
        rwa [if_neg Bool.false_ne_true] at q
theorem Gw.lst {e w n : Nat} {l : List D} (h : ∀ x ∈ l, Gw true e w x) (hl : l.length ≤ n) : Gw true (e + 1) (n * (w + 1)) (.list l) := by
  refine ⟨by rw [PyData.showable]; exact showAll_of fun x hx => (h x hx).shw, by rw [PyData.leavesShort]; exact leavesAll_of fun x hx => (h x hx).lea, ?_, ?_, ?_⟩
  · rw [PyData.depth]
    have := depth_of fun x hx => (h x hx).dep
    omega
  · rw [PyData.weight]
    exact Nat.le_trans (weight_of fun x hx => (h x hx).wgt) (Nat.mul_le_mul_right _ hl)
  · rw [if_pos rfl, PyData.hasDict, dictAll_of fun x hx => ?_]
    · rfl
    · have q := (h x hx).dic
      rw [if_pos rfl] at q
      simpa using q
theorem Gw.int {c : Bool} {i : Int} (h : i.natAbs < 10 ^ 61) : Gw c 0 220 (.int i) := by
  have h2 : i.natAbs.log2 < 203 := by
    by_cases h0 : i.natAbs = 0
    · rw [h0]; decide
    · exact (Nat.log2_lt h0).mpr (Nat.lt_trans h (by decide))
  refine ⟨?_, ?_, Nat.zero_le _, ?_, ?_⟩
  · rw [PyData.showable]
    exact decide_eq_true (by omega)
  · rw [PyData.leavesShort]
    refine decide_eq_true ?_
    have z := int_text_length_le10 (k := 61) (by decide) h
    rw [PyData.shown, PySem.ofString_length]
    omega
  · rw [PyData.weight]
    split
    · exact Nat.zero_le _
    · omega
  · cases c <;> rfl
/-- whatever holds of a piece at hand -/
def gwB (c : Bool) (e w : Nat) (d : D) : Bool := d.showable && d.leavesShort 100 && decide (d.depth ≤ e) && decide (d.weight ≤ w) && (if c = true then !d.hasDict else noL d)
theorem Gw.of {c : Bool} {e w : Nat} {d : D} (h : gwB c e w d = true) : Gw c e w d := by
  unfold gwB at h
  simp only [Bool.and_eq_true, decide_eq_true_eq] at h
  exact ⟨h.1.1.1.1, h.1.1.1.2, h.1.1.2, h.1.2, h.2⟩
end K65
set_option maxRecDepth 100000
set_option maxHeartbeats 1000000
namespace K65
open PySem PySem.Spec PyProof.Rows L2 Zz
/-! ### the drawn numbers -/
def Bn (n : Int) : Prop := 0 ≤ n ∧ n < 2147483647
theorem pow_at (i j : Int) (h : 0 ≤ j) (h2 : j ≤ 1000000) (h3 : i.natAbs < 2 ^ 64) : oPow (.int i) (.int j) = some (.int (i ^ j.toNat)) := by
  show (if 0 ≤ j ∧ j ≤ 1000000 ∧ i.natAbs < 2 ^ 64 then _ else _) = _
  rw [if_pos ⟨h, h2, h3⟩]
section
variable {ρ : Env'} {S : List Cell} {ns : List Int} {k : Int}
abbrev aL : Env' → M Val := dFn1 oLen (dVar 0)
theorem eL (h : ρ[0]? = some (some (.d (.list (intsD ns))))) : aL ρ S = .ok (.d (.int ns.length)) S := dFn1_at (dVar_at h) rfl (by show some (PyData.int (intsD ns).length) = _; simp [intsD])
theorem pos_t (h : ρ[0]? = some (some (.d (.list (intsD ns))))) : toB (dBin oGt aL (dC (.int 0))) ρ S = .ok (decide ((0 : Int) < ns.length)) S := toB_at (dBin_at (eL h) rfl rfl rfl rfl)
theorem eI (h : ρ[0]? = some (some (.d (.list (intsD ns))))) (h2 : ρ[2]? = some (some (.d (.int k)))) (hn : 0 < ns.length) : ∃ c, dBin oIx (dVar 0) (dBin oMod (dVar 2) aL) ρ S = .ok (.d (.int c)) S := by
  have hL : (0 : Int) < ns.length := by omega
  have m := fmod_in k ns.length hL
  obtain ⟨a, ha, e⟩ := atI_in (intsD ns) (k.fmod ns.length) m.1 (by simp [intsD]; exact m.2)
  obtain ⟨c, hc, rfl⟩ := List.mem_map.mp ha
  exact ⟨c, dBin_at (dVar_at h) (dBin_at (dVar_at h2) (eL h) rfl rfl (mod_at _ _ (by omega))) rfl rfl e⟩
theorem eQ (h : ρ[0]? = some (some (.d (.list (intsD ns))))) (h2 : ρ[2]? = some (some (.d (.int k)))) (hn : 0 < ns.length) (h63 : ns.length ≤ 63) : dBin oDiv (dVar 2) aL ρ S = .ok (.d (.int (k.fdiv ns.length))) S :=
  dBin_at (dVar_at h2) (eL h) rfl rfl (div_at _ _ (by omega) (by omega))
end
abbrev cTail : SD := (sSeq (sIf (toB (dBin oGt (dFn1 oLen (dVar 0)) (dC (.int 0)))) (sSet 3 (dBin oAdd (dVar 3) (dBin oMul (dBin oMod (dBin oIx (dVar 0) (dBin oMod (dVar 2) (dFn1 oLen (dVar 0)))) (dC (.int 2147483629))) (dBin oAdd (dC (.int 1)) (dBin oDiv (dVar 2) (dFn1 oLen (dVar 0))))))) sNil) (sRet (dBin oDiv (dBin oMod (dBin oPow (dBin oMod (dVar 3) (dC (.int 2147483647))) (dC (.int 5))) (dC (.int 2147483647))) (dC (.int 7)))))
theorem last_f (ρ : Env') (S : List Cell) (b : Int) (h : ρ[3]? = some (some (.d (.int b)))) : ∃ n : Int, Bn n ∧ sRet (dBin oDiv (dBin oMod (dBin oPow (dBin oMod (dVar 3) (dC (.int 2147483647))) (dC (.int 5))) (dC (.int 2147483647))) (dC (.int 7))) ρ S = .rt (.d (.int n)) S := by
  have m := fmod_in b 2147483647 (by decide)
  have p : oPow (.int (b.fmod 2147483647)) (.int 5) = some (.int ((b.fmod 2147483647) ^ (5 : Int).toNat)) := by
    show (if (0 : Int) ≤ 5 ∧ (5 : Int) ≤ 1000000 ∧ (b.fmod 2147483647).natAbs < 2 ^ 64 then _ else _) = _
    rw [if_pos ⟨by decide, by decide, by omega⟩]
  have m2 := fmod_in ((b.fmod 2147483647) ^ (5 : Int).toNat) 2147483647 (by decide)
  have bn : Bn ((((b.fmod 2147483647) ^ (5 : Int).toNat).fmod 2147483647).fdiv 7) := by
    unfold Bn
    rw [Int.fdiv_eq_ediv_of_nonneg _ (by decide)]
    omega
  exact ⟨_, bn, sRet_at (dBin_at (dBin_at (dBin_at (dBin_at (dVar_at h) rfl rfl rfl (mod_at _ _ (by decide))) rfl rfl rfl p) rfl rfl rfl (mod_at _ _ (by decide))) rfl rfl rfl (div_at _ _ (by decide) (by decide)))⟩
theorem tail_f (ns : List Int) (h63 : ns.length ≤ 63) (k b : Int) (s o4 o5 : Option Val) (S : List Cell) : ∃ n : Int, Bn n ∧ cTail [some (.d (.list (intsD ns))), s, some (.d (.int k)), some (.d (.int b)), o4, o5] S = .rt (.d (.int n)) S := by
  by_cases hn : 0 < ns.length
  · obtain ⟨c, ec⟩ := eI (ρ := [some (.d (.list (intsD ns))), s, some (.d (.int k)), some (.d (.int b)), o4, o5]) (S := S) (ns := ns) (k := k) rfl rfl hn
    have eq := eQ (ρ := [some (.d (.list (intsD ns))), s, some (.d (.int k)), some (.d (.int b)), o4, o5]) (S := S) (ns := ns) (k := k) rfl rfl hn h63
    have m := fmod_in c 2147483629 (by decide)
    have e1 : sIf (toB (dBin oGt (dFn1 oLen (dVar 0)) (dC (.int 0)))) (sSet 3 (dBin oAdd (dVar 3) (dBin oMul (dBin oMod (dBin oIx (dVar 0) (dBin oMod (dVar 2) (dFn1 oLen (dVar 0)))) (dC (.int 2147483629))) (dBin oAdd (dC (.int 1)) (dBin oDiv (dVar 2) (dFn1 oLen (dVar 0))))))) sNil
        [some (.d (.list (intsD ns))), s, some (.d (.int k)), some (.d (.int b)), o4, o5] S = .nx [some (.d (.list (intsD ns))), s, some (.d (.int k)), some (.d (.int (b + c.fmod 2147483629 * (1 + k.fdiv ns.length)))), o4, o5] S := by
      have t := pos_t (ρ := [some (.d (.list (intsD ns))), s, some (.d (.int k)), some (.d (.int b)), o4, o5]) (S := S) (ns := ns) rfl
      rw [decide_eq_true (by omega)] at t
      rw [sIf_t t]
      exact sSet_at (dBin_at rfl (dBin_at (dBin_at ec rfl rfl rfl (mod_at _ _ (by decide))) (dBin_at rfl eq rfl rfl (add_at _ _)) rfl rfl (mul_at _ _ (by rw [low_of (by omega) (by omega)]; rfl))) rfl rfl (add_at _ _))
    obtain ⟨n, bn, en⟩ := last_f [some (.d (.list (intsD ns))), s, some (.d (.int k)), some (.d (.int (b + c.fmod 2147483629 * (1 + k.fdiv ns.length)))), o4, o5] S _ rfl
    exact ⟨n, bn, (sSeq_nx e1).trans en⟩
  · have t := pos_t (ρ := [some (.d (.list (intsD ns))), s, some (.d (.int k)), some (.d (.int b)), o4, o5]) (S := S) (ns := ns) rfl
    rw [decide_eq_false (by omega)] at t
    obtain ⟨n, bn, en⟩ := last_f [some (.d (.list (intsD ns))), s, some (.d (.int k)), some (.d (.int b)), o4, o5] S b rfl
    exact ⟨n, bn, (sSeq_nx (sIf_f t)).trans en⟩
abbrev ownTurn : SD := (sSet 4 (dBin oDiv (dVar 4) (dC (.int 306783379))))
theorem own_loop (c s k b : Option Val) (S : List Cell) : ∀ (l : List D) (own : Int) (t : Option Val), ∃ (own' : Int) (t' : Option Val), forGo (toName 5) ownTurn l [c, s, k, b, some (.d (.int own)), t] S = .nx [c, s, k, b, some (.d (.int own')), t'] S
  | [], own, t => ⟨own, t, rfl⟩
  | d :: l, own, t => by
    obtain ⟨own', t', e⟩ := own_loop c s k b S l (own.fdiv 306783379) (some (.d d))
    refine ⟨own', t', ?_⟩
    have k1 : ownTurn [c, s, k, b, some (.d (.int own)), some (.d d)] S = .nx [c, s, k, b, some (.d (.int (own.fdiv 306783379))), some (.d d)] S := sSet_at (dBin_at rfl rfl rfl rfl (div_at _ _ (by decide) (by decide)))
    show (match ownTurn [c, s, k, b, some (.d (.int own)), some (.d d)] S with | .nx ρ2 S2 => forGo (toName 5) ownTurn l ρ2 S2 | .ct ρ2 S2 => forGo (toName 5) ownTurn l ρ2 S2 | .bk ρ2 S2 => .nx ρ2 S2 | .rt v S2 => .rt v S2 | .ex x ρ2 S2 => .ex x ρ2 S2 | .st => .st) = _
    rw [k1]
    exact e
theorem cell_f (ns : List Int) (h63 : ns.length ≤ 63) (k0 : Int) (hk0 : 0 ≤ k0) (hk1 : k0 < 1000000) (R : List Cell) : ∃ n : Int, Bn n ∧ fn_u_law_cell [.d (.list (intsD ns)), .c 0] (.lst [.int k0] :: R) = .ok (.d (.int n)) (.lst [.int (k0 + 1)] :: R) := by
  let C0 : Option Val := some (.d (.list (intsD ns)))
  let S1 : List Cell := .lst [.int (k0 + 1)] :: R
  let k : Int := k0 + 1
  let b : Int := 31 * k * k + 7919 * k
  have p1 : sPut (dBin oAdd (dBin oIx (dVar 1) (dC (.int 0))) (dC (.int 1))) (dVar 1) (dC (.int 0)) [C0, some (.c 0), none, none, none, none] (.lst [.int k0] :: R) = .nx [C0, some (.c 0), none, none, none, none] S1 := by
    have e1 : dBin oAdd (dBin oIx (dVar 1) (dC (.int 0))) (dC (.int 1)) [C0, some (.c 0), none, none, none, none] (.lst [.int k0] :: R) = .ok (.d (.int (k0 + 1))) (.lst [.int k0] :: R) := dBin_at (dBin_at rfl rfl rfl rfl (at0 _ _)) rfl rfl rfl (add_at _ _)
    unfold sPut
    rw [e1]
    have ix : ixN 1 0 = some 0 := by decide
    show (match putM (.c 0) (.int 0) (.int (k0 + 1)) (.lst [.int k0] :: R) with | some T => SRes.nx [C0, some (.c 0), none, none, none, none] T | none => .st) = _
    have pm : putM (.c 0) (.int 0) (.int (k0 + 1)) (.lst [.int k0] :: R) = some S1 := by
      unfold putM
      simp [ix, S1]
    rw [pm]
  have p2 : sSet 2 (dBin oIx (dVar 1) (dC (.int 0))) [C0, some (.c 0), none, none, none, none] S1 = .nx [C0, some (.c 0), some (.d (.int k)), none, none, none] S1 := sSet_at (dBin_at rfl rfl rfl rfl (at0 _ _))
  have lk : lowI k = true := low_of (by omega) (by omega)
  have p3 : sSet 3 (dBin oAdd (dBin oMul (dBin oMul (dC (.int 31)) (dVar 2)) (dVar 2)) (dBin oMul (dC (.int 7919)) (dVar 2))) [C0, some (.c 0), some (.d (.int k)), none, none, none] S1 = .nx [C0, some (.c 0), some (.d (.int k)), some (.d (.int b)), none, none] S1 :=
    sSet_at (dBin_at (dBin_at (dBin_at rfl rfl rfl rfl (mul_at _ _ (by rw [lk, Bool.or_true]))) rfl rfl rfl (mul_at _ _ (by rw [lk, Bool.or_true]))) (dBin_at rfl rfl rfl rfl (mul_at _ _ (by rw [lk, Bool.or_true]))) rfl rfl (add_at _ _))
  have main : ∃ (n : Int), Bn n ∧ body_u_law_cell [C0, some (.c 0), none, none, none, none] (.lst [.int k0] :: R) = .rt (.d (.int n)) S1 := by
    unfold body_u_law_cell
    rw [sSeq_nx p1, sSeq_nx p2, sSeq_nx p3]
    -- the end, whatever slots 4 and 5 hold
    have fin : ∀ {m : SD} (o4 o5 : Option Val), m [C0, some (.c 0), some (.d (.int k)), some (.d (.int b)), none, none] S1 = .nx [C0, some (.c 0), some (.d (.int k)), some (.d (.int b)), o4, o5] S1 → ∃ n : Int, Bn n ∧ sSeq m cTail [C0, some (.c 0), some (.d (.int k)), some (.d (.int b)), none, none] S1 = .rt (.d (.int n)) S1 := fun {m} o4 o5 h => by
      obtain ⟨n, bn, en⟩ := tail_f ns h63 k b (some (.c 0)) o4 o5 S1
      exact ⟨n, bn, (sSeq_nx h).trans en⟩
    by_cases hn : 0 < ns.length
    · have t0 := pos_t (ρ := [C0, some (.c 0), some (.d (.int k)), some (.d (.int b)), none, none]) (S := S1) (ns := ns) rfl
      rw [decide_eq_true (by omega)] at t0
      obtain ⟨c, ec⟩ := eI (ρ := [C0, some (.c 0), some (.d (.int k)), some (.d (.int b)), none, none]) (S := S1) (ns := ns) (k := k) rfl rfl hn
      have eq := eQ (ρ := [C0, some (.c 0), some (.d (.int k)), some (.d (.int b)), none, none]) (S := S1) (ns := ns) (k := k) rfl rfl hn h63
      have pw := pow_at 10 18 (by decide) (by decide) (by decide)
      have t1 : toB (dBin oGe (dBin oIx (dVar 0) (dBin oMod (dVar 2) (dFn1 oLen (dVar 0)))) (dBin oPow (dC (.int 10)) (dC (.int 18)))) [C0, some (.c 0), some (.d (.int k)), some (.d (.int b)), none, none] S1 = .ok (decide (c ≥ 10 ^ (18 : Int).toNat)) S1 := toB_at (dBin_at ec (dBin_at rfl rfl rfl rfl pw) rfl rfl rfl)
      have t2 : toB (dBin oLt (dBin oDiv (dVar 2) (dFn1 oLen (dVar 0))) (dC (.int 60))) [C0, some (.c 0), some (.d (.int k)), some (.d (.int b)), none, none] S1 = .ok (decide (k.fdiv ns.length < 60)) S1 := toB_at (dBin_at eq rfl rfl rfl rfl)
      cases h1 : decide (c ≥ 10 ^ (18 : Int).toNat) with
      | false =>
        rw [h1] at t1
        exact fin none none (sIf_f (tAndD_t t0 (tAndD_f t1)))
      | true =>
        rw [h1] at t1
        cases h2 : decide (k.fdiv ns.length < 60) with
        | false =>
          rw [h2] at t2
          exact fin none none (sIf_f (tAndD_t t0 (tAndD_t t1 t2)))
        | true =>
          rw [h2] at t2
          have h2' : k.fdiv ns.length < 60 := of_decide_eq_true h2
          have q0 : 0 ≤ k.fdiv ns.length := Int.fdiv_nonneg (by omega) (by omega)
          obtain ⟨own', t', el⟩ := own_loop C0 (some (.c 0)) (some (.d (.int k))) (some (.d (.int b))) S1 ((List.range (k.fdiv ns.length).toNat).map fun i : Nat => .int (0 + i)) c none
          have ef : sFor (itRng (dBin oDiv (dVar 2) (dFn1 oLen (dVar 0)))) (toName 5) ownTurn [C0, some (.c 0), some (.d (.int k)), some (.d (.int b)), some (.d (.int c)), none] S1 = .nx [C0, some (.c 0), some (.d (.int k)), some (.d (.int b)), some (.d (.int own')), t'] S1 := by
            have eq' := eQ (ρ := [C0, some (.c 0), some (.d (.int k)), some (.d (.int b)), some (.d (.int c)), none]) (S := S1) (ns := ns) (k := k) rfl rfl hn h63
            have it := itRng_at eq' ⟨by omega, by omega⟩
            show (itRng _ _ S1).then_ _ _ = _
            rw [it]
            exact el
          have e4 : sSet 4 (dBin oIx (dVar 0) (dBin oMod (dVar 2) (dFn1 oLen (dVar 0)))) [C0, some (.c 0), some (.d (.int k)), some (.d (.int b)), none, none] S1 = .nx [C0, some (.c 0), some (.d (.int k)), some (.d (.int b)), some (.d (.int c)), none] S1 := sSet_at ec
          have tg : toB (dBin oGt (dVar 4) (dC (.int 0))) [C0, some (.c 0), some (.d (.int k)), some (.d (.int b)), some (.d (.int own')), t'] S1 = .ok (decide (own' > 0)) S1 := toB_at (dBin_at rfl rfl rfl rfl rfl)
          cases h3 : decide (own' > 0) with
          | true =>
            rw [h3] at tg
            have mo := fmod_in own' 306783379 (by decide)
            refine ⟨own'.fmod 306783379, ⟨mo.1, by omega⟩, sSeq_rt ((sIf_t (tAndD_t t0 (tAndD_t t1 t2))).trans ?_)⟩
            rw [sSeq_nx e4, sSeq_nx ef, sIf_t tg]
            exact sRet_at (dBin_at rfl rfl rfl rfl (mod_at _ _ (by decide)))
          | false =>
            rw [h3] at tg
            refine fin (some (.d (.int own'))) t' ((sIf_t (tAndD_t t0 (tAndD_t t1 t2))).trans ?_)
            rw [sSeq_nx e4, sSeq_nx ef, sIf_f tg]
            rfl
    · have t0 := pos_t (ρ := [C0, some (.c 0), some (.d (.int k)), some (.d (.int b)), none, none]) (S := S1) (ns := ns) rfl
      rw [decide_eq_false (by omega)] at t0
      exact fin none none (sIf_f (tAndD_f t0))
  obtain ⟨n, bn, e⟩ := main
  refine ⟨n, bn, ?_⟩
  have z := body_rt (np := 2) (nl := 6) (b := body_u_law_cell) (as := [.d (.list (intsD ns)), .c 0]) (S := .lst [.int k0] :: R) rfl e
  rw [show fn_u_law_cell = bodyFn 2 6 body_u_law_cell from rfl, z]
  show Res.ok _ (List.take _ (.lst [.int (k0 + 1)] :: R)) = _
  rw [List.take_of_length_le (by simp)]
end K65
set_option maxRecDepth 100000
set_option maxHeartbeats 1000000
namespace K65
open PySem PySem.Spec PyProof.Rows L2 Zz
abbrev CL (ns : List Int) : Val := .d (.list (intsD ns))
/-- a number that is drawn -/
def Nm (d : D) : Prop := ∃ i : Int, d = .int i ∧ i.natAbs < 10 ^ 61
theorem Nm.of {i : Int} (h : i.natAbs < 10 ^ 61) : Nm (.int i) := ⟨i, rfl, h⟩
theorem small_abs {i : Int} (h1 : -2147483647 ≤ i) (h2 : i ≤ 2147483647) : i.natAbs < 10 ^ 61 := by
  have : i.natAbs ≤ 2147483647 := by omega
  exact Nat.lt_of_le_of_lt this (by decide)
/-- one of a display, by an index within -/
theorem pick_at {g : Env' → M (List Val)} {f : Env' → M Val} {ρ : Env'} {S : List Cell} {ds : List D} {i : Int} (hg : g ρ S = .ok (ds.map .d) S) (hz : ds.length ≤ 16777216) (hf : f ρ S = .ok (.d (.int i)) S) (h0 : 0 ≤ i) (h1 : i < ds.length) : ∃ a, a ∈ ds ∧ dBin oIx (dLst g) f ρ S = .ok (.d a) S := by
  obtain ⟨a, ha, e⟩ := atI_in ds i h0 h1
  exact ⟨a, ha, dBin_at (dLst_at hg (frzs_d ds S) hz) hf rfl rfl e⟩
theorem number_f (ns : List Int) (h63 : ns.length ≤ 63) (k : Int) (hk0 : 0 ≤ k) (hk1 : k < 1000000) (R : List Cell) (sg : Str) (size : Int) (hs : 1 ≤ size) (hs2 : size ≤ 30) :
    ∃ v, Nm v ∧ fn_u_law_number [CL ns, .c 0, .d (.str sg), .d (.int size)] (.lst [.int k] :: R) = .ok (.d v) (.lst [.int (k + 1)] :: R) := by
  obtain ⟨n, ⟨bn0, bn1⟩, en⟩ := cell_f ns h63 k hk0 hk1 R
  have s1 : sSet 4 (dCall fn_u_law_cell (dCons (dVar 0) (dCons (dVar 1) dNil))) [some (CL ns), some (.c 0), some (.d (.str sg)), some (.d (.int size)), none] (.lst [.int k] :: R) = .nx [some (CL ns), some (.c 0), some (.d (.str sg)), some (.d (.int size)), some (.d (.int n))] (.lst [.int (k + 1)] :: R) :=
    sSet_at ((dCall_at (dCons_at rfl (dCons_at rfl rfl))).trans en)
  have fin : ∀ {v : D}, Nm v → body_u_law_number [some (CL ns), some (.c 0), some (.d (.str sg)), some (.d (.int size)), none] (.lst [.int k] :: R) = .rt (.d v) (.lst [.int (k + 1)] :: R) → ∃ v, Nm v ∧ fn_u_law_number [CL ns, .c 0, .d (.str sg), .d (.int size)] (.lst [.int k] :: R) = .ok (.d v) (.lst [.int (k + 1)] :: R) := fun {v} hv h => by
    refine ⟨v, hv, (body_rt (np := 4) (nl := 5) (b := body_u_law_number) (as := [CL ns, .c 0, .d (.str sg), .d (.int size)]) rfl h).trans ?_⟩
    show Res.ok _ (List.take _ (.lst [.int (k + 1)] :: R)) = _
    rw [List.take_of_length_le (by simp)]
  have d7 : 0 ≤ n.fdiv 4 ∧ n.fdiv 4 ≤ 2147483647 := by
    rw [Int.fdiv_eq_ediv_of_nonneg _ (by decide)]
    omega
  have t1 : toB (dBin oEq (dVar 2) (dC (.str "b"))) [some (CL ns), some (.c 0), some (.d (.str sg)), some (.d (.int size)), some (.d (.int n))] (.lst [.int (k + 1)] :: R) = .ok (decide (sg = "b")) (.lst [.int (k + 1)] :: R) := toB_at (dBin_at rfl rfl rfl rfl (eqS _ _))
  have t2 : toB (dBin oEq (dVar 2) (dC (.str "n"))) [some (CL ns), some (.c 0), some (.d (.str sg)), some (.d (.int size)), some (.d (.int n))] (.lst [.int (k + 1)] :: R) = .ok (decide (sg = "n")) (.lst [.int (k + 1)] :: R) := toB_at (dBin_at rfl rfl rfl rfl (eqS _ _))
  have t3 : toB (dBin oEq (dVar 2) (dC (.str "p"))) [some (CL ns), some (.c 0), some (.d (.str sg)), some (.d (.int size)), some (.d (.int n))] (.lst [.int (k + 1)] :: R) = .ok (decide (sg = "p")) (.lst [.int (k + 1)] :: R) := toB_at (dBin_at rfl rfl rfl rfl (eqS _ _))
  have m4 := fmod_in n 4 (by decide)
  have m5 := fmod_in (n.fdiv 7) 5 (by decide)
  have m3 := fmod_in n 3 (by decide)
  by_cases h1 : sg = "b"
  · rw [decide_eq_true h1] at t1
    have a1 := fmod_in (n.fdiv 4) 1000 (by decide)
    have a2 := fmod_in (n.fdiv 4) 9 (by decide)
    obtain ⟨a, ha, ea⟩ := pick_at (g := (dCons (dC (.int 0)) (dCons (dC (.int 999)) (dCons (dBin oMod (dBin oDiv (dVar 4) (dC (.int 4))) (dC (.int 1000))) (dCons (dBin oMod (dBin oDiv (dVar 4) (dC (.int 4))) (dC (.int 9))) dNil))))) (f := dBin oMod (dVar 4) (dC (.int 4))) (ρ := [some (CL ns), some (.c 0), some (.d (.str sg)), some (.d (.int size)), some (.d (.int n))]) (S := .lst [.int (k + 1)] :: R)
      (ds := [.int 0, .int 999, .int ((n.fdiv 4).fmod 1000), .int ((n.fdiv 4).fmod 9)]) (dCons_at rfl (dCons_at rfl (dCons_at (dBin_at (dBin_at rfl rfl rfl rfl (div_at _ _ (by decide) (by decide))) rfl rfl rfl (mod_at _ _ (by decide))) (dCons_at (dBin_at (dBin_at rfl rfl rfl rfl (div_at _ _ (by decide) (by decide))) rfl rfl rfl (mod_at _ _ (by decide))) rfl)))) (Nat.le_of_ble_eq_true rfl) (dBin_at rfl rfl rfl rfl (mod_at _ _ (by decide))) m4.1 (by show _ < ((4 : Nat) : Int); omega)
    refine fin (v := a) ?_ ?_
    · simp only [List.mem_cons, List.not_mem_nil, or_false] at ha
      rcases ha with rfl | rfl | rfl | rfl
      · exact Nm.of (by decide)
      · exact Nm.of (by decide)
      · exact Nm.of (small_abs (by omega) (by omega))
      · exact Nm.of (small_abs (by omega) (by omega))
    · unfold body_u_law_number
      rw [sSeq_nx s1]
      exact sSeq_rt ((sIf_t t1).trans (sRet_at ea))
  · rw [decide_eq_false h1] at t1
    by_cases h2 : sg = "n"
    · rw [decide_eq_true h2] at t2
      have a1 := fmod_in n 100 (by decide)
      obtain ⟨a, ha, ea⟩ := pick_at (g := (dCons (dC (.int 0)) (dCons (dFn1 oNeg (dC (.int 1))) (dCons (dBin oPow (dC (.int 10)) (dC (.int 60))) (dCons (dBin oSub (dC (.int 0)) (dVar 4)) (dCons (dBin oMod (dVar 4) (dC (.int 100))) dNil)))))) (f := dBin oMod (dBin oDiv (dVar 4) (dC (.int 7))) (dC (.int 5))) (ρ := [some (CL ns), some (.c 0), some (.d (.str sg)), some (.d (.int size)), some (.d (.int n))]) (S := .lst [.int (k + 1)] :: R)
        (ds := [.int 0, .int (-1), .int ((10 : Int) ^ (60 : Int).toNat), .int (0 - n), .int (n.fmod 100)]) (dCons_at rfl (dCons_at rfl (dCons_at (dBin_at rfl rfl rfl rfl (pow_at _ _ (by decide) (by decide) (by decide))) (dCons_at (dBin_at rfl rfl rfl rfl rfl) (dCons_at (dBin_at rfl rfl rfl rfl (mod_at _ _ (by decide))) rfl))))) (Nat.le_of_ble_eq_true rfl) (dBin_at (dBin_at rfl rfl rfl rfl (div_at _ _ (by decide) (by decide))) rfl rfl rfl (mod_at _ _ (by decide))) m5.1 (by show _ < ((5 : Nat) : Int); omega)
      refine fin (v := a) ?_ ?_
      · simp only [List.mem_cons, List.not_mem_nil, or_false] at ha
        rcases ha with rfl | rfl | rfl | rfl | rfl
        · exact Nm.of (by decide)
        · exact Nm.of (by decide)
        · exact Nm.of (by decide +kernel)
        · exact Nm.of (small_abs (by omega) (by omega))
        · exact Nm.of (small_abs (by omega) (by omega))
      · unfold body_u_law_number
        rw [sSeq_nx s1, sSeq_nx (sIf_skip t1)]
        exact sSeq_rt ((sIf_t t2).trans (sRet_at ea))
    · rw [decide_eq_false h2] at t2
      by_cases h3 : sg = "p"
      · rw [decide_eq_true h3] at t3
        have a1 := fmod_in n size (by omega)
        refine fin (v := .int (n.fmod size)) (Nm.of (small_abs (by omega) (by omega))) ?_
        unfold body_u_law_number
        rw [sSeq_nx s1, sSeq_nx (sIf_skip t1), sSeq_nx (sIf_skip t2)]
        exact sRet_at ((dIf_t t3).trans (dBin_at rfl rfl rfl rfl (mod_at _ _ (by omega))))
      · rw [decide_eq_false h3] at t3
        have a1 := fmod_in n 7 (by decide)
        obtain ⟨a, ha, ea⟩ := pick_at (g := (dCons (dC (.int 0)) (dCons (dBin oMod (dVar 4) (dC (.int 7))) (dCons (dBin oPow (dC (.int 10)) (dC (.int 9))) dNil)))) (f := dBin oMod (dVar 4) (dC (.int 3))) (ρ := [some (CL ns), some (.c 0), some (.d (.str sg)), some (.d (.int size)), some (.d (.int n))]) (S := .lst [.int (k + 1)] :: R)
          (ds := [.int 0, .int (n.fmod 7), .int ((10 : Int) ^ (9 : Int).toNat)]) (dCons_at rfl (dCons_at (dBin_at rfl rfl rfl rfl (mod_at _ _ (by decide))) (dCons_at (dBin_at rfl rfl rfl rfl (pow_at _ _ (by decide) (by decide) (by decide))) rfl))) (Nat.le_of_ble_eq_true rfl) (dBin_at rfl rfl rfl rfl (mod_at _ _ (by decide))) m3.1 (by show _ < ((3 : Nat) : Int); omega)
        refine fin (v := a) ?_ ?_
        · simp only [List.mem_cons, List.not_mem_nil, or_false] at ha
          rcases ha with rfl | rfl | rfl
          · exact Nm.of (by decide)
          · exact Nm.of (small_abs (by omega) (by omega))
          · exact Nm.of (by decide +kernel)
        · unfold body_u_law_number
          rw [sSeq_nx s1, sSeq_nx (sIf_skip t1), sSeq_nx (sIf_skip t2)]
          exact sRet_at ((dIf_f t3).trans ea)
/-- a comprehension whose value moves the spot -/
theorem lcGo_spot {g : Tg} {f : Env' → M Val} {ρ0 : Env'} {ρ1 : D → Env'} {P : D → Prop} (R : List Cell) : ∀ (ds acc : List D) (k : Int), acc.length + ds.length ≤ 16777216 → 0 ≤ k → k + ds.length ≤ 1000000 → (∀ d ∈ ds, g (.d d) ρ0 = some (ρ1 d)) →
    (∀ d ∈ ds, ∀ k : Int, 0 ≤ k → k < 1000000 → ∀ T, ∃ v, P v ∧ f (ρ1 d) (.lst [.int k] :: T) = .ok (.d v) (.lst [.int (k + 1)] :: T)) →
    ∃ vs : List D, vs.length = ds.length ∧ (∀ v ∈ vs, P v) ∧ lcGo g (kTest (fun _ => M.ret true) (kPush (R.length + 1) f)) ρ0 ds ((.lst [.int k] :: R) ++ [.lst acc]) = some ((.lst [.int (k + ds.length)] :: R) ++ [.lst (acc ++ vs)])
  | [], acc, k, _, _, _, _, _ => ⟨[], rfl, (fun _ h => nomatch h), by simp [lcGo]⟩
  | d :: ds, acc, k, hl, h0, hk, h1, h2 => by
    have hl' : acc.length + (ds.length + 1) ≤ 16777216 := hl
    rw [List.length_cons] at hk
    obtain ⟨v, pv, ev⟩ := h2 d List.mem_cons_self k h0 (by omega) (R ++ [.lst acc])
    obtain ⟨vs, e1, e2, e3⟩ := lcGo_spot (P := P) R ds (acc ++ [v]) (k + 1) (by simp; omega) (by omega) (by omega) (fun e he => h1 e (List.mem_cons_of_mem _ he)) (fun e he => h2 e (List.mem_cons_of_mem _ he))
    refine ⟨v :: vs, by rw [List.length_cons, List.length_cons, e1], fun x hx => (List.mem_cons.mp hx).elim (fun z => z ▸ pv) (e2 x), ?_⟩
    unfold lcGo
    rw [h1 d List.mem_cons_self]
    show (kTest (fun _ => M.ret true) (kPush (R.length + 1) f) (ρ1 d) ((.lst [.int k] :: R) ++ [.lst acc])).bind _ = _
    unfold kTest
    show (kPush (R.length + 1) f (ρ1 d) (.lst [.int k] :: (R ++ [.lst acc]))).bind _ = _
    unfold kPush
    rw [ev]
    show (push (R.length + 1) v (.lst [.int (k + 1)] :: (R ++ [.lst acc]))).bind _ = _
    have get : (Cell.lst [.int (k + 1)] :: (R ++ [.lst acc]))[R.length + 1]? = some (.lst acc) := by
      rw [List.getElem?_cons_succ, getLast_at]
    unfold push
    rw [get]
    dsimp only
    rw [if_pos (by omega)]
    have st : (Cell.lst [.int (k + 1)] :: (R ++ [.lst acc])).set (R.length + 1) (.lst (acc ++ [v])) = (.lst [.int (k + 1)] :: R) ++ [.lst (acc ++ [v])] := by
      rw [List.set_cons_succ, setLast_at]; rfl
    rw [st]
    refine e3.trans ?_
    rw [List.append_assoc, List.length_cons]
    have ek : k + 1 + (ds.length : Int) = k + ((ds.length + 1 : Nat) : Int) := by omega
    rw [ek]
    rfl
end K65
set_option maxRecDepth 100000
set_option maxHeartbeats 1000000
namespace K65
open PySem PySem.Spec PyProof.Rows L2 Zz
theorem dLc_at {it : Env' → M (List D)} {g : Tg} {k : Nat → Kt} {vs : List Nat} {ρ : Env'} {S S1 : List Cell} {ds : List D} (hi : it ρ S = .ok ds S1) : dLc it g k vs ρ S = lcEnd S1.length (lcGo g (k S1.length) (wipeE ρ vs) ds (S1 ++ [.lst []])) := by
  show (it ρ S).bind _ = _
  rw [hi]
  rfl
theorem rd_last (c : Cell) (R : List Cell) (acc : List D) : rd (c :: (R ++ [Cell.lst acc])) (.c (R.length + 1)) = some (.list acc) := by
  have get : (c :: (R ++ [Cell.lst acc]))[R.length + 1]? = some (.lst acc) := by rw [List.getElem?_cons_succ, getLast_at]
  unfold rd
  simp only [get]
/-- an order that is drawn -/
def Od (o : D) : Prop := ∃ (w : Str) (r : List D), o = .tuple (.str w :: r) ∧ w.length ≤ 8 ∧ (w.cps.toList.all fun c => decide (c < 16 ^ 8)) = true ∧ r.length ≤ 3 ∧ ∀ x ∈ r, Nm x
abbrev turnC : SD := (sSeq (sAsg (toTup (toCons (toName 5) (toCons (toName 6) toNil))) (dBin oIx (dCall fn_u_law_shapes fun _ => M.ret []) (dBin oMod (dCall fn_u_law_cell (dCons (dVar 0) (dCons (dVar 1) dNil))) (dC (.int 11))))) (sExpr (dApp (dVar 3) (dBin oAdd (dTup (dCons (dVar 5) dNil)) (dFn1 oTuple (dLc (itAny (dVar 6)) (toName 7) (fun l => kTest (fun _ => M.ret true) (kPush l (dCall fn_u_law_number (dCons (dVar 0) (dCons (dVar 1) (dCons (dVar 7) (dCons (dVar 2) dNil))))))) [7]))))))
theorem rows_short : ∀ p ∈ rowsS, p.1.length ≤ 8 ∧ p.2.cps.toList.length ≤ 3 := by decide +kernel
theorem rows_low : ∀ p ∈ rowsS, (p.1.cps.toList.all fun c => decide (c < 16 ^ 8)) = true := by decide +kernel
theorem turnC_f (ns : List Int) (h63 : ns.length ≤ 63) (k : Int) (hk0 : 0 ≤ k) (hk1 : k + 10 < 1000000) (R : List Cell) (acc : List D) (hacc : acc.length < 1000) (size : Int) (hs : 1 ≤ size) (hs2 : size ≤ 30) (a4 a5 a6 a7 : Option Val) :
    ∃ (o : D) (k' : Int) (b5 b6 b7 : Option Val), Od o ∧ k ≤ k' ∧ k' ≤ k + 4 ∧ turnC [some (CL ns), some (.c 0), some (.d (.int size)), some (.c (R.length + 1)), a4, a5, a6, a7] (.lst [.int k] :: (R ++ [.lst acc])) = .nx [some (CL ns), some (.c 0), some (.d (.int size)), some (.c (R.length + 1)), a4, b5, b6, b7] (.lst [.int k'] :: (R ++ [.lst (acc ++ [o])])) := by
  obtain ⟨n, ⟨bn0, bn1⟩, en⟩ := cell_f ns h63 k hk0 (by omega) (R ++ [.lst acc])
  have m := fmod_in n 11 (by decide)
  obtain ⟨row, hrow, er⟩ := atI_in rowsD (n.fmod 11) m.1 (by show _ < ((11 : Nat) : Int); omega)
  obtain ⟨p, hp, rfl⟩ := List.mem_map.mp hrow
  obtain ⟨q1, q2⟩ := rows_short p hp
  have g1 : dBin oIx (dCall fn_u_law_shapes fun _ => M.ret []) (dBin oMod (dCall fn_u_law_cell (dCons (dVar 0) (dCons (dVar 1) dNil))) (dC (.int 11))) [some (CL ns), some (.c 0), some (.d (.int size)), some (.c (R.length + 1)), a4, a5, a6, a7] (.lst [.int k] :: (R ++ [.lst acc])) = .ok (.d (.tuple [.str p.1, .str p.2])) (.lst [.int (k + 1)] :: (R ++ [.lst acc])) :=
    dBin_at (x := .list rowsD) ((dCall_at (xs := []) rfl).trans (shapes_f _)) (dBin_at ((dCall_at (dCons_at rfl (dCons_at rfl rfl))).trans en) rfl rfl rfl (mod_at _ _ (by decide))) rfl rfl er
  have s1 : sAsg (toTup (toCons (toName 5) (toCons (toName 6) toNil))) (dBin oIx (dCall fn_u_law_shapes fun _ => M.ret []) (dBin oMod (dCall fn_u_law_cell (dCons (dVar 0) (dCons (dVar 1) dNil))) (dC (.int 11)))) [some (CL ns), some (.c 0), some (.d (.int size)), some (.c (R.length + 1)), a4, a5, a6, a7] (.lst [.int k] :: (R ++ [.lst acc])) = .nx [some (CL ns), some (.c 0), some (.d (.int size)), some (.c (R.length + 1)), a4, some (.d (.str p.1)), some (.d (.str p.2)), a7] (.lst [.int (k + 1)] :: (R ++ [.lst acc])) := by
    unfold sAsg
    rw [g1]
    rfl
  let ρ : Env' := [some (CL ns), some (.c 0), some (.d (.int size)), some (.c (R.length + 1)), a4, some (.d (.str p.1)), some (.d (.str p.2)), a7]
  have hsg : ∀ d ∈ Zz.signs p.2, ∃ c : Str, d = .str c := fun d hd => by
    obtain ⟨c, _, rfl⟩ := List.mem_map.mp hd
    exact ⟨_, rfl⟩
  have hsl : (Zz.signs p.2).length ≤ 3 := by unfold Zz.signs; rw [List.length_map]; exact q2
  obtain ⟨vs, e1, e2, e3⟩ := lcGo_spot (P := Nm) (g := toName 7) (f := dCall fn_u_law_number (dCons (dVar 0) (dCons (dVar 1) (dCons (dVar 7) (dCons (dVar 2) dNil))))) (ρ0 := [some (CL ns), some (.c 0), some (.d (.int size)), some (.c (R.length + 1)), a4, some (.d (.str p.1)), some (.d (.str p.2)), none])
    (ρ1 := fun d => [some (CL ns), some (.c 0), some (.d (.int size)), some (.c (R.length + 1)), a4, some (.d (.str p.1)), some (.d (.str p.2)), some (.d d)]) (R ++ [.lst acc]) (Zz.signs p.2) [] (k + 1) (by rw [List.length_nil]; omega) (by omega) (by omega) (fun d _ => rfl) fun d hd k2 h0 h1 T => by
      obtain ⟨c, rfl⟩ := hsg d hd
      obtain ⟨v, hv, ev⟩ := number_f ns h63 k2 h0 h1 T c size hs hs2
      exact ⟨v, hv, (dCall_at (dCons_at rfl (dCons_at rfl (dCons_at rfl (dCons_at rfl rfl))))).trans ev⟩
  let k' : Int := k + 1 + (Zz.signs p.2).length
  have lc : dLc (itAny (dVar 6)) (toName 7) (fun l => kTest (fun _ => M.ret true) (kPush l (dCall fn_u_law_number (dCons (dVar 0) (dCons (dVar 1) (dCons (dVar 7) (dCons (dVar 2) dNil))))))) [7] ρ (.lst [.int (k + 1)] :: (R ++ [.lst acc])) = .ok (.d (.list vs)) (.lst [.int k'] :: (R ++ [.lst acc])) := by
    have hi : itAny (dVar 6) ρ (.lst [.int (k + 1)] :: (R ++ [.lst acc])) = .ok (Zz.signs p.2) (.lst [.int (k + 1)] :: (R ++ [.lst acc])) := itAny_at (d := .str p.2) rfl rfl
    rw [dLc_at hi]
    show lcEnd ((R ++ [Cell.lst acc]).length + 1) (lcGo (toName 7) _ _ (Zz.signs p.2) ((.lst [.int (k + 1)] :: (R ++ [.lst acc])) ++ [.lst []])) = _
    refine (congrArg (lcEnd _) e3).trans ?_
    rw [List.nil_append]
    have z := lcEnd_at (.lst [.int (k + 1 + (Zz.signs p.2).length)] :: (R ++ [.lst acc])) vs
    rw [List.length_cons] at z
    exact z
  refine ⟨.tuple (.str p.1 :: vs), k', some (.d (.str p.1)), some (.d (.str p.2)), a7, ⟨p.1, vs, rfl, q1, rows_low p hp, by rw [e1]; exact hsl, e2⟩, by show k ≤ k + 1 + _; omega, by show k + 1 + _ ≤ _; omega, ?_⟩
  show sSeq _ _ _ _ = _
  rw [sSeq_nx s1]
  have ap : dApp (dVar 3) (dBin oAdd (dTup (dCons (dVar 5) dNil)) (dFn1 oTuple (dLc (itAny (dVar 6)) (toName 7) (fun l => kTest (fun _ => M.ret true) (kPush l (dCall fn_u_law_number (dCons (dVar 0) (dCons (dVar 1) (dCons (dVar 7) (dCons (dVar 2) dNil))))))) [7]))) ρ (.lst [.int (k + 1)] :: (R ++ [.lst acc])) = .ok (.d .none) (.lst [.int k'] :: (R ++ [.lst (acc ++ [.tuple (.str p.1 :: vs)])])) := by
    have get : ∀ c : Cell, (c :: (R ++ [Cell.lst acc]))[R.length + 1]? = some (.lst acc) := fun c => by rw [List.getElem?_cons_succ, getLast_at]
    refine dApp_at (l := R.length + 1) (d := .tuple (.str p.1 :: vs)) rfl ?_ (dBin_at (x := .tuple [.str p.1]) (y := .tuple vs) (dTup_at (xs := [.d (.str p.1)]) rfl rfl (Nat.le_of_ble_eq_true rfl)) (dFn1_at lc rfl rfl) rfl rfl ?_) ?_
    · unfold isLst
      rw [rd_last]
    · show (if [PyData.str p.1].length + vs.length ≤ 16777216 then _ else _) = _
      rw [if_pos (by rw [e1]; show 1 + _ ≤ _; omega)]
      rfl
    · unfold push
      rw [get]
      dsimp only
      rw [if_pos (by omega), List.set_cons_succ, setLast_at]
  exact sExpr_at ap
theorem loopC_f (ns : List Int) (h63 : ns.length ≤ 63) (R : List Cell) (size : Int) (hs : 1 ≤ size) (hs2 : size ≤ 30) : ∀ (ds acc : List D) (k : Int) (a4 a5 a6 a7 : Option Val), 0 ≤ k → k + 4 * ds.length + 10 < 1000000 → acc.length + ds.length < 1000 → (∀ o ∈ acc, Od o) →
    ∃ (os : List D) (k' : Int) (b4 b5 b6 b7 : Option Val), os.length = acc.length + ds.length ∧ (∀ o ∈ os, Od o) ∧ k ≤ k' ∧ k' ≤ k + 4 * ds.length ∧ forGo (toName 4) turnC ds [some (CL ns), some (.c 0), some (.d (.int size)), some (.c (R.length + 1)), a4, a5, a6, a7] (.lst [.int k] :: (R ++ [.lst acc])) = .nx [some (CL ns), some (.c 0), some (.d (.int size)), some (.c (R.length + 1)), b4, b5, b6, b7] (.lst [.int k'] :: (R ++ [.lst os]))
  | [], acc, k, a4, a5, a6, a7, h0, h1, h2, h3 => ⟨acc, k, a4, a5, a6, a7, by simp, h3, Int.le_refl _, by simp, rfl⟩
  | d :: ds, acc, k, a4, a5, a6, a7, h0, h1, h2, h3 => by
    rw [List.length_cons] at h1 h2
    obtain ⟨o, k1, c5, c6, c7, ho, l1, l2, st⟩ := turnC_f ns h63 k h0 (by omega) R acc (by omega) size hs hs2 (some (.d d)) a5 a6 a7
    obtain ⟨os, k', b4, b5, b6, b7, e1, e2, e3, e4, e5⟩ := loopC_f ns h63 R size hs hs2 ds (acc ++ [o]) k1 (some (.d d)) c5 c6 c7 (by omega) (by omega) (by simp; omega) (fun x hx => (List.mem_append.mp hx).elim (h3 x) fun z => by
      have : x = o := by simpa using z
      rw [this]; exact ho)
    refine ⟨os, k', b4, b5, b6, b7, by rw [e1, List.length_append, List.length_cons, List.length_cons, List.length_nil]; omega, e2, by omega, by rw [List.length_cons]; omega, ?_⟩
    show (match turnC [some (CL ns), some (.c 0), some (.d (.int size)), some (.c (R.length + 1)), some (.d d), a5, a6, a7] (.lst [.int k] :: (R ++ [.lst acc])) with | .nx ρ2 S2 => forGo (toName 4) turnC ds ρ2 S2 | .ct ρ2 S2 => forGo (toName 4) turnC ds ρ2 S2 | .bk ρ2 S2 => .nx ρ2 S2 | .rt v S2 => .rt v S2 | .ex x ρ2 S2 => .ex x ρ2 S2 | .st => .st) = _
    rw [st]
    exact e5
theorem code_draw (ns : List Int) (h63 : ns.length ≤ 63) (k : Int) (hk0 : 0 ≤ k) (hk1 : k < 990000) (R : List Cell) : ∃ (os : List D) (k' : Int), 1 ≤ os.length ∧ os.length ≤ 30 ∧ (∀ o ∈ os, Od o) ∧ k ≤ k' ∧ k' ≤ k + 121 ∧
    fn_u_law_code [CL ns, .c 0] (.lst [.int k] :: R) = .ok (.d (.tuple os)) (.lst [.int k'] :: R) := by
  obtain ⟨n, ⟨bn0, bn1⟩, en⟩ := cell_f ns h63 k hk0 (by omega) R
  have m := fmod_in n 30 (by decide)
  let size : Int := 1 + n.fmod 30
  have p1 : sPar 2 3 (dCons (dBin oAdd (dC (.int 1)) (dBin oMod (dCall fn_u_law_cell (dCons (dVar 0) (dCons (dVar 1) dNil))) (dC (.int 30)))) (dCons (dLstC dNil) dNil)) [some (CL ns), some (.c 0), none, none, none, none, none, none] (.lst [.int k] :: R) = .nx [some (CL ns), some (.c 0), some (.d (.int size)), some (.c (R.length + 1)), none, none, none, none] (.lst [.int (k + 1)] :: (R ++ [.lst []])) := by
    have aa : dCons (dBin oAdd (dC (.int 1)) (dBin oMod (dCall fn_u_law_cell (dCons (dVar 0) (dCons (dVar 1) dNil))) (dC (.int 30)))) (dCons (dLstC dNil) dNil) [some (CL ns), some (.c 0), none, none, none, none, none, none] (.lst [.int k] :: R) = .ok [.d (.int size), .c (R.length + 1)] (.lst [.int (k + 1)] :: (R ++ [.lst []])) :=
      dCons_at (dBin_at rfl (dBin_at ((dCall_at (dCons_at rfl (dCons_at rfl rfl))).trans en) rfl rfl rfl (mod_at _ _ (by decide))) rfl rfl (add_at _ _)) (dCons_at (dLstC_at (S1 := .lst [.int (k + 1)] :: R) (S2 := .lst [.int (k + 1)] :: R) (xs := []) (ds := []) rfl rfl (by decide)) rfl)
    unfold sPar
    rw [aa]
    rfl
  have hsz : size.toNat ≤ 30 := by show (1 + n.fmod 30).toNat ≤ 30; omega
  have hsz1 : 1 ≤ size.toNat := by show 1 ≤ (1 + n.fmod 30).toNat; omega
  obtain ⟨os, k', b4, b5, b6, b7, e1, e2, e3, e4, e5⟩ := loopC_f ns h63 R size (by show 1 ≤ 1 + n.fmod 30; omega) (by show 1 + n.fmod 30 ≤ 30; omega) ((List.range size.toNat).map fun i : Nat => .int (0 + i)) [] (k + 1) none none none none (by omega) (by rw [List.length_map, List.length_range]; omega) (by rw [List.length_map, List.length_range, List.length_nil]; omega) (fun _ h => nomatch h)
  rw [List.length_map, List.length_range] at e4
  rw [List.length_map, List.length_range, List.length_nil] at e1
  refine ⟨os, k', by omega, by omega, e2, by omega, by omega, ?_⟩
  have lo : sFor (itRng (dVar 2)) (toName 4) turnC [some (CL ns), some (.c 0), some (.d (.int size)), some (.c (R.length + 1)), none, none, none, none] (.lst [.int (k + 1)] :: (R ++ [.lst []])) = .nx [some (CL ns), some (.c 0), some (.d (.int size)), some (.c (R.length + 1)), b4, b5, b6, b7] (.lst [.int k'] :: (R ++ [.lst os])) :=
    (sFor_at (itRng_at (j := size) rfl ⟨by show -(2 ^ 62) ≤ 1 + n.fmod 30; omega, by show 1 + n.fmod 30 < 2 ^ 62; omega⟩)).trans e5
  have rdv : rd (Cell.lst [.int k'] :: (R ++ [Cell.lst os])) (.c (R.length + 1)) = some (.list os) := rd_last _ R os
  have bd : body_u_law_code [some (CL ns), some (.c 0), none, none, none, none, none, none] (.lst [.int k] :: R) = .rt (.d (.tuple os)) (.lst [.int k'] :: (R ++ [.lst os])) := by
    unfold body_u_law_code
    rw [sSeq_nx p1, sSeq_nx lo]
    exact sRet_at (dFn1_at rfl rdv rfl)
  refine (body_rt (np := 2) (nl := 8) (b := body_u_law_code) (as := [CL ns, .c 0]) rfl bd).trans ?_
  show Res.ok _ (List.take (R.length + 1) (.lst [.int k'] :: (R ++ [.lst os]))) = _
  rw [List.take_succ_cons, List.take_left']
  rfl
end K65
set_option maxRecDepth 100000
set_option maxHeartbeats 1000000
namespace K65
open PySem PySem.Spec PyProof.Rows L2 Zz
/-! ### what is drawn is good -/
theorem Gw.str {c : Bool} {w : Str} (h : w.length ≤ 8) (h2 : (w.cps.toList.all fun c => decide (c < 16 ^ 8)) = true) : Gw c 0 220 (.str w) := by
  refine ⟨by rw [PyData.showable], by rw [PyData.leavesShort]; exact h2, Nat.zero_le _, ?_, by cases c <;> rfl⟩
  rw [PyData.weight]
  have : w.cps.size = w.length := rfl
  omega
def Piece (c : Bool) (x : D) : Prop := Gw c 1 230 x
theorem Nm.piece {c : Bool} {x : D} (h : Nm x) : Piece c x := by
  obtain ⟨i, rfl, h⟩ := h
  exact (Gw.int h).mono (Nat.zero_le _) (by decide)
/-- the pieces of an order, at most five -/
def Ord (c : Bool) (l : List D) : Prop := l.length ≤ 5 ∧ ∀ x ∈ l, Piece c x
/-- an order, or what stands in its place -/
def Itm (c : Bool) (o : D) : Prop := Gw c 2 1155 o
theorem Ord.itm {c : Bool} {l : List D} (h : Ord c l) : Itm c (.tuple l) := (Gw.tup h.2 h.1).mono (by decide) (by decide)
theorem Ord.itmL {l : List D} (h : Ord true l) : Itm true (.list l) := (Gw.lst h.2 h.1).mono (by decide) (by decide)
theorem Piece.itm {c : Bool} {x : D} (h : Piece c x) : Itm c x := h.mono (by decide) (by decide)
def Its_ (c : Bool) (l : List D) : Prop := l.length ≤ 70 ∧ ∀ x ∈ l, Itm c x
theorem Its_.gd {c : Bool} {l : List D} (h : Its_ c l) : Gd (.tuple l) := (Gw.tup h.2 h.1).gd (by decide) (by decide)
theorem Its_.gdL {l : List D} (h : Its_ true l) : Gd (.list l) := (Gw.lst h.2 h.1).gd (by decide) (by decide)
end K65
set_option maxRecDepth 100000
set_option maxHeartbeats 2000000
namespace K65
open PySem PySem.Spec PyProof.Rows L2 Zz
theorem Od.ord {o : D} (h : Od o) : ∃ m, o = .tuple m ∧ 1 ≤ m.length ∧ m.length ≤ 4 ∧ ∀ c, ∀ x ∈ m, Piece c x := by
  obtain ⟨w, r, rfl, h1, h2, h3, h4⟩ := h
  refine ⟨_, rfl, by simp, by rw [List.length_cons]; omega, fun c x hx => ?_⟩
  rcases List.mem_cons.mp hx with rfl | hx
  · exact (Gw.str h1 h2).mono (Nat.zero_le _) (by decide)
  · exact (h4 x hx).piece
theorem Od.itm {o : D} (h : Od o) (c : Bool) : Itm c o := by
  obtain ⟨m, rfl, _, h2, h3⟩ := h.ord
  exact Ord.itm ⟨by omega, h3 c⟩
theorem Itm.its {c : Bool} {A B : List D} {o : D} (hA : A.length ≤ 30 ∧ ∀ x ∈ A, Itm c x) (hB : B.length ≤ 30 ∧ ∀ x ∈ B, Itm c x) (ho : Itm c o) : Its_ c (A ++ [o] ++ B) := by
  refine ⟨by rw [List.length_append, List.length_append, List.length_cons, List.length_nil]; omega, fun x hx => ?_⟩
  rcases List.mem_append.mp hx with hx | hx
  · rcases List.mem_append.mp hx with hx | hx
    · exact hA.2 x hx
    · have : x = o := by simpa using hx
      rw [this]; exact ho
  · exact hB.2 x hx
theorem cat_at {f g : Env' → M Val} {ρ : Env'} {S S1 S2 : List Cell} {x y : List D} (h : f ρ S = .ok (.d (.tuple x)) S1) (h2 : g ρ S1 = .ok (.d (.tuple y)) S2) (hz : x.length + y.length ≤ 1000) : dBin oAdd f g ρ S = .ok (.d (.tuple (x ++ y))) S2 :=
  dBin_at h h2 rfl rfl (by
    show (if x.length + y.length ≤ 16777216 then some (PyData.tuple (x ++ y)) else none) = _
    rw [if_pos (by omega)])
theorem sl_at {f : Env' → M Val} {p p' : PtD} {ρ : Env'} {S S1 S2 S3 : List Cell} {x : List D} {lo hi : Option Int} (h : f ρ S = .ok (.d (.tuple x)) S1) (hp : p ρ S1 = .ok lo S2) (hp' : p' ρ S2 = .ok hi S3) : dSl f p p' ρ S = .ok (.d (.tuple (Zz.cutD x lo hi))) S3 := dSl_at h hp hp' rfl rfl
def odds (n : Nat) : List D := [.none, .bool true, .bool false, .int 0, .int 1, .int (-1), .int 999, .int 1000, .int n, .str "1", .tuple [], .list [], .dict [], .str "jump", .tuple [.int 1], .int ((10 : Int) ^ (40 : Int).toNat)]
theorem odd_piece (n : Nat) (hn : n ≤ 1000) (a : D) (ha : a ∈ odds n) : ∃ c, Piece c a := by
  unfold odds at ha
  simp only [List.mem_cons, List.not_mem_nil, or_false] at ha
  rcases ha with rfl | rfl | rfl | rfl | rfl | rfl | rfl | rfl | rfl | rfl | rfl | rfl | rfl | rfl | rfl | rfl
  · exact ⟨true, Gw.of (by decide +kernel)⟩
  · exact ⟨true, Gw.of (by decide +kernel)⟩
  · exact ⟨true, Gw.of (by decide +kernel)⟩
  · exact ⟨true, (Gw.int (by decide)).mono (Nat.zero_le _) (by decide)⟩
  · exact ⟨true, (Gw.int (by decide)).mono (Nat.zero_le _) (by decide)⟩
  · exact ⟨true, (Gw.int (by decide)).mono (Nat.zero_le _) (by decide)⟩
  · exact ⟨true, (Gw.int (by decide)).mono (Nat.zero_le _) (by decide)⟩
  · exact ⟨true, (Gw.int (by decide)).mono (Nat.zero_le _) (by decide)⟩
  · exact ⟨true, (Gw.int (small_abs (by omega) (by omega))).mono (Nat.zero_le _) (by decide)⟩
  · exact ⟨true, Gw.of (by decide +kernel)⟩
  · exact ⟨true, Gw.of (by decide +kernel)⟩
  · exact ⟨true, Gw.of (by decide +kernel)⟩
  · exact ⟨false, Gw.of (by decide +kernel)⟩
  · exact ⟨true, Gw.of (by decide +kernel)⟩
  · exact ⟨true, Gw.of (by decide +kernel)⟩
  · exact ⟨true, (Gw.int (by decide +kernel)).mono (Nat.zero_le _) (by decide)⟩
end K65
set_option maxRecDepth 100000
set_option maxHeartbeats 4000000
namespace K65
open PySem PySem.Spec PyProof.Rows L2 Zz
abbrev tkE : Env' → M Val := (dSl (dVar 2) pNone (pSome (dVar 4)))
abbrev drE : Env' → M Val := (dSl (dVar 2) (pSome (dBin oAdd (dVar 4) (dC (.int 1)))) pNone)
theorem bent_f (ns : List Int) (h63 : ns.length ≤ 63) (k : Int) (hk0 : 0 ≤ k) (hk1 : k < 990000) (R : List Cell) (os : List D) (ho1 : 1 ≤ os.length) (ho2 : os.length ≤ 30) (ho : ∀ o ∈ os, Od o) :
    ∃ d, Gd d ∧ fn_u_law_bent [CL ns, .c 0, .d (.tuple os)] (.lst [.int k] :: R) = .ok (.d d) (.lst [.int (k + 2)] :: R) := by
  obtain ⟨n, ⟨bn0, bn1⟩, en⟩ := cell_f ns h63 k hk0 (by omega) R
  obtain ⟨m, ⟨bm0, bm1⟩, em⟩ := cell_f ns h63 (k + 1) (by omega) (by omega) R
  have ek : k + 1 + 1 = k + 2 := by omega
  rw [ek] at em
  let S : List Cell := .lst [.int (k + 2)] :: R
  have hL : (0 : Int) < os.length := by omega
  let at_ : Int := n.fmod os.length
  have hat : 0 ≤ at_ ∧ at_ < os.length := fmod_in n os.length hL
  obtain ⟨j, ej, hj⟩ := fmod_nat (n.fdiv 30) 7 (by decide)
  obtain ⟨o, hoo, eo⟩ := atI_in os at_ hat.1 hat.2
  obtain ⟨mm, rfl, m1, m2, m3⟩ := (ho o hoo).ord
  have m16 := fmod_in m 16 (by decide)
  -- the draws
  have s1 : sSet 3 (dCall fn_u_law_cell (dCons (dVar 0) (dCons (dVar 1) dNil))) [some (CL ns), some (.c 0), some (.d (.tuple os)), none, none, none, none, none, none, none] (.lst [.int k] :: R) = .nx [some (CL ns), some (.c 0), some (.d (.tuple os)), some (.d (.int n)), none, none, none, none, none, none] (.lst [.int (k + 1)] :: R) :=
    sSet_at ((dCall_at (dCons_at rfl (dCons_at rfl rfl))).trans en)
  have s2 : sPar 4 5 (dCons (dBin oMod (dVar 3) (dFn1 oLen (dVar 2))) (dCons (dBin oMod (dBin oDiv (dVar 3) (dC (.int 30))) (dC (.int 7))) dNil)) [some (CL ns), some (.c 0), some (.d (.tuple os)), some (.d (.int n)), none, none, none, none, none, none] (.lst [.int (k + 1)] :: R) = .nx [some (CL ns), some (.c 0), some (.d (.tuple os)), some (.d (.int n)), some (.d (.int at_)), some (.d (.int (j : Int))), none, none, none, none] (.lst [.int (k + 1)] :: R) := by
    have aa : dCons (dBin oMod (dVar 3) (dFn1 oLen (dVar 2))) (dCons (dBin oMod (dBin oDiv (dVar 3) (dC (.int 30))) (dC (.int 7))) dNil) [some (CL ns), some (.c 0), some (.d (.tuple os)), some (.d (.int n)), none, none, none, none, none, none] (.lst [.int (k + 1)] :: R) = .ok [.d (.int at_), .d (.int (j : Int))] (.lst [.int (k + 1)] :: R) :=
      dCons_at (dBin_at rfl (dFn1_at rfl rfl rfl) rfl rfl (mod_at _ _ (by omega))) (dCons_at (dBin_at (dBin_at rfl rfl rfl rfl (div_at _ _ (by decide) (by decide))) rfl rfl rfl ((mod_at _ _ (by decide)).trans (by rw [show (7 : Int) = ((7 : Nat) : Int) from rfl, ej]))) rfl)
    unfold sPar
    rw [aa]
    rfl
  have s3 : sPar 6 7 (dCons (dBin oIx (dVar 2) (dVar 4)) (dCons (dCall fn_u_law_cell (dCons (dVar 0) (dCons (dVar 1) dNil))) dNil)) [some (CL ns), some (.c 0), some (.d (.tuple os)), some (.d (.int n)), some (.d (.int at_)), some (.d (.int (j : Int))), none, none, none, none] (.lst [.int (k + 1)] :: R) = .nx [some (CL ns), some (.c 0), some (.d (.tuple os)), some (.d (.int n)), some (.d (.int at_)), some (.d (.int (j : Int))), some (.d (.tuple mm)), some (.d (.int m)), none, none] S := by
    have aa : dCons (dBin oIx (dVar 2) (dVar 4)) (dCons (dCall fn_u_law_cell (dCons (dVar 0) (dCons (dVar 1) dNil))) dNil) [some (CL ns), some (.c 0), some (.d (.tuple os)), some (.d (.int n)), some (.d (.int at_)), some (.d (.int (j : Int))), none, none, none, none] (.lst [.int (k + 1)] :: R) = .ok [.d (.tuple mm), .d (.int m)] S :=
      dCons_at (dBin_at rfl rfl rfl rfl eo) (dCons_at ((dCall_at (dCons_at rfl (dCons_at rfl rfl))).trans em) rfl)
    unfold sPar
    rw [aa]
    rfl
  obtain ⟨odd, hodd, eodd⟩ := pick_at (g := (dCons (dC (.none)) (dCons (dC (.bool true)) (dCons (dC (.bool false)) (dCons (dC (.int 0)) (dCons (dC (.int 1)) (dCons (dFn1 oNeg (dC (.int 1))) (dCons (dC (.int 999)) (dCons (dC (.int 1000)) (dCons (dFn1 oLen (dVar 2)) (dCons (dC (.str "1")) (dCons (dTup dNil) (dCons (dLst dNil) (dCons dDict0 (dCons (dC (.str "jump")) (dCons (dTup (dCons (dC (.int 1)) dNil)) (dCons (dBin oPow (dC (.int 10)) (dC (.int 40))) dNil)))))))))))))))))
    (f := dBin oMod (dVar 7) (dC (.int 16))) (ρ := [some (CL ns), some (.c 0), some (.d (.tuple os)), some (.d (.int n)), some (.d (.int at_)), some (.d (.int (j : Int))), some (.d (.tuple mm)), some (.d (.int m)), none, none]) (S := S) (ds := odds os.length)
    (dCons_at rfl (dCons_at rfl (dCons_at rfl (dCons_at rfl (dCons_at rfl (dCons_at rfl (dCons_at rfl (dCons_at rfl (dCons_at (dFn1_at rfl rfl rfl) (dCons_at rfl (dCons_at (dTup_at (xs := []) (ds := []) rfl rfl (by decide)) (dCons_at (dLst_at (xs := []) (ds := []) rfl rfl (by decide)) (dCons_at rfl (dCons_at rfl (dCons_at (dTup_at (xs := [.d (.int 1)]) (ds := [.int 1]) rfl rfl (by decide)) (dCons_at (dBin_at rfl rfl rfl rfl (pow_at _ _ (by decide) (by decide) (by decide))) rfl))))))))))))))))
    (Nat.le_of_ble_eq_true rfl) (dBin_at rfl rfl rfl rfl (mod_at _ _ (by decide))) m16.1 (by show _ < ((16 : Nat) : Int); omega)
  obtain ⟨c, hc⟩ := odd_piece os.length (by omega) odd hodd
  let ρ (p : Option Val) : Env' := [some (CL ns), some (.c 0), some (.d (.tuple os)), some (.d (.int n)), some (.d (.int at_)), some (.d (.int (j : Int))), some (.d (.tuple mm)), some (.d (.int m)), some (.d odd), p]
  have s4 := sSet_at (i := 8) eodd
  -- the cut orders
  have A := cut_sub os none (some at_)
  have B := cut_sub os (some (at_ + 1)) none
  have hA : ∀ c', (Zz.cutD os none (some at_)).length ≤ 30 ∧ ∀ x ∈ Zz.cutD os none (some at_), Itm c' x := fun c' => ⟨by omega, fun x hx => (ho x (A.2 x hx)).itm c'⟩
  have hB : ∀ c', (Zz.cutD os (some (at_ + 1)) none).length ≤ 30 ∧ ∀ x ∈ Zz.cutD os (some (at_ + 1)) none, Itm c' x := fun c' => ⟨by omega, fun x hx => (ho x (B.2 x hx)).itm c'⟩
  have tk : ∀ p, tkE (ρ p) S = .ok (.d (.tuple (Zz.cutD os none (some at_)))) S := fun p => sl_at rfl rfl (pSome_at rfl rfl)
  have dr : ∀ p, drE (ρ p) S = .ok (.d (.tuple (Zz.cutD os (some (at_ + 1)) none))) S := fun p => sl_at rfl (pSome_at (dBin_at rfl rfl rfl rfl (add_at _ _)) rfl) rfl
  have mid : ∀ {e : Env' → M Val} {p : Option Val} {o' : D}, e (ρ p) S = .ok (.d (.tuple [o'])) S → dBin oAdd (dBin oAdd tkE e) drE (ρ p) S = .ok (.d (.tuple (Zz.cutD os none (some at_) ++ [o'] ++ Zz.cutD os (some (at_ + 1)) none))) S := fun {e p o'} h =>
    cat_at (cat_at (tk p) h (by rw [List.length_cons, List.length_nil]; omega)) (dr p) (by rw [List.length_append, List.length_cons, List.length_nil]; omega)
  have tw : ∀ w : Int, toB (dBin oEq (dVar 5) (dC (.int w))) (ρ none) S = .ok (decide ((j : Int) = w)) S := fun w => toB_at (dBin_at rfl rfl rfl rfl (eqI _ _))
  have fin : ∀ {d : D}, Gd d → body_u_law_bent [some (CL ns), some (.c 0), some (.d (.tuple os)), none, none, none, none, none, none, none] (.lst [.int k] :: R) = .rt (.d d) S → ∃ d, Gd d ∧ fn_u_law_bent [CL ns, .c 0, .d (.tuple os)] (.lst [.int k] :: R) = .ok (.d d) (.lst [.int (k + 2)] :: R) := fun {d} hd h => by
    refine ⟨d, hd, (body_rt (np := 3) (nl := 10) (b := body_u_law_bent) (as := [CL ns, .c 0, .d (.tuple os)]) rfl h).trans ?_⟩
    show Res.ok _ (List.take _ (.lst [.int (k + 2)] :: R)) = _
    rw [List.take_of_length_le (by simp)]
  -- an order with another piece, or fewer
  have od1 : Ord c (mm ++ [odd]) := ⟨by rw [List.length_append, List.length_cons, List.length_nil]; omega, fun x hx => (List.mem_append.mp hx).elim (m3 c x) fun z => by
    have : x = odd := by simpa using z
    rw [this]; exact hc⟩
  have sub : ∀ lo hi, ∀ c', (Zz.cutD mm lo hi).length ≤ 4 ∧ ∀ x ∈ Zz.cutD mm lo hi, Piece c' x := fun lo hi c' => ⟨by have := (cut_sub mm lo hi).1; omega, fun x hx => m3 c' x ((cut_sub mm lo hi).2 x hx)⟩
  have hj7 : j = 0 ∨ j = 1 ∨ j = 2 ∨ j = 3 ∨ j = 4 ∨ j = 5 ∨ j = 6 := by omega
  have ti : ∀ (w : Int), (j : Int) = w → toB (dBin oEq (dVar 5) (dC (.int w))) (ρ none) S = .ok true S := fun w h => (tw w).trans (by rw [decide_eq_true h])
  have tf : ∀ (w : Int), (j : Int) ≠ w → toB (dBin oEq (dVar 5) (dC (.int w))) (ρ none) S = .ok false S := fun w h => (tw w).trans (by rw [decide_eq_false h])
  have pre : ∀ {b : SD} {r : SRes}, b (ρ none) S = r → sSeq (sSet 3 (dCall fn_u_law_cell (dCons (dVar 0) (dCons (dVar 1) dNil)))) (sSeq (sPar 4 5 (dCons (dBin oMod (dVar 3) (dFn1 oLen (dVar 2))) (dCons (dBin oMod (dBin oDiv (dVar 3) (dC (.int 30))) (dC (.int 7))) dNil))) (sSeq (sPar 6 7 (dCons (dBin oIx (dVar 2) (dVar 4)) (dCons (dCall fn_u_law_cell (dCons (dVar 0) (dCons (dVar 1) dNil))) dNil))) (sSeq (sSet 8 (dBin oIx (dLst (dCons (dC (.none)) (dCons (dC (.bool true)) (dCons (dC (.bool false)) (dCons (dC (.int 0)) (dCons (dC (.int 1)) (dCons (dFn1 oNeg (dC (.int 1))) (dCons (dC (.int 999)) (dCons (dC (.int 1000)) (dCons (dFn1 oLen (dVar 2)) (dCons (dC (.str "1")) (dCons (dTup dNil) (dCons (dLst dNil) (dCons dDict0 (dCons (dC (.str "jump")) (dCons (dTup (dCons (dC (.int 1)) dNil)) (dCons (dBin oPow (dC (.int 10)) (dC (.int 40))) dNil))))))))))))))))) (dBin oMod (dVar 7) (dC (.int 16))))) b)))
      [some (CL ns), some (.c 0), some (.d (.tuple os)), none, none, none, none, none, none, none] (.lst [.int k] :: R) = r := fun {b r} h => by
    rw [sSeq_nx s1, sSeq_nx s2, sSeq_nx s3, sSeq_nx s4]
    exact h
  rcases hj7 with h | h | h | h | h | h | h
  · -- without it
    refine fin (d := .tuple (Zz.cutD os none (some at_) ++ Zz.cutD os (some (at_ + 1)) none)) (Its_.gd (c := true) ⟨by rw [List.length_append]; omega, fun x hx => (List.mem_append.mp hx).elim ((hA true).2 x) ((hB true).2 x)⟩) ?_
    unfold body_u_law_bent
    refine pre (sSeq_rt ((sIf_t (ti 0 (by omega))).trans (sRet_at (cat_at (tk none) (dr none) (by omega)))))
  · refine fin (Its_.gd (Itm.its (hA c) (hB c) od1.itm)) ?_
    unfold body_u_law_bent
    refine pre ?_
    rw [sSeq_nx (sIf_skip (tf 0 (by omega)))]
    exact sSeq_rt ((sIf_t (ti 1 (by omega))).trans (sRet_at (mid (dTup_at (xs := [.d (.tuple (mm ++ [odd]))]) (dCons_at (cat_at rfl (dTup_at (xs := [.d odd]) (ds := [odd]) rfl rfl (Nat.le_of_ble_eq_true rfl)) (by rw [List.length_cons, List.length_nil]; omega)) rfl) rfl (Nat.le_of_ble_eq_true rfl)))))
  · refine fin (Its_.gd (Itm.its (hA true) (hB true) (Ord.itm (l := Zz.cutD mm none (some (-1))) ⟨by have := (sub none (some (-1)) true).1; omega, (sub none (some (-1)) true).2⟩))) ?_
    unfold body_u_law_bent
    refine pre ?_
    rw [sSeq_nx (sIf_skip (tf 0 (by omega))), sSeq_nx (sIf_skip (tf 1 (by omega)))]
    exact sSeq_rt ((sIf_t (ti 2 (by omega))).trans (sRet_at (mid (dTup_at (xs := [.d (.tuple (Zz.cutD mm none (some (-1))))]) (dCons_at (sl_at rfl rfl (pSome_at rfl rfl)) rfl) rfl (Nat.le_of_ble_eq_true rfl)))))
  · refine fin (Its_.gd (Itm.its (hA c) (hB c) hc.itm)) ?_
    unfold body_u_law_bent
    refine pre ?_
    rw [sSeq_nx (sIf_skip (tf 0 (by omega))), sSeq_nx (sIf_skip (tf 1 (by omega))), sSeq_nx (sIf_skip (tf 2 (by omega)))]
    exact sSeq_rt ((sIf_t (ti 3 (by omega))).trans (sRet_at (mid (dTup_at (xs := [.d odd]) (ds := [odd]) rfl rfl (Nat.le_of_ble_eq_true rfl)))))
  · obtain ⟨i4, e4, h4⟩ := fmod_nat (m.fdiv 16) 4 (by decide)
    obtain ⟨w, hw, ew⟩ := pick_at (g := (dCons (dC (.str "go")) (dCons (dC (.str "Set")) (dCons (dC (.str "mark")) (dCons (dC (.str "copy")) dNil))))) (f := dBin oMod (dBin oDiv (dVar 7) (dC (.int 16))) (dC (.int 4))) (ρ := ρ none) (S := S) (ds := [.str "go", .str "Set", .str "mark", .str "copy"]) rfl (by decide) (i := (i4 : Int)) (dBin_at (dBin_at rfl rfl rfl rfl (div_at _ _ (by decide) (by decide))) rfl rfl rfl ((mod_at _ _ (by decide)).trans (by rw [show (4 : Int) = ((4 : Nat) : Int) from rfl, e4]))) (by omega) (by show _ < ((4 : Nat) : Int); omega)
    have hw' : Piece true w := by
      simp only [List.mem_cons, List.not_mem_nil, or_false] at hw
      rcases hw with rfl | rfl | rfl | rfl <;> exact Gw.of (by decide +kernel)
    refine fin (Its_.gd (Itm.its (hA true) (hB true) (Ord.itm (l := [w] ++ Zz.cutD mm (some 1) none) ⟨by have := (sub (some 1) none true).1; rw [List.length_append, List.length_cons, List.length_nil]; omega, fun x hx => (List.mem_append.mp hx).elim (fun z => by
      have : x = w := by simpa using z
      rw [this]; exact hw') ((sub (some 1) none true).2 x)⟩))) ?_
    unfold body_u_law_bent
    refine pre ?_
    rw [sSeq_nx (sIf_skip (tf 0 (by omega))), sSeq_nx (sIf_skip (tf 1 (by omega))), sSeq_nx (sIf_skip (tf 2 (by omega))), sSeq_nx (sIf_skip (tf 3 (by omega)))]
    exact sSeq_rt ((sIf_t (ti 4 (by omega))).trans (sRet_at (mid (dTup_at (xs := [.d (.tuple ([w] ++ Zz.cutD mm (some 1) none))]) (dCons_at (cat_at (dTup_at (xs := [.d w]) (ds := [w]) (dCons_at ew rfl) rfl (Nat.le_of_ble_eq_true rfl)) (sl_at rfl (pSome_at rfl rfl) rfl) (by have := (sub (some 1) none true).1; rw [List.length_cons, List.length_nil]; omega)) rfl) rfl (Nat.le_of_ble_eq_true rfl)))))
  · obtain ⟨i2, e2, h2⟩ := fmod_nat (m.fdiv 16) 2 (by decide)
    have ol : Ord true mm := ⟨by omega, m3 true⟩
    have g5 : dBin oAdd (dBin oAdd tkE (dTup (dCons (dFn1 oList (dVar 6)) dNil))) drE (ρ none) S = .ok (.d (.tuple (Zz.cutD os none (some at_) ++ [.list mm] ++ Zz.cutD os (some (at_ + 1)) none))) S := mid (dTup_at (xs := [.d (.list mm)]) (ds := [.list mm]) (dCons_at (dFn1_at rfl rfl rfl) rfl) rfl (Nat.le_of_ble_eq_true rfl))
    obtain ⟨d, hd, ed⟩ := pick_at (g := (dCons (dFn1 oList (dVar 2)) (dCons (dBin oAdd (dBin oAdd tkE (dTup (dCons (dFn1 oList (dVar 6)) dNil))) drE) dNil))) (f := dBin oMod (dBin oDiv (dVar 7) (dC (.int 16))) (dC (.int 2))) (ρ := ρ none) (S := S) (ds := [.list os, .tuple (Zz.cutD os none (some at_) ++ [.list mm] ++ Zz.cutD os (some (at_ + 1)) none)]) (dCons_at (dFn1_at rfl rfl rfl) (dCons_at g5 rfl)) (Nat.le_of_ble_eq_true rfl) (i := (i2 : Int)) (dBin_at (dBin_at rfl rfl rfl rfl (div_at _ _ (by decide) (by decide))) rfl rfl rfl ((mod_at _ _ (by decide)).trans (by rw [show (2 : Int) = ((2 : Nat) : Int) from rfl, e2]))) (by omega) (by show _ < ((2 : Nat) : Int); omega)
    refine fin (d := d) ?_ ?_
    · simp only [List.mem_cons, List.not_mem_nil, or_false] at hd
      rcases hd with rfl | rfl
      · exact Its_.gdL ⟨by omega, fun x hx => (ho x hx).itm true⟩
      · exact Its_.gd (Itm.its (hA true) (hB true) ol.itmL)
    · unfold body_u_law_bent
      refine pre ?_
      rw [sSeq_nx (sIf_skip (tf 0 (by omega))), sSeq_nx (sIf_skip (tf 1 (by omega))), sSeq_nx (sIf_skip (tf 2 (by omega))), sSeq_nx (sIf_skip (tf 3 (by omega))), sSeq_nx (sIf_skip (tf 4 (by omega)))]
      exact sSeq_rt ((sIf_t (ti 5 (by omega))).trans (sRet_at ed))
  · let pl : Int := (m.fdiv 16).fmod mm.length
    have s9 : sSet 9 (dBin oMod (dBin oDiv (dVar 7) (dC (.int 16))) (dFn1 oLen (dVar 6))) (ρ none) S = .nx (ρ (some (.d (.int pl)))) S := sSet_at (dBin_at (dBin_at rfl rfl rfl rfl (div_at _ _ (by decide) (by decide))) (dFn1_at rfl rfl rfl) rfl rfl (mod_at _ _ (by omega)))
    have t1 := (sub none (some pl) c)
    have t2 := (sub (some (pl + 1)) none c)
    have len2 : (Zz.cutD mm none (some pl)).length + (Zz.cutD mm (some (pl + 1)) none).length ≤ 4 := by
      have hp := fmod_in (m.fdiv 16) mm.length (by omega)
      obtain ⟨q, hq⟩ := Int.eq_ofNat_of_zero_le hp.1
      have e1 : pl = (q : Int) := hq
      have e2 : pl + 1 = ((q + 1 : Nat) : Int) := by omega
      rw [e2, e1, cut_take, cut_drop, List.length_take, List.length_drop]
      omega
    refine fin (Its_.gd (Itm.its (hA c) (hB c) (Ord.itm (l := Zz.cutD mm none (some pl) ++ [odd] ++ Zz.cutD mm (some (pl + 1)) none) ⟨by rw [List.length_append, List.length_append, List.length_cons, List.length_nil]; omega, fun x hx => (List.mem_append.mp hx).elim (fun hx => (List.mem_append.mp hx).elim (t1.2 x) fun z => by
      have : x = odd := by simpa using z
      rw [this]; exact hc) (t2.2 x)⟩))) ?_
    unfold body_u_law_bent
    refine pre ?_
    rw [sSeq_nx (sIf_skip (tf 0 (by omega))), sSeq_nx (sIf_skip (tf 1 (by omega))), sSeq_nx (sIf_skip (tf 2 (by omega))), sSeq_nx (sIf_skip (tf 3 (by omega))), sSeq_nx (sIf_skip (tf 4 (by omega))), sSeq_nx (sIf_skip (tf 5 (by omega))), sSeq_nx s9]
    exact sRet_at (mid (dTup_at (xs := [.d (.tuple (Zz.cutD mm none (some pl) ++ [odd] ++ Zz.cutD mm (some (pl + 1)) none))]) (dCons_at (cat_at (cat_at (sl_at rfl rfl (pSome_at rfl rfl)) (dTup_at (xs := [.d odd]) (ds := [odd]) rfl rfl (Nat.le_of_ble_eq_true rfl)) (by rw [List.length_cons, List.length_nil]; omega)) (sl_at rfl (pSome_at (dBin_at rfl rfl rfl rfl (add_at _ _)) rfl) rfl) (by rw [List.length_append, List.length_cons, List.length_nil]; omega)) rfl) rfl (Nat.le_of_ble_eq_true rfl)))
end K65
set_option maxRecDepth 100000
set_option maxHeartbeats 4000000
namespace K65
open PySem PySem.Spec PyProof.Rows L2 Zz
abbrev rtT : Env' → M Val := dCall fn_u_law_right (dCons (dVar 4) dNil)
theorem items_loop (a0 a1 a2 a3 a5 a6 : Option Val) (S : List Cell) : ∀ (ds : List D), (∀ d ∈ ds, Gd d) → ∀ a4 : Option Val, ∃ b4 : Option Val, forGo (toName 4) (sIf (tNotD (toT rtT)) (sRet (dC (.bool false))) sNil) ds [a0, a1, a2, a3, a4, a5, a6] S = .nx [a0, a1, a2, a3, b4, a5, a6] S
  | [], _, a4 => ⟨a4, rfl⟩
  | d :: ds, h, a4 => by
    obtain ⟨b4, e⟩ := items_loop a0 a1 a2 a3 a5 a6 S ds (fun x hx => h x (List.mem_cons_of_mem _ hx)) (some (.d d))
    refine ⟨b4, ?_⟩
    have st : (sIf (tNotD (toT rtT)) (sRet (dC (.bool false))) sNil) [a0, a1, a2, a3, some (.d d), a5, a6] S = .nx [a0, a1, a2, a3, some (.d d), a5, a6] S :=
      sIf_skip (tNotD_f (toT_at ((dCall_at (dCons_at rfl rfl)).trans (law_right_f (h d List.mem_cons_self) S)) rfl rfl))
    show (match (sIf (tNotD (toT rtT)) (sRet (dC (.bool false))) sNil) [a0, a1, a2, a3, some (.d d), a5, a6] S with | .nx ρ2 S2 => forGo (toName 4) (sIf (tNotD (toT rtT)) (sRet (dC (.bool false))) sNil) ds ρ2 S2 | .ct ρ2 S2 => forGo (toName 4) (sIf (tNotD (toT rtT)) (sRet (dC (.bool false))) sNil) ds ρ2 S2 | .bk ρ2 S2 => .nx ρ2 S2 | .rt v S2 => .rt v S2 | .ex x ρ2 S2 => .ex x ρ2 S2 | .st => .st) = _
    rw [st]
    exact e
abbrev bentE : Env' → M Val := (dCall fn_u_law_bent (dCons (dVar 0) (dCons (dVar 1) (dCons (dVar 3) dNil))))
abbrev turnL : SD := (sSeq (sSet 3 (dCall fn_u_law_code (dCons (dVar 0) (dCons (dVar 1) dNil)))) (sSeq (sFor (itAny (dTup (dCons (dVar 3) (dCons bentE (dCons bentE dNil))))) (toName 4) (sIf (tNotD (toT rtT)) (sRet (dC (.bool false))) sNil)) (sSeq (sSet 5 (dBin oIx (dLst (dCons (dC (.none)) (dCons (dTup dNil) (dCons (dC (.int 5)) (dCons (dC (.str "stop")) (dCons (dLst (dCons (dTup (dCons (dC (.str "stop")) dNil)) dNil)) (dCons (dTup (dCons (dC (.str "stop")) dNil)) (dCons (dTup (dCons (dTup (dCons (dC (.str "stop")) dNil)) (dCons (dC (.none)) dNil))) (dCons dDict0 (dCons (dC (.bool true)) dNil)))))))))) (dBin oMod (dCall fn_u_law_cell (dCons (dVar 0) (dCons (dVar 1) dNil))) (dC (.int 9))))) (sIf (tNotD (toT (dCall fn_u_law_right (dCons (dVar 5) dNil)))) (sRet (dC (.bool false))) sNil))))
def odd9 : List D := [.none, .tuple [], .int 5, .str "stop", .list [.tuple [.str "stop"]], .tuple [.str "stop"], .tuple [.tuple [.str "stop"], .none], .dict [], .bool true]
theorem odd9_gd : ∀ d ∈ odd9, Gd d := fun d hd => by
  unfold odd9 at hd
  simp only [List.mem_cons, List.not_mem_nil, or_false] at hd
  rcases hd with rfl | rfl | rfl | rfl | rfl | rfl | rfl | rfl | rfl
  · exact Gw.gd (c := true) (e := 5) (w := 300) (Gw.of (by decide +kernel)) (by decide) (by decide)
  · exact Gw.gd (c := true) (e := 5) (w := 300) (Gw.of (by decide +kernel)) (by decide) (by decide)
  · exact Gw.gd (c := true) (e := 5) (w := 300) (Gw.of (by decide +kernel)) (by decide) (by decide)
  · exact Gw.gd (c := true) (e := 5) (w := 300) (Gw.of (by decide +kernel)) (by decide) (by decide)
  · exact Gw.gd (c := true) (e := 5) (w := 300) (Gw.of (by decide +kernel)) (by decide) (by decide)
  · exact Gw.gd (c := true) (e := 5) (w := 300) (Gw.of (by decide +kernel)) (by decide) (by decide)
  · exact Gw.gd (c := true) (e := 5) (w := 300) (Gw.of (by decide +kernel)) (by decide) (by decide)
  · exact Gw.gd (c := false) (e := 5) (w := 300) (Gw.of (by decide +kernel)) (by decide) (by decide)
  · exact Gw.gd (c := true) (e := 5) (w := 300) (Gw.of (by decide +kernel)) (by decide) (by decide)
theorem turnL_f (ns : List Int) (h63 : ns.length ≤ 63) (k : Int) (hk0 : 0 ≤ k) (hk1 : k < 900000) (a2 a3 a4 a5 a6 : Option Val) : ∃ (k' : Int) (b3 b4 b5 : Option Val), 0 ≤ k' ∧ k' ≤ k + 200 ∧
    turnL [some (CL ns), some (.c 0), a2, a3, a4, a5, a6] [.lst [.int k]] = .nx [some (CL ns), some (.c 0), a2, b3, b4, b5, a6] [.lst [.int k']] := by
  obtain ⟨os, k1, o1, o2, ho, l1, l2, e1⟩ := code_draw ns h63 k hk0 (by omega) []
  obtain ⟨d1, g1, f1⟩ := bent_f ns h63 k1 (by omega) (by omega) [] os o1 o2 ho
  obtain ⟨d2, g2, f2⟩ := bent_f ns h63 (k1 + 2) (by omega) (by omega) [] os o1 o2 ho
  obtain ⟨n, ⟨bn0, bn1⟩, en⟩ := cell_f ns h63 (k1 + 2 + 2) (by omega) (by omega) []
  have m := fmod_in n 9 (by decide)
  have s1 : sSet 3 (dCall fn_u_law_code (dCons (dVar 0) (dCons (dVar 1) dNil))) [some (CL ns), some (.c 0), a2, a3, a4, a5, a6] [.lst [.int k]] = .nx [some (CL ns), some (.c 0), a2, some (.d (.tuple os)), a4, a5, a6] [.lst [.int k1]] := sSet_at ((dCall_at (dCons_at rfl (dCons_at rfl rfl))).trans e1)
  have it : itAny (dTup (dCons (dVar 3) (dCons bentE (dCons bentE dNil)))) [some (CL ns), some (.c 0), a2, some (.d (.tuple os)), a4, a5, a6] [.lst [.int k1]] = .ok [.tuple os, d1, d2] [.lst [.int (k1 + 2 + 2)]] :=
    itAny_at (d := .tuple [.tuple os, d1, d2]) (dTup_at (xs := [.d (.tuple os), .d d1, .d d2]) (dCons_at rfl (dCons_at ((dCall_at (dCons_at rfl (dCons_at rfl (dCons_at rfl rfl)))).trans f1) (dCons_at ((dCall_at (dCons_at rfl (dCons_at rfl (dCons_at rfl rfl)))).trans f2) rfl))) rfl (Nat.le_of_ble_eq_true rfl)) rfl
  obtain ⟨b4, lo⟩ := items_loop (some (CL ns)) (some (.c 0)) a2 (some (.d (.tuple os))) a5 a6 [.lst [.int (k1 + 2 + 2)]] [.tuple os, d1, d2] (fun d hd => by
    simp only [List.mem_cons, List.not_mem_nil, or_false] at hd
    rcases hd with rfl | rfl | rfl
    · exact Its_.gd (c := true) ⟨by omega, fun x hx => (ho x hx).itm true⟩
    · exact g1
    · exact g2) a4
  have s2 := (sFor_at (g := toName 4) (b := (sIf (tNotD (toT rtT)) (sRet (dC (.bool false))) sNil)) it).trans lo
  obtain ⟨a, ha, ea⟩ := pick_at (g := (dCons (dC (.none)) (dCons (dTup dNil) (dCons (dC (.int 5)) (dCons (dC (.str "stop")) (dCons (dLst (dCons (dTup (dCons (dC (.str "stop")) dNil)) dNil)) (dCons (dTup (dCons (dC (.str "stop")) dNil)) (dCons (dTup (dCons (dTup (dCons (dC (.str "stop")) dNil)) (dCons (dC (.none)) dNil))) (dCons dDict0 (dCons (dC (.bool true)) dNil)))))))))) (f := dC (.int (n.fmod 9))) (ρ := [some (CL ns), some (.c 0), a2, some (.d (.tuple os)), b4, a5, a6]) (S := [.lst [.int (k1 + 2 + 2)]]) (ds := odd9) rfl (by decide) rfl m.1 (by show _ < ((9 : Nat) : Int); omega)
  have eo : atI odd9 (n.fmod 9) = some a := by
    have z := ea
    unfold dBin at z
    obtain ⟨a', ha', e'⟩ := atI_in odd9 (n.fmod 9) m.1 (by show _ < ((9 : Nat) : Int); omega)
    have q : dBin oIx (dLst (dCons (dC (.none)) (dCons (dTup dNil) (dCons (dC (.int 5)) (dCons (dC (.str "stop")) (dCons (dLst (dCons (dTup (dCons (dC (.str "stop")) dNil)) dNil)) (dCons (dTup (dCons (dC (.str "stop")) dNil)) (dCons (dTup (dCons (dTup (dCons (dC (.str "stop")) dNil)) (dCons (dC (.none)) dNil))) (dCons dDict0 (dCons (dC (.bool true)) dNil)))))))))) (dC (.int (n.fmod 9))) [some (CL ns), some (.c 0), a2, some (.d (.tuple os)), b4, a5, a6] [.lst [.int (k1 + 2 + 2)]] = .ok (.d a') [.lst [.int (k1 + 2 + 2)]] := dBin_at (x := .list odd9) rfl rfl rfl rfl e'
    rw [ea] at q
    cases q
    exact e'
  have s3 : sSet 5 (dBin oIx (dLst (dCons (dC (.none)) (dCons (dTup dNil) (dCons (dC (.int 5)) (dCons (dC (.str "stop")) (dCons (dLst (dCons (dTup (dCons (dC (.str "stop")) dNil)) dNil)) (dCons (dTup (dCons (dC (.str "stop")) dNil)) (dCons (dTup (dCons (dTup (dCons (dC (.str "stop")) dNil)) (dCons (dC (.none)) dNil))) (dCons dDict0 (dCons (dC (.bool true)) dNil)))))))))) (dBin oMod (dCall fn_u_law_cell (dCons (dVar 0) (dCons (dVar 1) dNil))) (dC (.int 9)))) [some (CL ns), some (.c 0), a2, some (.d (.tuple os)), b4, a5, a6] [.lst [.int (k1 + 2 + 2)]] = .nx [some (CL ns), some (.c 0), a2, some (.d (.tuple os)), b4, some (.d a), a6] [.lst [.int (k1 + 2 + 2 + 1)]] :=
    sSet_at (dBin_at (x := .list odd9) rfl (dBin_at ((dCall_at (dCons_at rfl (dCons_at rfl rfl))).trans en) rfl rfl rfl (mod_at _ _ (by decide))) rfl rfl eo)
  refine ⟨k1 + 2 + 2 + 1, some (.d (.tuple os)), b4, some (.d a), by omega, by omega, ?_⟩
  show sSeq _ _ _ _ = _
  rw [sSeq_nx s1, sSeq_nx s2, sSeq_nx s3]
  exact sIf_skip (tNotD_f (toT_at ((dCall_at (dCons_at rfl rfl)).trans (law_right_f (odd9_gd a ha) _)) rfl rfl))
theorem loopL_f (ns : List Int) (h63 : ns.length ≤ 63) (a6 : Option Val) : ∀ (ds : List D) (k : Int) (a2 a3 a4 a5 : Option Val), 0 ≤ k → k + 200 * ds.length < 900000 → ∃ (k' : Int) (b2 b3 b4 b5 : Option Val),
    forGo (toName 2) turnL ds [some (CL ns), some (.c 0), a2, a3, a4, a5, a6] [.lst [.int k]] = .nx [some (CL ns), some (.c 0), b2, b3, b4, b5, a6] [.lst [.int k']]
  | [], k, a2, a3, a4, a5, _, _ => ⟨k, a2, a3, a4, a5, rfl⟩
  | d :: ds, k, a2, a3, a4, a5, h0, h1 => by
    rw [List.length_cons] at h1
    obtain ⟨k1, c3, c4, c5, l0, l1, st⟩ := turnL_f ns h63 k h0 (by omega) (some (.d d)) a3 a4 a5 a6
    obtain ⟨k', b2, b3, b4, b5, e⟩ := loopL_f ns h63 a6 ds k1 (some (.d d)) c3 c4 c5 l0 (by omega)
    refine ⟨k', b2, b3, b4, b5, ?_⟩
    show (match turnL [some (CL ns), some (.c 0), some (.d d), a3, a4, a5, a6] [.lst [.int k]] with | .nx ρ2 S2 => forGo (toName 2) turnL ds ρ2 S2 | .ct ρ2 S2 => forGo (toName 2) turnL ds ρ2 S2 | .bk ρ2 S2 => .nx ρ2 S2 | .rt v S2 => .rt v S2 | .ex x ρ2 S2 => .ex x ρ2 S2 | .st => .st) = _
    rw [st]
    exact e
theorem rep_one (x : D) (n : Nat) : repD n [x] = List.replicate n x := by
  unfold repD
  induction n with
  | zero => rfl
  | succ n ih => rw [List.replicate_succ, List.flatten_cons, ih, List.replicate_succ]; rfl
theorem wide_gd (t : List D) (ht : t.length ≤ 2) (hx : ∀ x ∈ t, Gw true 1 30 x) : Gd (.tuple (repD 4999 [.tuple [.str "stop"]] ++ t)) := by
  refine Gw.gd (c := true) (e := 2) (w := 5001 * 31) (Gw.tup (e := 1) (w := 30) (n := 5001) (fun x hx' => ?_) ?_) (by decide) (by decide)
  · rw [rep_one] at hx'
    rcases List.mem_append.mp hx' with h | h
    · rw [(List.mem_replicate.mp h).2]
      exact Gw.of (by decide +kernel)
    · exact hx x h
  · rw [rep_one, List.length_append, List.length_replicate]
    omega
theorem told (ns : List Int) (h1 : ns.length ≤ 63) (_ : ∀ z ∈ ns, Builtin.Int.intBits z ≤ 1048576) : ∃ S, fn_law [.d (.list (intsD ns))] [] = .ok (.d (.bool true)) S := by
  let C0 : Option Val := some (.d (.list (intsD ns)))
  have s1 : (sSet 1 (dLstC (dCons (dC (.int 0)) dNil))) [C0, none, none, none, none, none, none] [] = .nx [C0, some (.c 0), none, none, none, none, none] [.lst [.int 0]] := rfl
  let k : Int := 4 + (if (ns.length : Int) < 16 then (ns.length : Int) else 16)
  have hk : 0 ≤ k ∧ k ≤ 20 := by
    show 0 ≤ 4 + (if (ns.length : Int) < 16 then (ns.length : Int) else 16) ∧ 4 + (if (ns.length : Int) < 16 then (ns.length : Int) else 16) ≤ 20
    split <;> omega
  obtain ⟨k', b2, b3, b4, b5, e2⟩ := loopL_f ns h1 none ((List.range k.toNat).map fun i : Nat => .int (0 + i)) 0 none none none none (by decide) (by rw [List.length_map, List.length_range]; omega)
  have s2 : sFor (itRng (dBin oAdd (dC (.int 4)) (dBin oMin (dC (.int 16)) (dFn1 oLen (dVar 0))))) (toName 2) turnL [C0, some (.c 0), none, none, none, none, none] [.lst [.int 0]] = .nx [C0, some (.c 0), b2, b3, b4, b5, none] [.lst [.int k']] := by
    refine (sFor_at (itRng_at (j := k) (dBin_at rfl (dBin_at rfl (dFn1_at rfl rfl (show oLen (.list (intsD ns)) = some (.int ns.length) by show some (PyData.int (intsD ns).length) = _; simp [intsD])) rfl rfl rfl) rfl rfl (add_at _ _)) ⟨by omega, by omega⟩)).trans e2
  have s3 : sSet 6 (dBin oMulT (dTup (dCons (dTup (dCons (dC (.str "stop")) dNil)) dNil)) (dC (.int 4999))) [C0, some (.c 0), b2, b3, b4, b5, none] [.lst [.int k']] = .nx [C0, some (.c 0), b2, b3, b4, b5, some (.d (.tuple (repD 4999 [.tuple [.str "stop"]])))] [.lst [.int k']] :=
    sSet_at (dBin_at (dTup_at (xs := [.d (.tuple [.str "stop"])]) (ds := [.tuple [.str "stop"]]) rfl rfl (by decide)) rfl rfl rfl (by
      show (if (2 : Int) ≤ 4999 ∧ (4999 : Int) ≤ 10000 ∧ ([PyData.tuple [.str "stop"]] : List D).length ≤ 1000 ∧ 1 ≤ ([PyData.tuple [.str "stop"]] : List D).length then some (PyData.tuple (repD (4999 : Int).toNat [.tuple [.str "stop"]])) else none) = _
      rw [if_pos ⟨by decide, by decide, by show 1 ≤ 1000; decide, by show 1 ≤ 1; decide⟩]
      rfl))
  have one : ∀ (t : List D) (e : Env' → M Val), t.length ≤ 2 → (∀ x ∈ t, Gw true 1 30 x) → e [C0, some (.c 0), b2, b3, b4, b5, some (.d (.tuple (repD 4999 [.tuple [.str "stop"]])))] [.lst [.int k']] = .ok (.d (.tuple t)) [.lst [.int k']] →
      dCall fn_u_law_right (dCons (dBin oAdd (dVar 6) e) dNil) [C0, some (.c 0), b2, b3, b4, b5, some (.d (.tuple (repD 4999 [.tuple [.str "stop"]])))] [.lst [.int k']] = .ok (.d (.bool true)) [.lst [.int k']] := fun t e ht hx he => by
    have lw : (repD 4999 [(.tuple [.str "stop"] : D)]).length = 4999 := by rw [rep_one, List.length_replicate]
    refine (dCall_at (dCons_at (x := .d (.tuple (repD 4999 [.tuple [.str "stop"]] ++ t))) (dBin_at rfl he rfl rfl ?_) rfl)).trans (law_right_f (wide_gd t ht hx) _)
    show (if (repD 4999 [(.tuple [.str "stop"] : D)]).length + t.length ≤ 16777216 then some (PyData.tuple (repD 4999 [.tuple [.str "stop"]] ++ t)) else none) = _
    rw [if_pos (by rw [lw]; omega)]
  have q1 := one [.tuple [.str "jump", .int 4999]] (dTup (dCons (dTup (dCons (dC (.str "jump")) (dCons (dC (.int 4999)) dNil))) dNil)) (by decide) (fun x hx => by
    have : x = .tuple [.str "jump", .int 4999] := by simpa using hx
    rw [this]
    exact Gw.of (by decide +kernel)) (dTup_at (xs := [.d (.tuple [.str "jump", .int 4999])]) (dCons_at (dTup_at (xs := [.d (.str "jump"), .d (.int 4999)]) rfl rfl (by decide)) rfl) rfl (by decide))
  have q2 := one [.tuple [.str "jump", .int 5000], .tuple [.str "stop"]] (dTup (dCons (dTup (dCons (dC (.str "jump")) (dCons (dC (.int 5000)) dNil))) (dCons (dTup (dCons (dC (.str "stop")) dNil)) dNil))) (by decide) (fun x hx => by
    simp only [List.mem_cons, List.not_mem_nil, or_false] at hx
    rcases hx with rfl | rfl <;> exact Gw.of (by decide +kernel)) (dTup_at (xs := [.d (.tuple [.str "jump", .int 5000]), .d (.tuple [.str "stop"])]) (dCons_at (dTup_at (xs := [.d (.str "jump"), .d (.int 5000)]) rfl rfl (by decide)) (dCons_at (dTup_at (xs := [.d (.str "stop")]) rfl rfl (by decide)) rfl)) rfl (by decide))
  have key : body_law [C0, none, none, none, none, none, none] [] = .rt (.d (.bool true)) [.lst [.int k']] := by
    unfold body_law
    rw [sSeq_nx s1, sSeq_nx s2, sSeq_nx s3]
    exact sRet_at ((dAnd_t q1).trans q2)
  have z := body_rt (np := 1) (nl := 7) (b := body_law) (as := [.d (.list (intsD ns))]) (S := []) rfl key
  exact ⟨_, by rw [show fn_law = bodyFn 1 7 body_law from rfl, z]⟩
end K65
set_option maxRecDepth 100000
open PySem PySem.W PyProof.Rows
set_option maxHeartbeats 0 in
theorem PySem.Challenge.cw_stairwright_k65_codes_looked_at_holds : PySem.Challenge.rw_stairwright_k65_codes_looked_at.Holds := by
  w_on; o_law; k_head; (case hw => w_witness2)
  k_fill
  refine Zz.walkG (l := PySem.Challenge.rw_stairwright_k65_codes_looked_at) (n := 63) (k := 8) (x := "script") (F := K65.fn_law) rfl (by decide) rfl ⟨rfl, by decide, by decide⟩ (fun w h Y => PySem.W.kIn_of Y) ?F fun ns h1 h2 => K65.told ns h1 h2
  case F =>
    intro w mg fa h KX G hmg
    refine' K65.all_mk KX G hmg ?h0 ?h1 ?h2 ?h3 ?h4 ?h5 ?h6 ?h7 ?h8 ?h9 ?h10 ?h11 ?h12 ?h13 ?h14 ?h15 ?h16 ?h17 ?h18 ?h19 ?h20 ?h21 ?h22 ?h23 ?h24 ?h25 ?h26 ?h27 ?h28 ?h29 ?h30 ?h31 ?h32 ?h33 ?h34 ?h35 ?h36 ?h37 ?h38 ?h39 ?h40 ?h41 ?h42 ?h43 ?h44 ?h45 ?h46 ?h47 ?h48 ?h49 ?h50 ?h51 ?h52 ?h53 ?h54 ?h55 ?h56 ?h57 ?h58 ?h59 ?h60 ?h61 ?h62 ?h63 ?h64 ?h65 ?h66 ?h67 ?h68 ?h69 ?h70 ?h71 ?h72 ?h73 ?h74 ?h75 ?h76 ?h77 ?h78 ?h79 ?h80 ?h81 ?h82 ?h83 ?h84 ?h85 ?h86 ?h87 ?h88 ?h89 ?h90 ?h91 ?h92 ?h93 ?h94 ?h95 ?h96 ?h97 ?h98 ?h99 ?h100 ?h101 ?h102 ?h103 ?h104 ?h105 ?h106 ?h107 ?h108 ?h109 ?h110 ?h111 ?h112 ?h113 ?h114 ?h115 ?h116 ?h117 ?h118 ?h119 ?h120 ?h121 ?h122 ?h123 ?h124 ?h125 ?h126 ?h127 ?h128 ?h129 ?h130 ?h131 ?h132 ?h133 ?h134 ?h135 ?h136 ?h137 ?h138 ?h139 ?h140 ?h141 ?h142 ?h143 ?h144 ?h145 ?h146 ?h147 ?h148 ?h149 ?h150 ?h151 ?h152 ?h153 ?h154 ?h155 ?h156 ?h157 ?h158 ?h159 ?h160 ?h161 ?h162 ?h163 ?h164 ?h165 ?h166 ?h167 ?h168 ?h169 ?h170 ?h171 ?h172 ?h173 ?h174 ?h175 ?h176 ?h177 ?h178 ?h179 ?h180 ?h181 ?h182
    (case h0 => k_is)
    (case h1 => k_is)
    (case h2 => k_is)
    (case h3 => k_is)
    (case h4 => k_is)
    (case h5 => k_is)
    (case h6 => k_is)
    (case h7 => k_is)
    (case h8 => k_exc)
    (case h9 => k_is)
    (case h10 => k_is)
    (case h11 => k_is)
    (case h12 => k_is)
    (case h13 => k_is)
    (case h14 => k_is)
    (case h15 => k_is)
    (case h16 => k_is)
    (case h17 => k_is)
    (case h18 => k_is)
    (case h19 => k_is)
    (case h20 => k_is)
    (case h21 => k_is)
    (case h22 => k_is)
    (case h23 => k_is)
    (case h24 => decide)
    (case h25 => decide)
    (case h26 => k_is)
    (case h27 => decide)
    (case h28 => k_is)
    (case h29 => k_is)
    (case h30 => k_is)
    (case h31 => decide)
    (case h32 => k_is)
    (case h33 => k_is)
    (case h34 => k_is)
    (case h35 => decide)
    (case h36 => k_is)
    (case h37 => k_is)
    (case h38 => k_is)
    (case h39 => k_is)
    (case h40 => k_is)
    (case h41 => k_is)
    (case h42 => k_is)
    (case h43 => k_is)
    (case h44 => k_is)
    (case h45 => k_is)
    (case h46 => k_is)
    (case h47 => k_is)
    (case h48 => k_is)
    (case h49 => k_is)
    (case h50 => k_is)
    (case h51 => k_is)
    (case h52 => k_is)
    (case h53 => k_is)
    (case h54 => k_is)
    (case h55 => k_is)
    (case h56 => k_is)
    (case h57 => k_is)
    (case h58 => k_is)
    (case h59 => k_is)
    (case h60 => k_is)
    (case h61 => k_is)
    (case h62 => k_is)
    (case h63 => k_is)
    (case h64 => k_is)
    (case h65 => k_is)
    (case h66 => k_is)
    (case h67 => k_is)
    (case h68 => k_is)
    (case h69 => k_is)
    (case h70 => k_is)
    (case h71 => k_is)
    (case h72 => k_is)
    (case h73 => k_is)
    (case h74 => k_is)
    (case h75 => k_is)
    (case h76 => k_is)
    (case h77 => k_is)
    (case h78 => k_is)
    (case h79 => k_is)
    (case h80 => k_is)
    (case h81 => k_is)
    (case h82 => k_is)
    (case h83 => k_is)
    (case h84 => k_is)
    (case h85 => k_is)
    (case h86 => k_is)
    (case h87 => k_is)
    (case h88 => k_is)
    (case h89 => k_is)
    (case h90 => k_is)
    (case h91 => k_is)
    (case h92 => k_is)
    (case h93 => k_is)
    (case h94 => k_is)
    (case h95 => k_is)
    (case h96 => k_is)
    (case h97 => k_is)
    (case h98 => k_is)
    (case h99 => k_is)
    (case h100 => k_is)
    (case h101 => k_is)
    (case h102 => k_is)
    (case h103 => k_is)
    (case h104 => k_is)
    (case h105 => k_is)
    (case h106 => k_is)
    (case h107 => k_is)
    (case h108 => k_is)
    (case h109 => k_is)
    (case h110 => k_is)
    (case h111 => k_is)
    (case h112 => k_is)
    (case h113 => k_is)
    (case h114 => k_is)
    (case h115 => k_is)
    (case h116 => k_is)
    (case h117 => k_is)
    (case h118 => k_is)
    (case h119 => k_is)
    (case h120 => first | exact rfl | kernel_rfl)
    (case h121 => first | decide | exact rfl)
    (case h122 => k_is)
    (case h123 => k_is)
    (case h124 => exact .nil)
    (case h125 => exact Nat.le_of_ble_eq_true rfl)
    (case h126 => k_is)
    (case h127 => k_is)
    (case h128 => exact .cons ⟨_, rfl⟩ (.nil))
    (case h129 => exact Nat.le_of_ble_eq_true rfl)
    (case h130 => k_is)
    (case h131 => k_is)
    (case h132 => exact .cons ⟨_, rfl⟩ (.cons ⟨_, rfl⟩ (.nil)))
    (case h133 => exact Nat.le_of_ble_eq_true rfl)
    (case h134 => k_is)
    (case h135 => k_is)
    (case h136 => exact .cons ⟨_, rfl⟩ (.nil))
    (case h137 => exact Nat.le_of_ble_eq_true rfl)
    (case h138 => k_is)
    (case h139 => k_is)
    (case h140 => exact .cons ⟨_, rfl⟩ (.cons ⟨_, rfl⟩ (.cons ⟨_, rfl⟩ (.nil))))
    (case h141 => exact Nat.le_of_ble_eq_true rfl)
    (case h142 => k_is)
    (case h143 => k_is)
    (case h144 => exact .cons ⟨_, rfl⟩ (.cons ⟨_, rfl⟩ (.cons ⟨_, rfl⟩ (.nil))))
    (case h145 => exact Nat.le_of_ble_eq_true rfl)
    (case h146 => k_is)
    (case h147 => k_is)
    (case h148 => exact .cons ⟨_, rfl⟩ (.cons ⟨_, rfl⟩ (.cons ⟨_, rfl⟩ (.nil))))
    (case h149 => exact Nat.le_of_ble_eq_true rfl)
    (case h150 => k_is)
    (case h151 => k_is)
    (case h152 => exact .cons ⟨_, rfl⟩ (.cons ⟨_, rfl⟩ (.cons ⟨_, rfl⟩ (.nil))))
    (case h153 => exact Nat.le_of_ble_eq_true rfl)
    (case h154 => k_is)
    (case h155 => k_is)
    (case h156 => exact .cons ⟨_, rfl⟩ (.cons ⟨_, rfl⟩ (.cons ⟨_, rfl⟩ (.nil))))
    (case h157 => exact Nat.le_of_ble_eq_true rfl)
    (case h158 => k_is)
    (case h159 => k_is)
    (case h160 => exact .cons ⟨_, rfl⟩ (.cons ⟨_, rfl⟩ (.nil)))
    (case h161 => exact Nat.le_of_ble_eq_true rfl)
    (case h162 => k_is)
    (case h163 => k_is)
    (case h164 => exact .cons ⟨_, rfl⟩ (.cons ⟨_, rfl⟩ (.nil)))
    (case h165 => exact Nat.le_of_ble_eq_true rfl)
    (case h166 => k_is)
    (case h167 => k_is)
    (case h168 => k_is)
    (case h169 => k_is)
    (case h170 => k_is)
    (case h171 => k_is)
    (case h172 => k_is)
    (case h173 => k_is)
    (case h174 => k_is)
    (case h175 => k_is)
    (case h176 => k_is)
    (case h177 => k_is)
    (case h178 => k_is)
    (case h179 => k_is)
    (case h180 => exact ⟨_, rfl⟩)
    (case h181 => k_is)
    (case h182 => exact ⟨_, rfl⟩)
