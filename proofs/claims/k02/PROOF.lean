import PyProof.Rows.All
import Wide.All
import OpenK.AllK
import Wide.FinOn
import HandS.ForMost
import HandS.ForExc
import HandS.TupAny
import HandS.TupMul
import HandS.Conv
import HandS.Style
import KE.KDictPairs
import HandS.Flow
import HandS.TryMany
import HandS.ExcValue
import HandS.IsInst
import HandS.Defaults
import HandS.Deep
import HandS.EndBits
import HandS.Iter
import HandS.Comp
import HandS.Star
import HandS.Text
import HandS.Small
import KE.KExcHand
import HandS.ExcIs
import HandS.Strs
import HandS.RaiseMore
import PyProof.ReprLen
import PySem.Challenge.RW_stairwright_k02_types_and_values
set_option Elab.async false
set_option linter.all false
set_option maxRecDepth 100000
set_option maxHeartbeats 4000000
/-! tuples whose object has no dict of its own -/
namespace Zz
open PySem PySem.Spec PyProof.Rows L2
/-- a tuple, its object known to be plain -/
def PlT (K : PySem.W.Frag) (F : Hp) (a : Addr) (xs : List V) : Prop :=
  (∃ o, F a = some (.frz o (.tup xs)) ∧ o.dict = none) ∨
  ∃ (o : Obj) (its : Array Value) (n : Nat), K.lookup a = some o ∧ o.dict = none ∧ o.cls = .type "tuple" ∧ o.data = .seq its n ∧ its.size ≤ sizeLine ∧ Vals xs its.toList
theorem PlT.sq {K : PySem.W.Frag} {F : Hp} {a : Addr} {xs : List V} (h : PlT K F a xs) : SqT K F a xs := by
  rcases h with ⟨o, h, _⟩ | ⟨o, its, n, h, _, r⟩
  · exact .inl (.inr ⟨o, h⟩)
  · exact .inr ⟨o, its, n, h, r⟩
section
variable {X : Cx} {pins : List (Addr × Obj)} {σ : L2.St} {H : Hp} {s : Shared} {xs : List V} {its : List Value} {Q : VK}
/-- a new plain tuple -/
theorem plain_new (I : Inv X pins σ H s) (r : Vals xs its) (hz : xs.length ≤ sizeLine) (q : ∀ p ob, H p = none → ob.dict = none → Q (.ref p) (upd H p (.frz ob (.tup xs)))) {tk : Nat} :
    EP X pins σ Q (.ref s.heap.objs.size) { s with heap := s.heap.push { cls := .type "tuple", data := .seq its.toArray }, toks := tk } := by
  have free := I.hok.fresh (Nat.le_refl s.heap.objs.size)
  have I' := I.laid (t' := tk) (o := .frz { cls := .type "tuple", data := .seq its.toArray } (.tup xs)) (h' := s.heap.push { cls := .type "tuple", data := .seq its.toArray }) (fun b ob q => Heap.get?_push_of_some _ q) (Nat.le_refl _)
    ⟨Heap.get?_push_size _ rfl, hz, its, r, IsTup.new _ _⟩
  exact ⟨.ref _, _, I', rfl, q _ _ free rfl⟩
abbrev kNewT (xs : List V) (H : Hp) (Q : VK) : Prop := ∀ p ob, H p = none → ob.dict = none → Q (.ref p) (upd H p (.frz ob (.tup xs)))
/-- (a, b, ..) -/
theorem pe_tupP {es : List Expr} {t : TA} {x1} {pos : Pos} (h : PA X es t) : PE X (.Tuple es x1 pos) (fun σ H Q => t σ H fun xs H1 => xs.length ≤ sizeLine ∧ kNewT xs H1 Q) :=
  ⟨fun pn st sg Hh Qq I0 hq => wpAny_Tuple_spliced (thn (h.run pos pn st sg Hh _ I0 hq) fun us s1 ⟨ys, H1, I1, r, z, q⟩ =>
    ⟨r.length ▸ z, plain_new I1 r z q⟩)⟩
/-- tuple(x) -/
theorem call_tupleP : CallR X (.type "tuple") (fun vs H Q => ∃ p xs, vs = [.ref p] ∧ ((SqL X.K H p xs ∧ kNewT xs H Q) ∨ (SqT X.K H p xs ∧ Q (.ref p) H))) := by
  intro pn st sg Hh vs us Qq I0 r h
  obtain ⟨p, ys, rfl, h⟩ := h
  obtain ⟨u, rfl, ru⟩ := vals1 r
  cases ru
  rcases h with ⟨hs, q⟩ | ⟨hs, q⟩
  · obtain ⟨its, rv, pl, hz⟩ := I0.list hs
    exact call_tuple_list pl.isList (fun h' hk => plain_new (I0.kept (t' := st.toks) hk) rv hz q) (by rw [List.size_toArray, ← rv.length]; exact hz)
  · obtain ⟨its, rv, pl, hz⟩ := I0.tuple hs
    exact call_tuple_tup pl ⟨.ref p, Hh, I0, rfl, q⟩
/-- t + u -/
theorem op_catP : OpR X (binaryOp .Add) (fun x y H Q => ∃ a b xs ys, x = .ref a ∧ y = .ref b ∧ SqT X.K H a xs ∧ SqT X.K H b ys ∧ xs.length + ys.length ≤ sizeLine ∧
    (xs = [] → Q (.ref b) H) ∧ (xs ≠ [] → ys = [] → Q (.ref a) H) ∧ (xs ≠ [] → ys ≠ [] → kNewT (xs ++ ys) H Q)) := by
  intro pn st sg Hh x y v u Qq I0 rx ry h
  obtain ⟨a, b, xs, ys, rfl, rfl, ha, hb, hz, q0, q1, q2⟩ := h
  cases rx
  cases ry
  obtain ⟨is1, r1, p1, _⟩ := I0.tuple ha
  obtain ⟨is2, r2, p2, _⟩ := I0.tuple hb
  by_cases hx : xs = []
  · subst hx
    cases r1
    exact cat_tup0 p1 p2 ⟨.ref b, Hh, I0, rfl, q0 rfl⟩
  · refine HT.cat_tup p1 p2 (fun e => hx (r1.nil_iff.mp e)) (fun e => ⟨.ref a, Hh, I0, rfl, q1 hx (r2.nil_iff.mp e)⟩) (fun e => ?_) (by rw [← r1.length, ← r2.length]; exact hz)
    exact plain_new I0 (r1.append r2) (by rw [List.length_append]; exact hz) (q2 hx fun w => e (r2.nil_iff.mpr w))
/-- t * k -/
theorem op_repP : OpR X (binaryOp .Mult) (fun x y H Q => ∃ l k xs, x = .ref l ∧ y = .int k ∧ SqT X.K H l xs ∧ xs ≠ [] ∧ 2 ≤ k ∧ k ≤ 1000 ∧ xs.length ≤ 1000 ∧ kNewT (List.replicate k.toNat xs).flatten H Q) := by
  intro pn st sg Hh x y v u Qq I0 rx ry h
  obtain ⟨l, k, xs, rfl, rfl, hT, hne, h1, h2, hz, q⟩ := h
  cases rx
  obtain ⟨t, rfl⟩ := ry
  obtain ⟨its, r, ⟨⟨cls, dd, data, sl⟩, ho, hc, n, hd⟩, hs⟩ := I0.tuple hT
  simp only at hc hd
  subst hc hd
  have ln : its.length = xs.length := r.length.symm
  have ne : its ≠ [] := fun e => hne (List.eq_nil_of_length_eq_zero (by rw [← ln, e]; rfl))
  have full : its.toArray.isEmpty = false := by
    cases its with
    | nil => exact absurd rfl ne
    | cons a b => rfl
  have sz : its.toArray.size = xs.length := by rw [List.size_toArray, ln]
  have hm : ((its.toArray.size : Nat) : Int) * k ≤ 1000000 := by
    rw [sz]
    have a1 : ((xs.length : Nat) : Int) * k ≤ 1000 * k := Int.mul_le_mul_of_nonneg_right (by omega) (by omega)
    omega
  have few : k.toNat * xs.length ≤ 1000 * 1000 := Nat.mul_le_mul (by omega) hz
  have long : (List.replicate k.toNat its).flatten.length ≤ sizeLine := by
    rw [PyProof.Rows.lm_len_rep_flat, ln, sizeLine_eq]
    omega
  have c0 : (decide (k < -(2 ^ 63)) || decide (k ≥ 2 ^ 63)) = false := by
    rw [decide_eq_false (by omega), decide_eq_false (by omega)] <;> rfl
  have c1 : (its.toArray.isEmpty || k == 1) = false := by
    rw [full, Bool.false_or]
    exact beq_eq_false_iff_ne.mpr (by omega)
  have c2 : (decide (k ≤ 0) || its.toArray.isEmpty) = false := by
    rw [full, Bool.or_false]
    exact decide_eq_false (by omega)
  have c4 : Builtin.Tuple.tupleTooMany (((its.toArray.size : Nat) : Int) * k) = false := by
    unfold Builtin.Tuple.tupleTooMany
    rw [sizeLine_eq]
    exact decide_eq_false (by omega)
  have ty : st.TypeIs (.ref l) "tuple" := ⟨_, ho, rfl⟩
  refine wpAny_binaryOp_repeat_ref (T := "tuple") (U := "int") (by decide) ⟨_, ho, rfl⟩ (fun s' => typeIs_int s' k t) noFill_tuple_mul F.fills_int_mul F.slot_int_rmul repeat_tuple F.slot_int_index.lookup
    (call_meets F.slot_int_rmul (typeIs_int _ k t) F.entry_int_rmul (F.args_int_rmul_2 _ _) (int_rmul_tuple k t l its.toArray n dd sl)
      ⟨ho, rfl, ty, call_meets PySem.F.slot_tuple_mul ty F.entry_tuple_mul (F.args_tuple_mul_2 _ _) (tuple_mulW l its.toArray n dd sl k t c0 c1 c2 (by omega) c4 (by rw [size_rep, List.size_toArray]; exact long)) ⟨ho, ?_⟩⟩)
  rw [size_rep]
  exact plain_new I0 (r.rep k.toNat) (by rw [PyProof.Rows.lm_len_rep_flat, sizeLine_eq]; omega) q
/-- t[lo:hi] -/
theorem sl_tupP : SlR X (fun x lo hi H Q => ∃ a xs, x = .ref a ∧ SqT X.K H a xs ∧
    (HT.sIx xs.length 0 lo = 0 ∧ HT.sIx xs.length xs.length hi = xs.length → Q (.ref a) H) ∧ (¬ (HT.sIx xs.length 0 lo = 0 ∧ HT.sIx xs.length xs.length hi = xs.length) → kNewT (cutV xs lo hi) H Q)) := by
  intro pn st sg Hh x v vl vu lo hi sl Qq I0 rx hs pl pu h
  obtain ⟨a, xs, rfl, hx, q1, q2⟩ := h
  cases rx
  obtain ⟨its, r, ht, hz⟩ := I0.tuple hx
  have ln : its.toArray.size = xs.length := by rw [List.size_toArray]; exact r.length.symm
  refine ⟨"tuple", _, PyProof.Rows.slot_tuple_getitem.lookup, ht.typeIs, ?_⟩
  by_cases hw : HT.sIx xs.length 0 lo = 0 ∧ HT.sIx xs.length xs.length hi = xs.length
  · exact getItem_tuple_whole ht hs pl pu (by rw [ln]; exact hw) ⟨.ref a, Hh, I0, rfl, q1 hw⟩
  · refine HT.getItem_tuple_cut ht hs pl pu (by rw [ln]; exact hw) ?_ (by rw [ln]; exact hz)
    rw [ln]
    exact plain_new I0 ((r.drop _).take _) (Nat.le_trans (cutV_length xs lo hi) hz) (q2 hw)
/-- tuple(range(a, b)) -/
theorem pe_tupRgP {e : Expr} {te : L2.St → Hp → (Int → Int → Hp → Prop) → Prop} {p pos : Pos} (hc : X.calm = true) (hg : Gl X "tuple") (hm : X.mg "tuple" = none) (he : PRg X e te) (na : starEach [e] X.env = (false, eval e X.env) :: starEach [] X.env := by rfl) :
    PE X (.Call (.Name "tuple" p) [e] [] pos) (fun σ H Q => te σ H fun a b H1 => RgOk a b ∧ kNewT (rgV a b) H1 Q) := by
  refine ⟨fun pn st sg Hh Qq I0 h => Call_ (ld_blt I0 hg hm boot_tuple (PyProof.Rows.callWith_type1 (args_cons (thn (he pn st sg Hh _ I0 h) fun x s1 ⟨r, a, b, t, u, v, H1, ex, hr, I1, ok, q⟩ => args_nil ?_) na) na))⟩
  subst ex
  obtain ⟨b1, b2, b3, b4, b5⟩ := ok
  refine call_tuple_range (n := (b - a).toNat) (I1.ok.hd hc) hr (small_one b1 b2 b3 b4) (rangeSize_nat a b) b5 fun h' tk acc hk hi => ?_
  have I2 : Inv X pn sg H1 { s1 with heap := h', toks := tk } := I1.kept hk
  have z := plain_new (its := acc.toList) (tk := tk) I2 (vals_rg hi) (by rw [rgV_length, sizeLine_eq]; omega) q
  rw [Array.toArray_toList] at z
  exact z
end
end Zz
set_option maxRecDepth 100000
set_option maxHeartbeats 4000000
/-! dict(t) of a plain tuple of pairs, t[::-1] -/
namespace Zz
open PySem PySem.Spec PyProof.Rows L2
section
variable {X : Cx} {pins : List (Addr × Obj)} {σ : L2.St} {H : Hp} {s : Shared}
theorem PlT.at_ {a : Addr} {xs : List V} (I : Inv X pins σ H s) (h : PlT X.K H a xs) : ∃ its : List Value, Vals xs its ∧ PlainSeq "tuple" s.heap a its.toArray ∧ xs.length ≤ sizeLine := by
  rcases h with ⟨o, h, hd⟩ | ⟨o, its, n, hk, hd, hc, hs, hz, r⟩
  · obtain ⟨e, z, its, r, o', e', c, n, d⟩ := I.hok a _ h
    rw [e] at e'
    cases e'
    exact ⟨its, r, ⟨o, n, e, c, hd, d⟩, z⟩
  · refine ⟨its.toList, r, ⟨o, n, I.kIn a o hk, hc, hd, by simpa using hs⟩, ?_⟩
    have e := r.length
    simp only [Array.length_toList] at e
    omega
theorem pairs_told (I : Inv X pins σ H s) : ∀ {ps : List Addr} {kvs : List (Key × V)}, Paired (fun p kv => SqT X.K H p [kV kv.1, kv.2]) ps kvs →
    ∃ (prs : List (Key × Value)) (psv : List (Value × Value)), KV kvs prs ∧ prs.length = ps.length ∧ psv.length = ps.length ∧
      ∀ (j : Nat) (u v : Value), psv[j]? = some (u, v) → ∃ k b, prs[j]? = some (k, v) ∧ ps[j]? = some b ∧ keyIs k u = true ∧ IsTup s.heap b #[u, v]
  | _, _, .nil => ⟨[], [], .nil, rfl, rfl, fun j u v e => by simp at e⟩
  | _, _, .cons (a := p) (b := kv) h t => by
    obtain ⟨prs, psv, r, hl, hl2, hp⟩ := pairs_told I t
    obtain ⟨its, rv, ht, _⟩ := I.tuple h
    obtain ⟨u, y, ei, ru, ry⟩ := vals2 rv
    subst ei
    refine ⟨(kv.1, y) :: prs, (u, y) :: psv, .cons ⟨rfl, ry⟩ r, by simp [hl], by simp [hl2], fun j u' v' e => ?_⟩
    cases j with
    | zero =>
      have e' : (u, y) = (u', v') := Option.some.inj e
      cases e'
      exact ⟨kv.1, p, rfl, rfl, kV_is (P := X.prog) (w := X.w) ru, ht⟩
    | succ j =>
      obtain ⟨k, b, e1, e2, e3⟩ := hp j u' v' (by simpa using e)
      exact ⟨k, b, by simpa using e1, by simpa using e2, e3⟩
/-- dict(t) of a plain tuple of pairs -/
theorem call_dictTP (hcalm : X.calm = true) : CallR X (.type "dict") (fun vs H Q => ∃ (a : Addr) (ps : List Addr) (kvs : List (Key × V)), vs = [.ref a] ∧ PlT X.K H a (ps.map V.ref) ∧ Paired (fun p kv => SqT X.K H p [kV kv.1, kv.2]) ps kvs ∧
    ∀ p, H p = none → Q (.ref p) (upd H p (.dK (mergeK [] kvs)))) := by
  intro pn st sg Hh vs us Qq I0 r h
  obtain ⟨a, ps, kvs, rfl, hq, hp, q⟩ := h
  obtain ⟨u, rfl, ru⟩ := vals1 r
  cases ru
  obtain ⟨its, rv, pl, hz⟩ := hq.at_ I0
  have ei := refs_at rv
  subst ei
  obtain ⟨prs, psv, rel, hl, hl2, hpr⟩ := pairs_told I0 hp
  rw [List.length_map] at hz
  let Ts : Nat → Addr := fun j => (ps[j]?).getD 0
  have items : PairItems st.heap (ps.map Value.ref).toArray Ts psv := by
    refine ⟨by simp [hl2], fun j k v e => ?_⟩
    obtain ⟨k', b, e1, e2, e3, e4⟩ := hpr j k v e
    have et : Ts j = b := by show (ps[j]?).getD 0 = b; rw [e2]; rfl
    rw [et]
    exact ⟨by simp [e2], .inl e4⟩
  have have_ : PairsHave (mixKind X.prog X.w) psv.length (PairRel psv) prs := by
    refine ⟨by rw [hl, hl2], fun i key v e => ?_⟩
    obtain ⟨k', b, e1, e2, e3, e4⟩ := hpr i key v e
    exact ⟨k', e1, e3⟩
  refine PySem.call_dict_pairs (knd := mixKind X.prog X.w) (PairArg.tuple a (ps.map Value.ref).toArray Ts psv) (I0.ok.hd hcalm) ⟨pl, items⟩ have_ (by rw [hl2]; exact hz) fun h' tk hd' k => ?_
  have hm : (st.heap.objs.size == sysModules) = false := beq_eq_false_iff_ne.mpr (Nat.ne_of_gt I0.big)
  have hlen : (mergeK [] kvs).length ≤ sizeLine := by
    refine Nat.le_trans (length_mergeK kvs []) ?_
    rw [List.length_nil, Nat.zero_add, rel.length, hl]
    exact hz
  exact ⟨.ref st.heap.objs.size, _, I0.laid (t' := tk) (o := .dK (mergeK [] kvs)) (fun b o e => k b o (by simp) e) (Nat.le_refl _) ⟨hlen, hm, merged [] prs, KV.merge rel .nil, hd'⟩, rfl, q _ (I0.hok.fresh (Nat.le_refl _))⟩
end
/-! ### t[::-1] -/
section
variable {prog : Program} {w : World} {A : Around} {E : Value → Shared → Prop} {s : Shared}
theorem adjust_back (n : Nat) : Builtin.Slice.sliceAdjust none none (-1) (n : Int) = ((n : Int) - 1, -1) := by
  unfold Builtin.Slice.sliceAdjust
  simp
theorem places_back (n : Nat) : Builtin.Slice.slicePlaces ((n : Int) - 1) (-1) (-1) = n := by
  unfold Builtin.Slice.slicePlaces
  have h1 : ¬ ((-1 : Int) > 0) := by decide
  simp only [h1, if_false]
  split
  · rw [show (- -1 : Int) = 1 by decide, Int.ediv_one]
    omega
  · omega
theorem pick_back (xs : Array Value) : ((List.range xs.size).filterMap fun (m : Nat) => xs[(((xs.size : Int) - 1) + (m : Int) * (-1)).toNat]?).toArray = xs.toList.reverse.toArray := by
  have e : (fun (m : Nat) => xs[(((xs.size : Int) - 1) + (m : Int) * (-1)).toNat]?) = (xs[·]?) ∘ fun m => xs.size - 1 - m := by
    funext m
    have : (((xs.size : Int) - 1) + (m : Int) * (-1)).toNat = xs.size - 1 - m := by omega
    show xs[(((xs.size : Int) - 1) + (m : Int) * (-1)).toNat]? = xs[xs.size - 1 - m]?
    rw [this]
  rw [e, ← List.filterMap_map, PySem.W.krv_range, List.filterMap_reverse, PySem.W.krv_all]
theorem sliced_back {sl : Addr} {k : Tok} {n : Nat} {Q : Int × Int × Nat → Shared → Prop} (hs : s.heap.IsSliceOf sl .none .none (.int (-1) k)) (h : Q ((n : Int) - 1, -1, n) s) :
    wpAny (model prog w) A (Builtin.Slice.sliceApplied (.ref sl) (pure (n : Int))) Q E s := by
  obtain ⟨os, hos, hcs, hds⟩ := id hs
  unfold Builtin.Slice.sliceApplied Builtin.Slice.sliceFields
  refine wpAny_bind (wpAny_bind (wpAny_field hos hds (x := .none) rfl (wpAny_bind (wpAny_field hos hds (x := .none) rfl (wpAny_bind (wpAny_field hos hds (x := .int (-1) k) rfl (wpAny_pure ?_)))))))
  refine wpAny_bind (slicePart_int ?_)
  show wpAny _ _ (if ((-1 : Int) == 0) = true then _ else _) _ _ s
  rw [if_neg (by decide)]
  refine wpAny_bind (slicePart_none (wpAny_bind (slicePart_none (wpAny_bind (wpAny_pure ?_)))))
  show wpAny _ _ (match Builtin.Slice.sliceAdjust none none (-1) (n : Int) with | (lo, hi) => pure (lo, (-1 : Int), Builtin.Slice.slicePlaces lo hi (-1))) _ _ s
  rw [adjust_back]
  show wpAny _ _ (pure ((n : Int) - 1, (-1 : Int), Builtin.Slice.slicePlaces ((n : Int) - 1) (-1) (-1))) _ _ s
  rw [places_back]
  exact wpAny_pure h
theorem getItem_tuple_back {t sl : Addr} {items : Array Value} {k : Tok} {Q : Value → Shared → Prop} (ht : IsTup s.heap t items) (hs : s.heap.IsSliceOf sl .none .none (.int (-1) k))
    (h : Q (.ref s.heap.objs.size) { s with heap := s.heap.push { cls := .type "tuple", data := .seq items.toList.reverse.toArray } }) (hsz : items.size ≤ sizeLine) : wpAny (model prog w) A (getItem (.ref t) (.ref sl)) Q E s := by
  have fits : sizeOk (.seq items.toList.reverse.toArray) := by
    show items.toList.reverse.toArray.size ≤ sizeLine
    simpa using hsz
  obtain ⟨os, hos, hcs, hds⟩ := id hs
  have tS : s.TypeIs (.ref sl) "slice" := ⟨os, hos, hcs⟩
  unfold getItem
  try with_reducible refine wpAny_holding ?_
  first | refine wpAny_bind (wpAny_pure ?_) | skip
  refine wpAny_bind (wpAny_sequenceKey ht.typeIs (by decide) ?_)
  refine wpAny_bind (wpAny_callSpecial?_slot (name := Str.ofString "__getitem__") ht.typeIs PyProof.Rows.slot_tuple_getitem
    (wpAny_call_entry PyProof.Rows.slot_tuple_getitem ht.typeIs entry_tuple_getitem ?_ (args_tuple_getitem _ _)))
  show wpAny _ _ (Builtin.Tuple.tupleItemsOf (.ref t) >>= _) _ _ s
  refine wpAny_bind (tupleItemsOf_ ht ?_)
  refine wpAny_bind (wpAny_typeOf tS ?_)
  rw [if_pos (by decide)]
  refine wpAny_bind (sliced_back hs ?_)
  show wpAny _ _ (if ((((items.size : Int) - 1) == 0 && (-1 : Int) == 1 && items.size == items.size) = true) then _ else _) _ _ s
  rw [if_neg (by simp), pick_back]
  first
    | exact wpAny_bind (m := Builtin.Tuple.tupleExact _) (wpAny_newObj_type (wpAny_pure ⟨_, rfl, wpAny_pure h⟩) fits)
    | exact wpAny_bind (m := Builtin.Tuple.tupleExact _) (wpAny_newObj_type (wpAny_bind (wpAny_pure (wpAny_pure ⟨_, rfl, wpAny_pure h⟩))) fits)
    | exact wpAny_bind (wpAny_bind (m := Builtin.Tuple.tupleExact _) (wpAny_newObj_type (wpAny_pure (wpAny_pure ⟨_, rfl, wpAny_pure h⟩)) fits))
    | exact wpAny_bind (wpAny_bind (m := Builtin.Tuple.tupleExact _) (wpAny_newObj_type (wpAny_pure ⟨_, rfl, wpAny_pure h⟩) fits))
end
section
variable {X : Cx}
theorem pe_rev {e : Expr} {te : TE} {k : Nat} {p1 p2 p3 pos : Pos} (he : PE X e te) : PE X (.Subscript e (.Slice none none (some (.UnaryOp .USub (.Constant (.int 1) k p1) p2)) p3) pos)
    (fun σ H Q => te σ H fun x H1 => (∃ a xs, x = .ref a ∧ SqT X.K H1 a xs ∧ kNewT xs.reverse H1 Q) ∨ (∃ a xs, x = .ref a ∧ SqL X.K H1 a xs ∧ ∀ p, H1 p = none → Q (.ref p) (upd H1 p (.lst xs.reverse)))) := by
  refine ⟨fun pn st sg Hh Qq I0 h => ?_⟩
  refine Subscript_ (thn (he.run pn st sg Hh _ I0 h) fun v s1 ⟨x, H1, I1, r1, q1⟩ => ?_)
  obtain ⟨a, rfl⟩ : ∃ a, x = .ref a := by rcases q1 with ⟨a, _, rfl, _⟩ | ⟨a, _, rfl, _⟩ <;> exact ⟨a, rfl⟩
  cases r1
  have step : PO X (some (.UnaryOp .USub (.Constant (.int 1) k p1) p2)) (tPart (tUn (rU fun i => .int (-i)) (tC (.int 1)))) := po_some (pe_un un_neg pe_int)
  refine wpAny_Slice (thn (po_none.run pn s1 sg H1 (fun o H2 => o = none ∧ H2 = H1) I1 ⟨rfl, rfl⟩) fun vl s2 ⟨l, H2, I2, pl, el, e2⟩ => ?_)
  subst el e2
  refine thn (po_none.run pn s2 sg H2 (fun o H3 => o = none ∧ H3 = H2) I2 ⟨rfl, rfl⟩) fun vu s3 ⟨u, H3, I3, pu, eu, e3⟩ => ?_
  subst eu e3
  refine thn (step.run pn s3 sg H3 (fun o H4 => o = some (-1) ∧ H4 = H3) I3 ⟨1, rfl, -1, rfl, rfl, rfl⟩) fun vs s4 ⟨o, H4, I4, ps, eo, e4⟩ => ?_
  subst eo e4
  cases pl
  cases pu
  obtain ⟨tk, rfl⟩ : ∃ tk, vs = .int (-1) tk := by cases ps; exact ⟨_, rfl⟩
  have I5 : Inv X pn sg H4 { s4 with heap := s4.heap.push { cls := .type "slice", data := .fields #[.none, .none, .int (-1) tk] } } := I4.kept (t' := s4.toks) fun b ob q => Heap.get?_push_of_some _ q
  show wpAny (model X.prog X.w) X.A (subscriptTail e (.Slice none none (some (.UnaryOp .USub (.Constant (.int 1) k p1) p2)) p3) (.ref a) (.ref s4.heap.objs.size)) (EP X pn sg Qq) X.xe _
  rcases q1 with ⟨a', xs, ea, hx, q⟩ | ⟨a', xs, ea, hx, q⟩
  · cases ea
    obtain ⟨its, r, ht, hz⟩ := I5.tuple hx
    have ln := r.length
    refine tail_any (ops := [.ref a, .ref s4.heap.objs.size]) ht.typeIs (PyProof.Rows.slot_tuple_getitem.lookup) ?_ (by with_unfolding_all rfl)
    refine getItem_tuple_back ht (Heap.IsSliceOf.new _ _ _ _) ?_ (by rw [List.size_toArray]; omega)
    exact plain_new I5 (its := its.reverse) r.reverse (by rw [List.length_reverse]; exact hz) q
  · cases ea
    obtain ⟨its, r, ht, hz⟩ := I5.list hx
    have ln := r.length
    refine tail_any (ops := [.ref a, .ref s4.heap.objs.size]) ht.isList.typeIs (PySem.slot_list_getitem.lookup) ?_ (by with_unfolding_all rfl)
    refine wpAny_getItem_list_slice ht.isList (Heap.IsSliceOf.new _ _ _ _) .none .none ps (by decide) ?_ (by rw [List.size_toArray]; omega)
    rw [PySem.W.krv_pick]
    have J := I5.laid (t' := s4.toks) (o := .lst xs.reverse) (fun b ob q => Heap.get?_push_of_some _ q) (Nat.le_refl _) ⟨by rw [List.length_reverse]; exact hz, _, 0, r.reverse, Heap.get?_push_size _ rfl⟩
    exact ⟨.ref _, _, J, rfl, q _ (I5.hok.fresh (Nat.le_refl _))⟩
end
end Zz
set_option maxRecDepth 100000
set_option maxHeartbeats 4000000
/-! A layer of pure readings over HandS: what a piece of the program yields as a function of plain data. -/
namespace Zz
open PySem PySem.Spec PyProof.Rows L2

abbrev D := PyData

/-! ### the frozen part of the heap, and what data a value there is -/
/-- a dict's key as data -/
def keyD : Key → D
  | .inl i => .int i
  | .inr x => .str x
mutual
inductive Dv (K : PySem.W.Frag) (F : Hp) : V → D → Prop
  | non : Dv K F .non .none
  | bl (b : Bool) : Dv K F (.bl b) (.bool b)
  | int (i : Int) : Dv K F (.int i) (.int i)
  | str (x : Str) : Dv K F (.str x) (.str x)
  | lst {a : Addr} {xs : List V} {ds : List D} : SqL K F a xs → DvAll K F xs ds → Dv K F (.ref a) (.list ds)
  | tup {a : Addr} {xs : List V} {ds : List D} : PlT K F a xs → DvAll K F xs ds → Dv K F (.ref a) (.tuple ds)
  | dct {a : Addr} {ks : List (Key × V)} {kds : List (D × D)} : F a = some (.dK ks) → DvKV K F ks kds → Dv K F (.ref a) (.dict kds)
inductive DvAll (K : PySem.W.Frag) (F : Hp) : List V → List D → Prop
  | nil : DvAll K F [] []
  | cons {v : V} {vs : List V} {d : D} {ds : List D} : Dv K F v d → DvAll K F vs ds → DvAll K F (v :: vs) (d :: ds)
inductive DvKV (K : PySem.W.Frag) (F : Hp) : List (Key × V) → List (D × D) → Prop
  | nil : DvKV K F [] []
  | cons {k : Key} {v : V} {r : List (Key × V)} {d : D} {s : List (D × D)} : Dv K F v d → DvKV K F r s → DvKV K F ((k, v) :: r) ((keyD k, d) :: s)
end

section
variable {K : PySem.W.Frag} {F F' : Hp}
theorem seqL (e : Same F F') {a : Addr} {xs : List V} (h : SqL K F a xs) : SqL K F' a xs := e.seq h
theorem seqT (e : Same F F') {a : Addr} {xs : List V} (h : SqT K F a xs) : SqT K F' a xs := by
  rcases h with (h | ⟨o, h⟩) | h
  · exact .inl (.inl (e _ _ h))
  · exact .inl (.inr ⟨o, e _ _ h⟩)
  · exact .inr h
theorem plT (e : Same F F') {a : Addr} {xs : List V} (h : PlT K F a xs) : PlT K F' a xs := by
  rcases h with ⟨o, h, d⟩ | h
  · exact .inl ⟨o, e _ _ h, d⟩
  · exact .inr h
mutual
theorem Dv.mono (e : Same F F') : ∀ {d : D} {v : V}, Dv K F v d → Dv K F' v d
  | .none, _, h => by cases h; exact .non
  | .bool _, _, h => by cases h; exact .bl _
  | .int _, _, h => by cases h; exact .int _
  | .str _, _, h => by cases h; exact .str _
  | .list _, _, h => by cases h with | lst h1 h2 => exact .lst (seqL e h1) (DvAll.mono e h2)
  | .tuple _, _, h => by cases h with | tup h1 h2 => exact .tup (plT e h1) (DvAll.mono e h2)
  | .dict _, _, h => by cases h with | dct h1 h2 => exact .dct (e _ _ h1) (DvKV.mono e h2)
theorem DvAll.mono (e : Same F F') : ∀ {ds : List D} {vs : List V}, DvAll K F vs ds → DvAll K F' vs ds
  | [], _, h => by cases h; exact .nil
  | _ :: _, _, h => by cases h with | cons h1 h2 => exact .cons (Dv.mono e h1) (DvAll.mono e h2)
theorem DvKV.mono (e : Same F F') : ∀ {ds : List (D × D)} {vs : List (Key × V)}, DvKV K F vs ds → DvKV K F' vs ds
  | [], _, h => by cases h; exact .nil
  | _ :: _, _, h => by cases h with | cons h1 h2 => exact .cons (Dv.mono e h1) (DvKV.mono e h2)
end
theorem DvAll.length : ∀ {vs : List V} {ds : List D}, DvAll K F vs ds → vs.length = ds.length
  | _, _, .nil => rfl
  | _, _, .cons _ t => by rw [List.length_cons, List.length_cons, DvAll.length t]
theorem DvAll.get : ∀ {vs : List V} {ds : List D} {i : Nat} {d : D}, DvAll K F vs ds → ds[i]? = some d → ∃ v, vs[i]? = some v ∧ Dv K F v d
  | _, _, _, _, .nil, h => by simp at h
  | _, _, 0, _, .cons r _, h => by simp at h; subst h; exact ⟨_, rfl, r⟩
  | _, _, i + 1, _, .cons _ t, h => by
    obtain ⟨v, e, r⟩ := DvAll.get (i := i) t (by simpa using h)
    exact ⟨v, by simpa using e, r⟩
theorem DvAll.getV : ∀ {vs : List V} {ds : List D} {i : Nat} {v : V}, DvAll K F vs ds → vs[i]? = some v → ∃ d, ds[i]? = some d ∧ Dv K F v d
  | _, _, _, _, .nil, h => by simp at h
  | _, _, 0, _, .cons r _, h => by simp at h; subst h; exact ⟨_, rfl, r⟩
  | _, _, i + 1, _, .cons _ t, h => by
    obtain ⟨v, e, r⟩ := DvAll.getV (i := i) t (by simpa using h)
    exact ⟨v, by simpa using e, r⟩
theorem DvAll.append : ∀ {vs us : List V} {ds es : List D}, DvAll K F vs ds → DvAll K F us es → DvAll K F (vs ++ us) (ds ++ es)
  | _, _, _, _, .nil, s => s
  | _, _, _, _, .cons r t, s => .cons r (DvAll.append t s)
theorem DvAll.take : ∀ {vs : List V} {ds : List D} (n : Nat), DvAll K F vs ds → DvAll K F (vs.take n) (ds.take n)
  | _, _, 0, _ => .nil
  | _, _, _ + 1, .nil => .nil
  | _, _, n + 1, .cons r t => .cons r (DvAll.take n t)
theorem DvAll.drop : ∀ {vs : List V} {ds : List D} (n : Nat), DvAll K F vs ds → DvAll K F (vs.drop n) (ds.drop n)
  | _, _, 0, r => r
  | _, _, _ + 1, .nil => .nil
  | _, _, n + 1, .cons _ t => DvAll.drop n t
theorem DvAll.reverse : ∀ {vs : List V} {ds : List D}, DvAll K F vs ds → DvAll K F vs.reverse ds.reverse
  | _, _, .nil => .nil
  | _, _, .cons r t => by
    rw [List.reverse_cons, List.reverse_cons]
    exact (DvAll.reverse t).append (.cons r .nil)
theorem DvAll.set {v : V} {d : D} (r : Dv K F v d) : ∀ {vs : List V} {ds : List D} (i : Nat), DvAll K F vs ds → DvAll K F (vs.set i v) (ds.set i d)
  | _, _, _, .nil => .nil
  | _, _, 0, .cons _ t => .cons r t
  | _, _, i + 1, .cons q t => .cons q (DvAll.set r i t)
theorem DvAll.rep {vs : List V} {ds : List D} (h : DvAll K F vs ds) : ∀ k : Nat, DvAll K F (List.replicate k vs).flatten (List.replicate k ds).flatten
  | 0 => .nil
  | k + 1 => by
    rw [List.replicate_succ, List.replicate_succ, List.flatten_cons, List.flatten_cons]
    exact h.append (DvAll.rep h k)
end

/-! ### cells: the lists and dicts that the program changes -/
/-- an exception: its class's name, its fields -/
structure Ex where
  cls : Str
  fs : List (Str × D)
inductive Cell where
  | lst (ds : List D)
  | dct (kvs : List (D × D))
  /-- no longer changed -/
  | old (d : D)
  /-- an exception that was caught -/
  | exc (x : Ex)
def Cell.mut : Cell → Bool
  | .lst _ => true
  | .dct _ => true
  | .old _ => false
  | .exc _ => false
/-- a caught exception's object -/
def ExcO (cls : Value) (d : Option Addr) (a : Addr) : HO := .ext fun h => ∃ (oe : Obj) (vs : Array Value), h.get? a = some oe ∧ Zc cls d oe ∧ oe.data = .fields vs
/-- fields as they stand in an exception's own dict -/
def FsOk (K : PySem.W.Frag) (F : Hp) (fs : List (Str × D)) (d : Option Addr) : Prop :=
  match fs with
  | [] => d = none
  | _ :: _ => ∃ a gs, d = some a ∧ F a = some (.xd gs) ∧ Paired (fun (p : Str × V) (q : Str × D) => p.1 = q.1 ∧ Dv K F p.2 q.2) gs fs
theorem FsOk.mono {K : PySem.W.Frag} {F F' : Hp} (e : Same F F') {fs : List (Str × D)} {d : Option Addr} (h : FsOk K F fs d) : FsOk K F' fs d := by
  cases fs with
  | nil => exact h
  | cons f r =>
    obtain ⟨a, gs, h1, h2, h3⟩ := h
    exact ⟨a, gs, h1, e _ _ h2, Paired.mapP h3 fun _ _ z => ⟨z.1, z.2.mono e⟩⟩
/-- the world: the addresses of the cells, what is in them, the heap -/
structure Wd where
  α : List Addr
  S : List Cell
  H : Hp
/-- the addresses of cells that may change -/
def Wd.muts (w : Wd) : List Addr := ((w.α.zip w.S).filter (·.2.mut)).map (·.1)
/-- the frozen part -/
def Wd.F (w : Wd) : Hp := fun b => if b ∈ w.muts then none else w.H b
def CellOk (K : PySem.W.Frag) (mg : Str → Option Value) (F H : Hp) (a : Addr) : Cell → Prop
  | .lst ds => ∃ xs, H a = some (.lst xs) ∧ DvAll K F xs ds
  | .dct kvs => ∃ ks, H a = some (.dK ks) ∧ DvKV K F ks kvs
  | .old d => Dv K F (.ref a) d
  | .exc x => ∃ C d, mg x.cls = some (.ref C) ∧ F a = some (ExcO (.ref C) d a) ∧ FsOk K F x.fs d
structure Rep (K : PySem.W.Frag) (mg : Str → Option Value) (w : Wd) : Prop where
  len : w.α.length = w.S.length
  nd : w.α.Nodup
  al : ∀ a ∈ w.α, ∃ o, w.H a = some o
  at_ : ∀ (l : Nat) (a : Addr) (c : Cell), w.α[l]? = some a → w.S[l]? = some c → CellOk K mg w.F w.H a c
/-- a later world -/
structure Ext (w w' : Wd) : Prop where
  pre : w.α <+: w'.α
  same : Same w.F w'.F
theorem Ext.refl (w : Wd) : Ext w w := ⟨List.prefix_refl _, Same.refl _⟩
theorem Ext.trans {a b c : Wd} (h : Ext a b) (g : Ext b c) : Ext a c := ⟨h.pre.trans g.pre, h.same.trans g.same⟩
theorem Ext.at_ {w w' : Wd} (e : Ext w w') {l : Nat} {a : Addr} (h : w.α[l]? = some a) : w'.α[l]? = some a := by
  obtain ⟨t, ht⟩ := e.pre
  rw [← ht, List.getElem?_append_left (List.getElem?_eq_some_iff.mp h).1]
  exact h
/-- what the program's values are to us -/
inductive Val where
  | d (x : D)
  | c (l : Nat)
def RV (K : PySem.W.Frag) (w : Wd) (v : V) : Val → Prop
  | .d x => Dv K w.F v x
  | .c l => ∃ a, w.α[l]? = some a ∧ v = .ref a
theorem RV.mono {K : PySem.W.Frag} {w w' : Wd} (e : Ext w w') {v : V} : ∀ {x : Val}, RV K w v x → RV K w' v x
  | .d _, h => Dv.mono e.same h
  | .c _, ⟨a, h, r⟩ => ⟨a, e.at_ h, r⟩
def RVs (K : PySem.W.Frag) (w : Wd) : List V → List Val → Prop := Paired (RV K w)
theorem RVs.mono {K : PySem.W.Frag} {w w' : Wd} (e : Ext w w') {vs : List V} {xs : List Val} (h : RVs K w vs xs) : RVs K w' vs xs := Paired.mapP h fun _ _ r => r.mono e
theorem RVs.length {K : PySem.W.Frag} {w : Wd} {vs : List V} {xs : List Val} (h : RVs K w vs xs) : vs.length = xs.length := Paired.length h
/-- the frame's names -/
abbrev Env' := List (Option Val)
structure RE (K : PySem.W.Frag) (w : Wd) (σ : L2.St) (ρ : Env') : Prop where
  len : σ.length = ρ.length
  at_ : ∀ (i : Nat) (x : Val), ρ[i]? = some (some x) → ∃ v, σ[i]? = some (some v) ∧ RV K w v x
theorem RE.mono {K : PySem.W.Frag} {w w' : Wd} (e : Ext w w') {σ : L2.St} {ρ : Env'} (h : RE K w σ ρ) : RE K w' σ ρ :=
  ⟨h.len, fun i x q => let ⟨v, a, r⟩ := h.at_ i x q; ⟨v, a, r.mono e⟩⟩
theorem RE.set {K : PySem.W.Frag} {w : Wd} {σ : L2.St} {ρ : Env'} (h : RE K w σ ρ) {v : V} {x : Val} (r : RV K w v x) (i : Nat) : RE K w (σ.set i (some v)) (ρ.set i (some x)) := by
  refine ⟨by rw [List.length_set, List.length_set]; exact h.len, fun j y q => ?_⟩
  by_cases hj : i = j
  · subst hj
    by_cases hl : i < ρ.length
    · rw [List.getElem?_set_self hl] at q
      cases q
      exact ⟨v, List.getElem?_set_self (by rw [h.len]; exact hl), r⟩
    · rw [List.getElem?_eq_none (by rw [List.length_set]; omega)] at q
      cases q
  · rw [List.getElem?_set_ne hj] at q
    obtain ⟨u, a, b⟩ := h.at_ j y q
    exact ⟨u, by rw [List.getElem?_set_ne hj]; exact a, b⟩
theorem RE.del {K : PySem.W.Frag} {w : Wd} {σ : L2.St} {ρ : Env'} (h : RE K w σ ρ) (i : Nat) (o : Option V) : RE K w (σ.set i o) (ρ.set i none) := by
  refine ⟨by rw [List.length_set, List.length_set]; exact h.len, fun j y q => ?_⟩
  by_cases hj : i = j
  · subst hj
    by_cases hl : i < ρ.length
    · rw [List.getElem?_set_self hl] at q; cases q
    · rw [List.getElem?_eq_none (by rw [List.length_set]; omega)] at q; cases q
  · rw [List.getElem?_set_ne hj] at q
    obtain ⟨u, a, b⟩ := h.at_ j y q
    exact ⟨u, by rw [List.getElem?_set_ne hj]; exact a, b⟩

/-! ### what a piece yields: stuck (nothing is promised), a value, an exception -/
inductive Res (A : Type) where
  | st
  | ok (a : A) (S : List Cell)
  | ex (x : Ex) (S : List Cell)
abbrev M (A : Type) := List Cell → Res A
def M.ret {A : Type} (a : A) : M A := fun S => .ok a S
def M.st {A : Type} : M A := fun _ => .st
def Res.bind {A B : Type} (r : Res A) (k : A → M B) : Res B := match r with
  | .st => .st
  | .ok a S => k a S
  | .ex x S => .ex x S
def M.bind {A B : Type} (m : M A) (k : A → M B) : M B := fun S => (m S).bind k

/-- an exception in the air -/
def RX (K : PySem.W.Frag) (mg : Str → Option Value) (w : Wd) (cls : Value) (d : Option Addr) (x : Ex) : Prop :=
  ∃ C, mg x.cls = some (.ref C) ∧ cls = .ref C ∧ FsOk K w.F x.fs d
/-- what is wanted behind a piece that yields r, from the world w on -/
def After {A B : Type} (K : PySem.W.Frag) (mg : Str → Option Value) (rel : Wd → B → A → Prop) (w : Wd) (r : Res A) (Q : B → Hp → Prop) (X : XK) : Prop :=
  match r with
  | .st => False
  | .ok a S => ∀ α H b, Ext w ⟨α, S, H⟩ → Rep K mg ⟨α, S, H⟩ → rel ⟨α, S, H⟩ b a → Q b H
  | .ex x S => ∀ α H cls d, Ext w ⟨α, S, H⟩ → Rep K mg ⟨α, S, H⟩ → RX K mg ⟨α, S, H⟩ cls d x → X cls d H
section
variable {K : PySem.W.Frag} {mg : Str → Option Value} {A A' B B' : Type} {rel : Wd → B → A → Prop} {rel' : Wd → B' → A' → Prop} {w w' : Wd}
theorem After.later {r : Res A} {Q : B → Hp → Prop} {X : XK} (h : After K mg rel w r Q X) (e : Ext w w') : After K mg rel w' r Q X := by
  cases r with
  | st => exact h
  | ok a S => exact fun α H b e' => h α H b (e.trans e')
  | ex x S => exact fun α H c d e' => h α H c d (e.trans e')
theorem After.imp {r : Res A} {Q Q' : B → Hp → Prop} {X X' : XK} (h : After K mg rel w r Q X) (hq : ∀ b H, Q b H → Q' b H) (hx : ∀ c d H, X c d H → X' c d H) : After K mg rel w r Q' X' := by
  cases r with
  | st => exact h
  | ok a S => exact fun α H b e1 e2 e3 => hq _ _ (h α H b e1 e2 e3)
  | ex x S => exact fun α H c d e1 e2 e3 => hx _ _ _ (h α H c d e1 e2 e3)
/-- the first part, then the second -/
theorem After.split {r : Res A} {k : A → M A'} {Q : B' → Hp → Prop} {X : XK} (h : After K mg rel' w (r.bind k) Q X) :
    After K mg rel w r (fun b H => ∃ α S a, Ext w ⟨α, S, H⟩ ∧ Rep K mg ⟨α, S, H⟩ ∧ rel ⟨α, S, H⟩ b a ∧ After K mg rel' ⟨α, S, H⟩ (k a S) Q X) X := by
  cases r with
  | st => exact h
  | ok a S => exact fun α H b e1 e2 e3 => ⟨α, S, a, e1, e2, e3, After.later h e1⟩
  | ex x S => exact h
end
/-- the reading of an expression that yields f -/
def tD (K : PySem.W.Frag) (mg : Str → Option Value) (W : WX) (f : Env' → M Val) : TE := fun σ H Q =>
  ∃ α S ρ, Rep K mg ⟨α, S, H⟩ ∧ RE K ⟨α, S, H⟩ σ ρ ∧ After K mg (RV K) ⟨α, S, H⟩ (f ρ S) Q (fun c d H' => W c d σ H')
/-- of an argument list -/
def tDs (K : PySem.W.Frag) (mg : Str → Option Value) (W : WX) (f : Env' → M (List Val)) : TA := fun σ H Q =>
  ∃ α S ρ, Rep K mg ⟨α, S, H⟩ ∧ RE K ⟨α, S, H⟩ σ ρ ∧ After K mg (RVs K) ⟨α, S, H⟩ (f ρ S) Q (fun c d H' => W c d σ H')
/-- of a test -/
def tDt (K : PySem.W.Frag) (mg : Str → Option Value) (W : WX) (f : Env' → M Bool) : TT := fun σ H Q =>
  ∃ α S ρ, Rep K mg ⟨α, S, H⟩ ∧ RE K ⟨α, S, H⟩ σ ρ ∧ After K mg (fun _ b a => b = a) ⟨α, S, H⟩ (f ρ S) Q (fun c d H' => W c d σ H')
section
variable {X : Cx} {e : Expr} {es : List Expr} {t t' : TE} {ta ta' : TA} {tt tt' : TT}
theorem PE.imp (h : PE X e t) (k : ∀ σ H Q, t' σ H Q → t σ H Q) : PE X e t' := ⟨fun pins s σ H Q I q => h.run pins s σ H Q I (k σ H Q q)⟩
theorem PA.imp (h : PA X es ta) (k : ∀ σ H Q, ta' σ H Q → ta σ H Q) : PA X es ta' := ⟨fun pos pins s σ H Q I q => h.run pos pins s σ H Q I (k σ H Q q)⟩
theorem PT.imp (h : PT X e tt) (k : ∀ σ H Q, tt' σ H Q → tt σ H Q) : PT X e tt' := ⟨fun pins s σ H Q I q => h.run pins s σ H Q I (k σ H Q q)⟩
theorem PW.imp (h : PW X e tt) (k : ∀ σ H Q, tt' σ H Q → tt σ H Q) : PW X e tt' := ⟨fun wh pins s σ H Q I q => h.run wh pins s σ H Q I (k σ H Q q)⟩
end
/-- pieces: an expression, an argument list, a test that yield f -/
abbrev ED (X : Cx) (W : WX) (e : Expr) (f : Env' → M Val) : Prop := PE X e (tD X.K X.mg W f)
abbrev AD (X : Cx) (W : WX) (es : List Expr) (f : Env' → M (List Val)) : Prop := PA X es (tDs X.K X.mg W f)
abbrev TDt (X : Cx) (W : WX) (e : Expr) (f : Env' → M Bool) : Prop := PT X e (tDt X.K X.mg W f)
abbrev WDt (X : Cx) (W : WX) (e : Expr) (f : Env' → M Bool) : Prop := PW X e (tDt X.K X.mg W f)
end Zz
set_option maxRecDepth 100000
set_option maxHeartbeats 4000000
namespace Zz
open PySem PySem.Spec PyProof.Rows L2
section
variable {K : PySem.W.Frag} {mg : Str → Option Value} {w w' : Wd}
theorem Wd.F_same (w : Wd) : Same w.F w.H := fun b o h => by
  unfold Wd.F at h
  split at h
  · cases h
  · exact h
theorem Wd.F_of {w : Wd} {b : Addr} {o : HO} (h : w.H b = some o) (hm : b ∉ w.muts) : w.F b = some o := by
  unfold Wd.F
  rw [if_neg hm]
  exact h
theorem mem_muts {w : Wd} {b : Addr} (hl : w.α.length = w.S.length) : b ∈ w.muts ↔ ∃ (l : Nat) (c : Cell), w.α[l]? = some b ∧ w.S[l]? = some c ∧ c.mut = true := by
  unfold Wd.muts
  constructor
  · intro h
    obtain ⟨p, hp, e⟩ := List.mem_map.mp h
    obtain ⟨h1, h2⟩ := List.mem_filter.mp hp
    obtain ⟨i, hi⟩ := List.mem_iff_getElem?.mp h1
    rw [List.getElem?_zip_eq_some] at hi
    exact ⟨i, p.2, by rw [← e]; exact hi.1, hi.2, h2⟩
  · rintro ⟨l, c, h1, h2, h3⟩
    refine List.mem_map.mpr ⟨(b, c), List.mem_filter.mpr ⟨List.mem_iff_getElem?.mpr ⟨l, List.getElem?_zip_eq_some.mpr ⟨h1, h2⟩⟩, h3⟩, rfl⟩
theorem CellOk.there {F H : Hp} {a : Addr} {c : Cell} (h : CellOk K mg F H a c) (m : c.mut = true) : ∃ o, H a = some o := by
  cases c with
  | lst ds => obtain ⟨xs, h, _⟩ := h; exact ⟨_, h⟩
  | dct ks => obtain ⟨xs, h, _⟩ := h; exact ⟨_, h⟩
  | old d => cases m
  | exc x => cases m
theorem Rep.fresh (R : Rep K mg w) {p : Addr} (hp : w.H p = none) : p ∉ w.muts := fun h => by
  obtain ⟨l, c, h1, h2, h3⟩ := (mem_muts R.len).mp h
  obtain ⟨o, e⟩ := (R.at_ l p c h1 h2).there h3
  rw [hp] at e; cases e
theorem CellOk.mono {F F' H H' : Hp} {a : Addr} {c : Cell} (h : CellOk K mg F H a c) (e : Same F F') (ha : c.mut = true → H' a = H a) : CellOk K mg F' H' a c := by
  cases c with
  | lst ds => obtain ⟨xs, h, g⟩ := h; exact ⟨xs, by rw [ha rfl]; exact h, g.mono e⟩
  | dct ks => obtain ⟨xs, h, g⟩ := h; exact ⟨xs, by rw [ha rfl]; exact h, g.mono e⟩
  | old d => exact Dv.mono e h
  | exc x => obtain ⟨C, d, h1, h2, h3⟩ := h; exact ⟨C, d, h1, e _ _ h2, h3.mono e⟩
/-- the same cells in another heap -/
theorem Rep.heap (R : Rep K mg w) {H' : Hp} (e : Same w.F (Wd.F ⟨w.α, w.S, H'⟩)) (k : ∀ a, a ∈ w.muts → H' a = w.H a) : Rep K mg ⟨w.α, w.S, H'⟩ ∧ Ext w ⟨w.α, w.S, H'⟩ :=
  ⟨⟨R.len, R.nd, fun a ha => by
    obtain ⟨o, ho⟩ := R.al a ha
    by_cases hm : a ∈ w.muts
    · exact ⟨o, (k a hm).trans ho⟩
    · exact ⟨o, Wd.F_same _ _ _ (e _ _ (Wd.F_of ho hm))⟩, fun l a c h1 h2 => (R.at_ l a c h1 h2).mono e fun m => k a ((mem_muts R.len).mpr ⟨l, c, h1, h2, m⟩)⟩, List.prefix_refl _, e⟩
/-- a new object -/
theorem Rep.new (R : Rep K mg w) {p : Addr} (hp : w.H p = none) (o : HO) :
    Rep K mg ⟨w.α, w.S, upd w.H p o⟩ ∧ Ext w ⟨w.α, w.S, upd w.H p o⟩ ∧ Wd.F ⟨w.α, w.S, upd w.H p o⟩ p = some o := by
  have hm := R.fresh hp
  have e : Same w.F (Wd.F ⟨w.α, w.S, upd w.H p o⟩) := fun b u h => by
    unfold Wd.F at h ⊢
    show (if b ∈ w.muts then none else upd w.H p o b) = some u
    split at h
    · cases h
    · rename_i hb
      rw [if_neg hb, upd_ne (ne_of_none h hp)]
      exact h
  obtain ⟨r1, r2⟩ := R.heap (H' := upd w.H p o) e fun a ha => upd_ne fun z => hm (z ▸ ha)
  refine ⟨r1, r2, ?_⟩
  unfold Wd.F
  show (if p ∈ w.muts then none else upd w.H p o p) = some o
  rw [if_neg hm, upd_same]
theorem muts_snoc {α : List Addr} {S : List Cell} {H : Hp} {p : Addr} {c : Cell} (hl : α.length = S.length) : Wd.muts ⟨α ++ [p], S ++ [c], H⟩ = Wd.muts ⟨α, S, H⟩ ++ (if c.mut = true then [p] else []) := by
  unfold Wd.muts
  show (((α ++ [p]).zip (S ++ [c])).filter (·.2.mut)).map (·.1) = _
  rw [List.zip_append hl, List.filter_append, List.map_append]
  congr 1
  show (List.filter (fun x : Addr × Cell => x.2.mut) [(p, c)]).map (·.1) = _
  rw [List.filter_cons, List.filter_nil]
  split <;> rfl
/-- a new cell -/
theorem Rep.cell (R : Rep K mg w) {p : Addr} (hp : w.H p = none) {o : HO} {c : Cell} (hc : c.mut = true) (ok : CellOk K mg w.F (upd w.H p o) p c) :
    Rep K mg ⟨w.α ++ [p], w.S ++ [c], upd w.H p o⟩ ∧ Ext w ⟨w.α ++ [p], w.S ++ [c], upd w.H p o⟩ := by
  have hm := R.fresh hp
  have hnot : p ∉ w.α := fun z => by
    obtain ⟨o, e⟩ := R.al p z
    rw [hp] at e; cases e
  have em : Wd.muts ⟨w.α ++ [p], w.S ++ [c], upd w.H p o⟩ = w.muts ++ [p] := by
    rw [muts_snoc R.len, if_pos hc]; rfl
  have e : Same w.F (Wd.F ⟨w.α ++ [p], w.S ++ [c], upd w.H p o⟩) := fun b u h => by
    unfold Wd.F at h ⊢
    rw [em]
    show (if b ∈ w.muts ++ [p] then none else upd w.H p o b) = some u
    split at h
    · cases h
    · rename_i hb
      have hbp := ne_of_none h hp
      rw [if_neg (by simp [hb, hbp]), upd_ne hbp]
      exact h
  refine ⟨⟨by simp [R.len], ?_, fun a ha => ?_, fun l a c' h1 h2 => ?_⟩, List.prefix_append _ _, e⟩
  · exact List.nodup_append.mpr ⟨R.nd, by simp, fun a ha b hb z => by
      have : b = p := by simpa using hb
      subst this; subst z; exact hnot ha⟩
  · rcases List.mem_append.mp ha with ha | ha
    · obtain ⟨u, hu⟩ := R.al a ha
      exact ⟨u, (upd_ne (ne_of_none hu hp)).trans hu⟩
    · have z : a = p := by simpa using ha
      subst z
      exact ⟨o, upd_same⟩
  · by_cases hl : l < w.α.length
    · have h1' : w.α[l]? = some a := by
        have : (w.α ++ [p])[l]? = some a := h1
        rwa [List.getElem?_append_left hl] at this
      have h2' : w.S[l]? = some c' := by
        have : (w.S ++ [c])[l]? = some c' := h2
        rwa [List.getElem?_append_left (by rw [← R.len]; exact hl)] at this
      exact (R.at_ l a c' h1' h2').mono e fun m => upd_ne fun z => hm (by rw [← z]; exact (mem_muts R.len).mpr ⟨l, c', h1', h2', m⟩)
    · have h1' : ([p] : List Addr)[l - w.α.length]? = some a := by
        have : (w.α ++ [p])[l]? = some a := h1
        rwa [List.getElem?_append_right (by omega)] at this
      have h2' : ([c] : List Cell)[l - w.S.length]? = some c' := by
        have : (w.S ++ [c])[l]? = some c' := h2
        rwa [List.getElem?_append_right (by rw [← R.len]; omega)] at this
      obtain ⟨h3, _⟩ := List.getElem?_eq_some_iff.mp h1'
      have hz : l - w.α.length = 0 := by simpa using h3
      have hz2 : l - w.S.length = 0 := by rw [← R.len]; exact hz
      rw [hz] at h1'; rw [hz2] at h2'
      have e1 : p = a := by simpa using h1'
      have e2 : c = c' := by simpa using h2'
      subst e1 e2
      exact ok.mono e fun _ => rfl
theorem muts_set {α : List Addr} {S : List Cell} {H : Hp} {l : Nat} {c c' : Cell} (h : S[l]? = some c) (hm : c'.mut = c.mut) : Wd.muts ⟨α, S.set l c', H⟩ = Wd.muts ⟨α, S, H⟩ := by
  unfold Wd.muts
  show ((α.zip (S.set l c')).filter (·.2.mut)).map (·.1) = ((α.zip S).filter (·.2.mut)).map (·.1)
  induction S generalizing α l with
  | nil => simp at h
  | cons s r ih =>
    cases α with
    | nil => rfl
    | cons a α =>
      cases l with
      | zero =>
        have e : s = c := by simpa using h
        subst e
        show (List.filter _ ((a, c') :: α.zip r)).map _ = (List.filter _ ((a, s) :: α.zip r)).map _
        rw [List.filter_cons, List.filter_cons]
        show (if c'.mut = true then _ else _ : List (Addr × Cell)).map _ = (if s.mut = true then _ else _ : List (Addr × Cell)).map _
        rw [hm]
        split <;> rfl
      | succ l =>
        have := ih (α := α) (l := l) (by simpa using h)
        show (List.filter _ ((a, s) :: α.zip (r.set l c'))).map _ = (List.filter _ ((a, s) :: α.zip r)).map _
        rw [List.filter_cons, List.filter_cons]
        split
        · rw [List.map_cons, List.map_cons, this]
        · exact this
theorem nodup_ixA {N : List Addr} (hN : N.Nodup) {i j : Nat} {x : Addr} (a : N[i]? = some x) (b : N[j]? = some x) : i = j := by
  obtain ⟨h1, e1⟩ := List.getElem?_eq_some_iff.mp a
  obtain ⟨h2, e2⟩ := List.getElem?_eq_some_iff.mp b
  exact (List.getElem_inj hN).mp (e1.trans e2.symm)
/-- a cell is written -/
theorem Rep.write (R : Rep K mg w) {l : Nat} {a : Addr} {c c' : Cell} {o : HO} (h1 : w.α[l]? = some a) (h2 : w.S[l]? = some c) (m : c.mut = true) (m' : c'.mut = true) (ok : CellOk K mg w.F (upd w.H a o) a c') :
    Rep K mg ⟨w.α, w.S.set l c', upd w.H a o⟩ ∧ Ext w ⟨w.α, w.S.set l c', upd w.H a o⟩ := by
  have em : ∀ H, Wd.muts ⟨w.α, w.S.set l c', H⟩ = w.muts := fun H => muts_set (H := H) h2 (m'.trans m.symm)
  have ha : a ∈ w.muts := (mem_muts R.len).mpr ⟨l, c, h1, h2, m⟩
  have e : Same w.F (Wd.F ⟨w.α, w.S.set l c', upd w.H a o⟩) := fun b u h => by
    unfold Wd.F at h ⊢
    rw [em]
    show (if b ∈ w.muts then none else upd w.H a o b) = some u
    split at h
    · cases h
    · rename_i hb
      rw [if_neg hb, upd_ne fun z => hb (by rw [z]; exact ha)]
      exact h
  refine ⟨⟨by simp [R.len], R.nd, fun b hb => ?_, fun j b d g1 g2 => ?_⟩, List.prefix_refl _, e⟩
  · by_cases hba : b = a
    · subst hba; exact ⟨o, upd_same⟩
    · obtain ⟨u, hu⟩ := R.al b hb
      exact ⟨u, (upd_ne hba).trans hu⟩
  by_cases hj : l = j
  · subst hj
    have hl := (List.getElem?_eq_some_iff.mp h2).1
    have g2' : (w.S.set l c')[l]? = some d := g2
    rw [List.getElem?_set_self hl] at g2'
    have e1 : a = b := Option.some.inj (h1.symm.trans g1)
    have e2 : c' = d := Option.some.inj g2'
    subst e1 e2
    exact ok.mono e fun _ => rfl
  · have g2' : w.S[j]? = some d := by
      have : (w.S.set l c')[j]? = some d := g2
      rwa [List.getElem?_set_ne hj] at this
    refine (R.at_ j b d g1 g2').mono e fun _ => upd_ne fun z => hj ?_
    subst z
    exact nodup_ixA R.nd h1 g1
/-- what a value holds just now -/
def rd (S : List Cell) : Val → Option D
  | .d x => some x
  | .c l => match S[l]? with
    | some (.lst ds) => some (.list ds)
    | some (.dct kvs) => some (.dict kvs)
    | some (.old d) => some d
    | _ => none
theorem Rep.rd_ {v : V} {x : Val} {d : D} (R : Rep K mg w) (r : RV K w v x) (h : rd w.S x = some d) : Dv K w.F v d ∨ (∃ l a xs ds, x = .c l ∧ v = .ref a ∧ d = .list ds ∧ w.α[l]? = some a ∧ w.S[l]? = some (.lst ds) ∧ w.H a = some (.lst xs) ∧ DvAll K w.F xs ds) ∨
    (∃ l a ks kds, x = .c l ∧ v = .ref a ∧ d = .dict kds ∧ w.α[l]? = some a ∧ w.S[l]? = some (.dct kds) ∧ w.H a = some (.dK ks) ∧ DvKV K w.F ks kds) := by
  cases x with
  | d y => exact .inl (by have e : y = d := Option.some.inj h; rw [← e]; exact r)
  | c l =>
    obtain ⟨a, ha, rfl⟩ := r
    unfold rd at h
    cases hs : w.S[l]? with
    | none => simp only [hs] at h; cases h
    | some c =>
      cases c with
      | lst ds =>
        simp only [hs] at h; cases h
        obtain ⟨xs, h1, h2⟩ := R.at_ l a _ ha hs
        exact .inr (.inl ⟨l, a, xs, ds, rfl, rfl, rfl, ha, hs, h1, h2⟩)
      | dct ks =>
        simp only [hs] at h; cases h
        obtain ⟨xs, h1, h2⟩ := R.at_ l a _ ha hs
        exact .inr (.inr ⟨l, a, xs, ks, rfl, rfl, rfl, ha, hs, h1, h2⟩)
      | old e =>
        simp only [hs] at h; cases h
        exact .inl (R.at_ l a _ ha hs)
      | exc z => simp only [hs] at h; cases h
theorem Rep.list {v : V} {x : Val} {ds : List D} (R : Rep K mg w) (r : RV K w v x) (h : rd w.S x = some (.list ds)) : ∃ a xs, v = .ref a ∧ SqL K w.H a xs ∧ DvAll K w.F xs ds := by
  rcases R.rd_ r h with q | ⟨l, a, xs, es, rfl, rfl, e, h1, h2, h3, h4⟩ | ⟨l, a, xs, es, rfl, rfl, e, _⟩
  · cases q with | lst h1 h2 => exact ⟨_, _, rfl, seqL w.F_same h1, h2⟩
  · cases e; exact ⟨a, xs, rfl, SqL.of h3, h4⟩
  · cases e
theorem Rep.tuple {v : V} {x : Val} {ds : List D} (R : Rep K mg w) (r : RV K w v x) (h : rd w.S x = some (.tuple ds)) : ∃ a xs, v = .ref a ∧ SqT K w.H a xs ∧ DvAll K w.F xs ds ∧ Dv K w.F v (.tuple ds) := by
  rcases R.rd_ r h with q | ⟨l, a, xs, es, rfl, rfl, e, h1, h2, h3, h4⟩ | ⟨l, a, xs, es, rfl, rfl, e, _⟩
  · cases q with | tup h1 h2 => exact ⟨_, _, rfl, seqT w.F_same h1.sq, h2, .tup h1 h2⟩
  · cases e
  · cases e
theorem Rep.tupleP {v : V} {x : Val} {ds : List D} (R : Rep K mg w) (r : RV K w v x) (h : rd w.S x = some (.tuple ds)) : ∃ a xs, v = .ref a ∧ PlT K w.H a xs ∧ DvAll K w.F xs ds := by
  obtain ⟨a, xs, rfl, _, _, d⟩ := R.tuple r h
  cases d with | tup h1 h2 => exact ⟨_, _, rfl, plT w.F_same h1, h2⟩
theorem Rep.dict {v : V} {x : Val} {ds : List (D × D)} (R : Rep K mg w) (r : RV K w v x) (h : rd w.S x = some (.dict ds)) : ∃ a ks, v = .ref a ∧ w.H a = some (.dK ks) ∧ DvKV K w.F ks ds := by
  rcases R.rd_ r h with q | ⟨l, a, xs, es, rfl, rfl, e, h1, h2, h3, h4⟩ | ⟨l, a, xs, es, rfl, rfl, e, h1, h2, h3, h4⟩
  · cases q with | dct h1 h2 => exact ⟨_, _, rfl, w.F_same _ _ h1, h2⟩
  · cases e
  · cases e; exact ⟨a, xs, rfl, h3, h4⟩
/-- anything, as data of the whole heap -/
theorem Rep.any {v : V} {x : Val} {d : D} (R : Rep K mg w) (r : RV K w v x) (h : rd w.S x = some d) : Dv K w.H v d := by
  rcases R.rd_ r h with q | ⟨l, a, xs, es, rfl, rfl, rfl, h1, h2, h3, h4⟩ | ⟨l, a, xs, es, rfl, rfl, rfl, h1, h2, h3, h4⟩
  · exact q.mono w.F_same
  · exact .lst (SqL.of h3) (h4.mono w.F_same)
  · exact .dct h3 (h4.mono w.F_same)
theorem Rep.scal {v : V} {x : Val} {d : D} (R : Rep K mg w) (r : RV K w v x) (h : rd w.S x = some d) (hn : ∀ ds, d ≠ .list ds) (hd : ∀ ds, d ≠ .dict ds) : Dv K w.F v d := by
  rcases R.rd_ r h with q | ⟨l, a, xs, es, rfl, rfl, rfl, _⟩ | ⟨l, a, xs, es, rfl, rfl, rfl, _⟩
  · exact q
  · exact absurd rfl (hn es)
  · exact absurd rfl (hd es)
theorem Rep.int {v : V} {x : Val} {i : Int} (R : Rep K mg w) (r : RV K w v x) (h : rd w.S x = some (.int i)) : v = .int i := by
  cases R.scal r h nofun nofun; rfl
theorem Rep.str {v : V} {x : Val} {i : Str} (R : Rep K mg w) (r : RV K w v x) (h : rd w.S x = some (.str i)) : v = .str i := by
  cases R.scal r h nofun nofun; rfl
theorem Rep.bool {v : V} {x : Val} {i : Bool} (R : Rep K mg w) (r : RV K w v x) (h : rd w.S x = some (.bool i)) : v = .bl i := by
  cases R.scal r h nofun nofun; rfl
theorem Rep.none {v : V} {x : Val} (R : Rep K mg w) (r : RV K w v x) (h : rd w.S x = some .none) : v = .non := by
  cases R.scal r h nofun nofun; rfl
/-- a cell that is kept elsewhere is changed no more -/
def frz : Val → M D
  | .d x => M.ret x
  | .c l => fun S => match S[l]? with
    | some (.lst ds) => .ok (.list ds) (S.set l (.old (.list ds)))
    | some (.dct kvs) => .ok (.dict kvs) (S.set l (.old (.dict kvs)))
    | some (.old d) => .ok d S
    | _ => .st
theorem muts_off {α : List Addr} {S : List Cell} {H H' : Hp} {l : Nat} {c c' : Cell} (hl : α.length = S.length) (h : S[l]? = some c) (hm : c'.mut = false) {b : Addr} (hb : b ∈ Wd.muts ⟨α, S.set l c', H'⟩) : (∃ j, j ≠ l ∧ α[j]? = some b) ∧ b ∈ Wd.muts ⟨α, S, H⟩ := by
  obtain ⟨j, d, h1, h2, h3⟩ := (mem_muts (w := ⟨α, S.set l c', H'⟩) (by simp [hl])).mp hb
  by_cases hj : l = j
  · subst hj
    have h2' : (S.set l c')[l]? = some d := h2
    rw [List.getElem?_set_self (List.getElem?_eq_some_iff.mp h).1] at h2'
    cases h2'
    rw [hm] at h3; cases h3
  · have h2' : (S.set l c')[j]? = some d := h2
    rw [List.getElem?_set_ne hj] at h2'
    exact ⟨⟨j, fun z => hj z.symm, h1⟩, (mem_muts (w := ⟨α, S, H⟩) hl).mpr ⟨j, d, h1, h2', h3⟩⟩
theorem Rep.seal (R : Rep K mg w) {l : Nat} {a : Addr} {c : Cell} {d : D} {o : HO} (h1 : w.α[l]? = some a) (h2 : w.S[l]? = some c) (m : c.mut = true) (ho : w.H a = some o)
    (ok : ∀ F, Same w.F F → F a = some o → Dv K F (.ref a) d) : Rep K mg ⟨w.α, w.S.set l (.old d), w.H⟩ ∧ Ext w ⟨w.α, w.S.set l (.old d), w.H⟩ ∧ Dv K (Wd.F ⟨w.α, w.S.set l (.old d), w.H⟩) (.ref a) d := by
  have off : ∀ {b}, b ∈ Wd.muts ⟨w.α, w.S.set l (.old d), w.H⟩ → b ∈ w.muts ∧ b ≠ a := fun {b} hb => by
    obtain ⟨⟨j, hj, e⟩, q⟩ := muts_off (H := w.H) R.len h2 (c' := .old d) rfl hb
    exact ⟨q, fun z => hj (nodup_ixA R.nd (by rw [z] at e; exact e) h1)⟩
  have e : Same w.F (Wd.F ⟨w.α, w.S.set l (.old d), w.H⟩) := fun b u h => by
    unfold Wd.F at h ⊢
    split at h
    · cases h
    · rename_i hb
      rw [if_neg fun z => hb (off z).1]
      exact h
  have fa : Wd.F ⟨w.α, w.S.set l (.old d), w.H⟩ a = some o := Wd.F_of ho fun z => (off z).2 rfl
  have dv := ok _ e fa
  refine ⟨⟨by simp [R.len], R.nd, R.al, fun j b c' g1 g2 => ?_⟩, ⟨List.prefix_refl _, e⟩, dv⟩
  by_cases hj : l = j
  · subst hj
    have g2' : (w.S.set l (.old d))[l]? = some c' := g2
    rw [List.getElem?_set_self (List.getElem?_eq_some_iff.mp h2).1] at g2'
    cases g2'
    have e1 : a = b := Option.some.inj (h1.symm.trans g1)
    subst e1
    exact dv
  · have g2' : (w.S.set l (.old d))[j]? = some c' := g2
    rw [List.getElem?_set_ne hj] at g2'
    exact (R.at_ j b c' g1 g2').mono e fun _ => rfl
theorem frz_ok {v : V} {x : Val} {A' B' : Type} {rel : Wd → B' → A' → Prop} {k : D → M A'} {Q : B' → Hp → Prop} {X : XK} (R : Rep K mg w) (r : RV K w v x) (h : After K mg rel w ((frz x w.S).bind k) Q X) :
    ∃ S' d, Ext w ⟨w.α, S', w.H⟩ ∧ Rep K mg ⟨w.α, S', w.H⟩ ∧ Dv K (Wd.F ⟨w.α, S', w.H⟩) v d ∧ After K mg rel ⟨w.α, S', w.H⟩ (k d S') Q X := by
  cases x with
  | d y => exact ⟨w.S, y, Ext.refl _, R, r, h⟩
  | c l =>
    obtain ⟨a, ha, rfl⟩ := r
    unfold frz at h
    cases hs : w.S[l]? with
    | none => simp only [hs] at h; exact False.elim h
    | some c =>
      cases c with
      | lst ds =>
        simp only [hs] at h
        obtain ⟨xs, h1, h2⟩ := R.at_ l a _ ha hs
        obtain ⟨r1, e1, d1⟩ := R.seal (d := .list ds) ha hs rfl h1 fun F e q => .lst (SqL.of q) (h2.mono e)
        exact ⟨_, _, e1, r1, d1, After.later (show After K mg rel w (k (.list ds) (w.S.set l (.old (.list ds)))) Q X from h) e1⟩
      | dct ks =>
        simp only [hs] at h
        obtain ⟨xs, h1, h2⟩ := R.at_ l a _ ha hs
        obtain ⟨r1, e1, d1⟩ := R.seal (d := .dict ks) ha hs rfl h1 fun F e q => .dct q (h2.mono e)
        exact ⟨_, _, e1, r1, d1, After.later (show After K mg rel w (k (.dict ks) (w.S.set l (.old (.dict ks)))) Q X from h) e1⟩
      | old e =>
        simp only [hs] at h
        exact ⟨w.S, e, Ext.refl _, R, R.at_ l a _ ha hs, h⟩
      | exc z => simp only [hs] at h; exact False.elim h
end
end Zz
set_option maxRecDepth 100000
set_option maxHeartbeats 4000000
namespace Zz
open PySem PySem.Spec PyProof.Rows L2

/-! ### operators, by data -/
abbrev O2 := D → D → Option D
/-- the world with another heap -/
abbrev Wd.at (w : Wd) (H : Hp) : Wd := ⟨w.α, w.S, H⟩
/-- what is wanted of an answer that is the data c -/
def Ans (K : PySem.W.Frag) (mg : Str → Option Value) (w : Wd) (c : D) (Q : VK) : Prop :=
  ∀ H v, Ext w (w.at H) → Rep K mg (w.at H) → Dv K (w.at H).F v c → Q v H
section
variable {K : PySem.W.Frag} {mg : Str → Option Value} {w : Wd} {c : D} {Q : VK}
theorem Ans.here (q : Ans K mg w c Q) (R : Rep K mg w) {v : V} (h : Dv K w.F v c) : Q v w.H := q w.H v (Ext.refl _) R h
theorem Ans.new (q : Ans K mg w c Q) (R : Rep K mg w) {p : Addr} (hp : w.H p = none) {o : HO} {v : V} (h : ∀ F, Same w.F F → F p = some o → Dv K F v c) : Q v (upd w.H p o) := by
  obtain ⟨r1, r2, r3⟩ := R.new hp o
  exact q _ v r2 r1 (h _ r2.same r3)
/-- a new list, a new tuple -/
theorem Ans.lst {ds : List D} (q : Ans K mg w (.list ds) Q) (R : Rep K mg w) {xs : List V} (h : DvAll K w.F xs ds) {p : Addr} (hp : w.H p = none) : Q (.ref p) (upd w.H p (.lst xs)) :=
  q.new R hp fun F e f => .lst (SqL.of f) (h.mono e)
theorem Ans.tup {ds : List D} (q : Ans K mg w (.tuple ds) Q) (R : Rep K mg w) {xs : List V} (h : DvAll K w.F xs ds) : kNewT xs w.H Q :=
  fun p ob hp hd => q.new R hp fun F e f => .tup (.inl ⟨ob, f, hd⟩) (h.mono e)
end
def r2D (K : PySem.W.Frag) (mg : Str → Option Value) (o : O2) : R2 := fun x y H Q =>
  ∃ w a b da db c, w.H = H ∧ Rep K mg w ∧ RV K w x a ∧ RV K w y b ∧ rd w.S a = some da ∧ rd w.S b = some db ∧ o da db = some c ∧ Ans K mg w c Q
section
variable {X : Cx} {f : Value → Value → Sem Value} {r r' : R2} {o : O2}
theorem OpR.imp (h : OpR X f r) (k : ∀ x y H Q, r' x y H Q → r x y H Q) : OpR X f r' := fun pins s σ H x y v u Q I rx ry q => h pins s σ H x y v u Q I rx ry (k x y H Q q)
theorem IxR.imp (h : IxR X r) (k : ∀ x y H Q, r' x y H Q → r x y H Q) : IxR X r' := fun value slice pins s σ H x y v u Q I rx ry q => h value slice pins s σ H x y v u Q I rx ry (k x y H Q q)
theorem CallR.imp {g : Value} {r r' : List V → Hp → VK → Prop} (h : CallR X g r) (k : ∀ xs H Q, r' xs H Q → r xs H Q) : CallR X g r' := fun pins s σ H xs us Q I rr q => h pins s σ H xs us Q I rr (k xs H Q q)
theorem MtR.imp {id : String} {r r' : V → List V → Hp → VK → Prop} (h : MtR X id r) (k : ∀ x xs H Q, r' x xs H Q → r x xs H Q) : MtR X id r' := fun pins s σ H x xs v us Q I rx rr q => h pins s σ H x xs v us Q I rx rr (k x xs H Q q)
theorem SlR.imp {r r' : V → Option Int → Option Int → Hp → VK → Prop} (h : SlR X r) (k : ∀ x lo hi H Q, r' x lo hi H Q → r x lo hi H Q) : SlR X r' := fun pins s σ H x v vl vu lo hi sl Q I rx hs pl pu q => h pins s σ H x v vl vu lo hi sl Q I rx hs pl pu (k x lo hi H Q q)

/-- a list, whatever holds it -/
theorem op_catL : OpR X (binaryOp .Add) (fun x y H Q => ∃ a b xs zs, x = .ref a ∧ y = .ref b ∧ SqL X.K H a xs ∧ SqL X.K H b zs ∧ xs.length + zs.length ≤ sizeLine ∧ ∀ p, H p = none → Q (.ref p) (upd H p (.lst (xs ++ zs)))) := by
  intro pins s σ H x y v u Q I rx ry h
  obtain ⟨a, b, xs, zs, rfl, rfl, hA, hB, hz, q⟩ := h
  cases rx
  cases ry
  obtain ⟨its, r, ⟨⟨cls, dd, data, sl⟩, n, e, hc, hd, ht⟩, _⟩ := I.list hA
  obtain ⟨its2, r2, ⟨⟨cls2, dd2, data2, sl2⟩, n2, e2, hc2, hd2, ht2⟩, _⟩ := I.list hB
  simp only at hc hd ht hc2 hd2 ht2
  subst hc hd ht hc2 hd2 ht2
  have l1 := r.length
  have l2 := r2.length
  have ea : its.toArray ++ its2.toArray = (its ++ its2).toArray := by simp
  refine concat_meets ⟨_, e, rfl⟩ ⟨_, e2, rfl⟩ noFill_list_add seq_list_add PySem.F.slot_list_add PySem.F.entry_list_add (PySem.F.args_list_add_2 _ _)
    (list_addW a b its.toArray its2.toArray n n2 none none sl sl2 (by simp; omega)) ⟨e, e2, ?_⟩
  rw [ea]
  exact ⟨.ref _, _, I.lnew (t' := s.toks) (r.append r2) (by rw [List.length_append]; omega), rfl, q _ I.fresh⟩

def oAdd : O2 := fun a b => match a, b with
  | .int i, .int j => some (.int (i + j))
  | .str x, .str y => if x.length + y.length ≤ 16777216 then some (.str (x ++ y)) else none
  | .list x, .list y => if x.length + y.length ≤ 16777216 then some (.list (x ++ y)) else none
  | .tuple x, .tuple y => if x.length + y.length ≤ 16777216 then some (.tuple (x ++ y)) else none
  | _, _ => none
theorem od_add : OpR X (binaryOp .Add) (r2D X.K X.mg oAdd) := by
  refine OpR.imp ((op_add (X := X)).or (op_add_str.or (op_catL.or op_catP))) fun x y H Q h => ?_
  obtain ⟨w, a, b, da, db, c, rfl, R, ra, rb, ea, eb, ec, q⟩ := h
  unfold oAdd at ec
  split at ec
  · cases ec
    cases R.int ra ea
    cases R.int rb eb
    exact .inl ⟨_, _, rfl, rfl, q.here R (.int _)⟩
  · split at ec
    · cases ec
      rename_i hz
      cases R.str ra ea
      cases R.str rb eb
      exact .inr (.inl ⟨_, _, rfl, rfl, by rw [sizeLine_eq]; exact hz, q.here R (.str _)⟩)
    · cases ec
  · split at ec
    · cases ec
      rename_i hz
      obtain ⟨p1, xs, rfl, h1, g1⟩ := R.list ra ea
      obtain ⟨p2, ys, rfl, h2, g2⟩ := R.list rb eb
      exact .inr (.inr (.inl ⟨_, _, _, _, rfl, rfl, h1, h2, by rw [sizeLine_eq, g1.length, g2.length]; exact hz, fun p hp => q.lst R (g1.append g2) hp⟩))
    · cases ec
  · split at ec
    · cases ec
      rename_i hz
      obtain ⟨p1, xs, rfl, h1, g1, d1⟩ := R.tuple ra ea
      obtain ⟨p2, ys, rfl, h2, g2, d2⟩ := R.tuple rb eb
      refine .inr (.inr (.inr ⟨_, _, _, _, rfl, rfl, h1, h2, by rw [sizeLine_eq, g1.length, g2.length]; exact hz, fun z => ?_, fun z1 z2 => ?_, fun z1 z2 => q.tup R (g1.append g2)⟩))
      · subst z
        cases g1
        exact q.here R d2
      · subst z2
        cases g2
        rw [List.append_nil] at q
        exact q.here R d1
    · cases ec
  · cases ec
def oSub : O2 := fun a b => match a, b with
  | .int i, .int j => some (.int (i - j))
  | _, _ => none
theorem od_sub : OpR X (binaryOp .Sub) (r2D X.K X.mg oSub) := by
  refine OpR.imp (op_sub (X := X)) fun x y H Q h => ?_
  obtain ⟨w, a, b, da, db, c, rfl, R, ra, rb, ea, eb, ec, q⟩ := h
  unfold oSub at ec
  split at ec
  · cases ec
    cases R.int ra ea
    cases R.int rb eb
    exact ⟨_, _, rfl, rfl, q.here R (.int _)⟩
  · cases ec
/-- small enough for a product -/
def lowI (i : Int) : Bool := decide (-(2 ^ 64) < i) && decide (i < 2 ^ 64)
def repD (n : Nat) (xs : List D) : List D := (List.replicate n xs).flatten
/-- a text over and over -/
def repS (x : Str) (n : Nat) : Str := ⟨(List.replicate n x.cps).foldl (· ++ ·) #[]⟩
theorem op_mulS : OpR X (binaryOp .Mult) (fun x y H Q => ∃ (a : Str) (j : Int), x = .str a ∧ y = .int j ∧ 2 ≤ j ∧ j ≤ 16777216 ∧ 1 ≤ a.length ∧ a.length * j.toNat ≤ 16777216 ∧ (repS a j.toNat).length ≤ 16777216 ∧ Q (.str (repS a j.toNat)) H) := by
  intro pins s σ H x y v u Q I rx ry h
  obtain ⟨a, j, rfl, rfl, h1, h2, h3, h4, h5, q⟩ := h
  obtain ⟨t, rfl⟩ := rx
  obtain ⟨t', rfl⟩ := ry
  have e1 : ¬ j < 1 := by omega
  have e2 : (j == 1 || a.length == 0) = false := by
    simp only [Bool.or_eq_false_iff, beq_eq_false_iff_ne]
    exact ⟨by omega, by omega⟩
  refine PySem.P.mul_str ?_ (fun _ _ => ?_) (fun _ _ => ?_) ?_
  · simp only [Bool.or_eq_false_iff, decide_eq_false_iff_not]
    exact ⟨by omega, by omega⟩
  · have hz : (a.length : Int) * j ≤ 16777216 := by
      have hj : j = (j.toNat : Int) := by omega
      rw [hj, ← Int.natCast_mul]
      exact Int.ofNat_le.mpr h4
    have : (a.length : Int) ≤ (2 ^ 63 - 1) / j := by
      rw [Int.le_ediv_iff_mul_le (by omega)]
      omega
    omega
  · refine decide_eq_false ?_
    rw [sizeLine_eq]
    omega
  · rw [if_neg e1, e2]
    refine ⟨?_, .str (repS a j.toNat), H, I.tok _, ⟨_, rfl⟩, q⟩
    rw [sizeLine_eq]
    exact h5
def oMul : O2 := fun a b => match a, b with
  | .int i, .int j => if lowI i || lowI j then some (.int (i * j)) else none
  | .str x, .int j => if 2 ≤ j ∧ j ≤ 16777216 ∧ 1 ≤ x.length ∧ x.length * j.toNat ≤ 16777216 ∧ (repS x j.toNat).length ≤ 16777216 then some (.str (repS x j.toNat)) else none
  | .tuple x, .int j => if 2 ≤ j ∧ j ≤ 1000 ∧ x.length ≤ 1000 ∧ 1 ≤ x.length then some (.tuple (repD j.toNat x)) else none
  | _, _ => none
theorem od_mul : OpR X (binaryOp .Mult) (r2D X.K X.mg oMul) := by
  refine OpR.imp ((op_mul (X := X)).or (op_repP.or op_mulS)) fun x y H Q h => ?_
  obtain ⟨w, a, b, da, db, c, rfl, R, ra, rb, ea, eb, ec, q⟩ := h
  unfold oMul at ec
  split at ec
  · split at ec
    · cases ec
      rename_i hz
      cases R.int ra ea
      cases R.int rb eb
      refine .inl ⟨_, _, rfl, rfl, ?_, q.here R (.int _)⟩
      unfold lowI at hz
      rcases Bool.or_eq_true_iff.mp hz with z | z
      · exact .inl ⟨of_decide_eq_true (Bool.and_eq_true_iff.mp z).1, of_decide_eq_true (Bool.and_eq_true_iff.mp z).2⟩
      · exact .inr ⟨of_decide_eq_true (Bool.and_eq_true_iff.mp z).1, of_decide_eq_true (Bool.and_eq_true_iff.mp z).2⟩
    · cases ec
  · split at ec
    · cases ec
      rename_i hz
      cases R.str ra ea
      cases R.int rb eb
      exact .inr (.inr ⟨_, _, rfl, rfl, hz.1, hz.2.1, hz.2.2.1, hz.2.2.2.1, hz.2.2.2.2, q.here R (.str _)⟩)
    · cases ec
  · split at ec
    · cases ec
      rename_i hz
      obtain ⟨p1, xs, rfl, h1, g1, d1⟩ := R.tuple ra ea
      cases R.int rb eb
      exact .inr (.inl ⟨_, _, _, rfl, rfl, h1, fun z => (by have z2 := g1.length; rw [z] at z2; have := hz.2.2.2; rw [← z2] at this; exact absurd this (by simp)), hz.1, hz.2.1, by rw [g1.length]; exact hz.2.2.1, q.tup R (g1.rep _)⟩)
    · cases ec
  · cases ec
def oDiv : O2 := fun a b => match a, b with
  | .int i, .int j => if j ≠ 0 ∧ j.natAbs < 1073741824 then some (.int (i.fdiv j)) else none
  | _, _ => none
theorem od_div : OpR X (binaryOp .FloorDiv) (r2D X.K X.mg oDiv) := by
  refine OpR.imp (op_fdivN (X := X)) fun x y H Q h => ?_
  obtain ⟨w, a, b, da, db, c, rfl, R, ra, rb, ea, eb, ec, q⟩ := h
  unfold oDiv at ec
  split at ec
  · split at ec
    · cases ec
      rename_i hz
      cases R.int ra ea
      cases R.int rb eb
      exact ⟨_, _, rfl, rfl, hz, q.here R (.int _)⟩
    · cases ec
  · cases ec
def oMod : O2 := fun a b => match a, b with
  | .int i, .int j => if j ≠ 0 then some (.int (i.fmod j)) else none
  | _, _ => none
theorem od_mod : OpR X (binaryOp .Mod) (r2D X.K X.mg oMod) := by
  refine OpR.imp (op_modN (X := X)) fun x y H Q h => ?_
  obtain ⟨w, a, b, da, db, c, rfl, R, ra, rb, ea, eb, ec, q⟩ := h
  unfold oMod at ec
  split at ec
  · split at ec
    · cases ec
      rename_i hz
      cases R.int ra ea
      cases R.int rb eb
      exact ⟨_, _, rfl, rfl, hz, q.here R (.int _)⟩
    · cases ec
  · cases ec
def oPow : O2 := fun a b => match a, b with
  | .int i, .int j => if 0 ≤ j ∧ j ≤ 1000000 ∧ i.natAbs < 2 ^ 64 then some (.int (i ^ j.toNat)) else none
  | _, _ => none
theorem od_pow : OpR X (binaryOp .Pow) (r2D X.K X.mg oPow) := by
  refine OpR.imp (op_pow (X := X)) fun x y H Q h => ?_
  obtain ⟨w, a, b, da, db, c, rfl, R, ra, rb, ea, eb, ec, q⟩ := h
  unfold oPow at ec
  split at ec
  · split at ec
    · cases ec
      rename_i hz
      cases R.int ra ea
      cases R.int rb eb
      exact ⟨_, _, rfl, rfl, hz, q.here R (.int _)⟩
    · cases ec
  · cases ec
end
end Zz
set_option maxRecDepth 100000
set_option maxHeartbeats 4000000
namespace Zz
open PySem PySem.Spec PyProof.Rows L2
/-! ### comparisons -/
def flatD : D → Bool
  | .none => true
  | .bool _ => true
  | .int _ => true
  | .str _ => true
  | _ => false
section
variable {K : PySem.W.Frag} {F : Hp}
mutual
theorem Dv.dp : ∀ {d : D} {v : V}, d.canLay0 = true → Dv K F v d → Dp K F v d
  | .none, _, _, h => by cases h; exact .non
  | .bool _, _, _, h => by cases h; exact .bl _
  | .int _, _, _, h => by cases h; exact .int _
  | .str _, _, _, h => by cases h; exact .str _
  | .list ds, _, q, h => by cases h with | lst h1 h2 => exact .lst h1 (DvAll.dp (by simpa [PyData.canLay0] using q) h2)
  | .tuple ds, _, q, h => by cases h with | tup h1 h2 => exact .tup h1.sq (DvAll.dp (by simpa [PyData.canLay0] using q) h2)
  | .dict _, _, q, _ => by simp [PyData.canLay0] at q
theorem DvAll.dp : ∀ {ds : List D} {vs : List V}, PyData.canLayAll0 ds = true → DvAll K F vs ds → DpAll K F vs ds
  | [], _, _, h => by cases h; exact .nil
  | d :: ds, _, q, h => by
    rw [PyData.canLayAll0, Bool.and_eq_true] at q
    cases h with | cons h1 h2 => exact .cons (Dv.dp q.1 h1) (DvAll.dp q.2 h2)
end
theorem Dv.flat {v : V} {d : D} (h : Dv K F v d) (f : flatD d = true) : flatV v = true := by cases h <;> first | rfl | cases f
theorem DvAll.flat : ∀ {vs : List V} {ds : List D}, DvAll K F vs ds → ds.all flatD = true → vs.all flatV = true
  | _, _, .nil, _ => rfl
  | _, _, .cons r t, f => by
    rw [List.all_cons, Bool.and_eq_true] at f
    rw [List.all_cons, r.flat f.1, DvAll.flat t f.2]
    rfl
theorem eqV_eqv {x y : V} {a b : D} (hx : Dv K F x a) (hy : Dv K F y b) (fa : flatD a = true) (fb : flatD b = true) : eqV x y = PyData.eqv a b := by
  cases hx <;> first | exact Bool.noConfusion fa | skip
  all_goals (cases hy <;> first | exact Bool.noConfusion fb | (simp [eqV, PyData.eqv]; done))
theorem inV_eqv {x : V} {a : D} (hx : Dv K F x a) (fa : flatD a = true) : ∀ {ys : List V} {bs : List D}, DvAll K F ys bs → bs.all flatD = true → inV x ys = bs.any fun b => PyData.eqv b a
  | _, _, .nil, _ => rfl
  | _, _, .cons r t, f => by
    rw [List.all_cons, Bool.and_eq_true] at f
    have ih := inV_eqv hx fa t f.2
    unfold inV at ih ⊢
    rw [List.any_cons, List.any_cons, eqV_eqv r hx f.1 fa, ih]
end
theorem toSh {d : D} (h : SeqAt.shaped d = true) : d.canLay0 = true := SeqAt.canLay_of_shaped h
/-- == , where it is told -/
def eqD (a b : D) : Option Bool := if flatD a && flatD b then some (PyData.eqv a b) else if SeqAt.shaped a && SeqAt.shaped b then some (PyData.eqv a b) else none
def oEq : O2 := fun a b => (eqD a b).map .bool
def oNe : O2 := fun a b => (eqD a b).map fun k => .bool (!k)
section
variable {X : Cx}
theorem flat_eq {K : PySem.W.Frag} {F : Hp} {x y : V} {a b : D} (hx : Dv K F x a) (hy : Dv K F y b) (fa : flatD a = true) (fb : flatD b = true) :
    (scal x y = true ∧ decide (x = y) = PyData.eqv a b) ∨ (SeqAt.shaped a = true ∧ SeqAt.shaped b = true) := by
  cases hx <;> first | exact Bool.noConfusion fa | skip
  all_goals (cases hy <;> first | exact Bool.noConfusion fb | skip)
  all_goals first
    | (refine .inl ⟨rfl, ?_⟩; simp [PyData.eqv]; done)
    | (refine .inl ⟨rfl, ?_⟩; rw [dec_str]; simp [PyData.eqv]; done)
    | (refine .inl ⟨rfl, ?_⟩; rw [dec_int]; simp [PyData.eqv]; done)
    | (refine .inl ⟨rfl, ?_⟩; rw [dec_bl]; simp [PyData.eqv]; done)
    | exact .inr ⟨by decide, by decide⟩
    | exact .inr ⟨by simp [SeqAt.shaped, PyData.canLay0, PyData.depth], by simp [SeqAt.shaped, PyData.canLay0, PyData.depth]⟩
theorem od_eq (hu : X.A.units + 64 < cLine) : OpR X (compareOp .Eq) (r2D X.K X.mg oEq) := by
  refine OpR.imp ((op_eq (X := X)).or (op_eqD hu)) fun x y H Q h => ?_
  obtain ⟨w, a, b, da, db, c, rfl, R, ra, rb, ea, eb, ec, q⟩ := h
  unfold oEq eqD at ec
  split at ec
  · rename_i hf
    obtain ⟨fa, fb⟩ := Bool.and_eq_true_iff.mp hf
    cases ec
    have h1 := R.any ra ea
    have h2 := R.any rb eb
    rcases flat_eq h1 h2 fa fb with ⟨z1, z2⟩ | ⟨z1, z2⟩
    · exact .inl ⟨z1, by rw [z2]; exact q.here R (.bl _)⟩
    · exact .inr ⟨da, db, h1.dp (toSh z1), h2.dp (toSh z2), z1, z2, q.here R (.bl _)⟩
  · split at ec
    · rename_i hf
      obtain ⟨fa, fb⟩ := Bool.and_eq_true_iff.mp hf
      cases ec
      exact .inr ⟨da, db, (R.any ra ea).dp (toSh fa), (R.any rb eb).dp (toSh fb), fa, fb, q.here R (.bl _)⟩
    · cases ec
theorem od_ne (hu : X.A.units + 64 < cLine) : OpR X (compareOp .NotEq) (r2D X.K X.mg oNe) := by
  refine OpR.imp ((op_ne (X := X)).or (op_neD hu)) fun x y H Q h => ?_
  obtain ⟨w, a, b, da, db, c, rfl, R, ra, rb, ea, eb, ec, q⟩ := h
  unfold oNe eqD at ec
  split at ec
  · rename_i hf
    obtain ⟨fa, fb⟩ := Bool.and_eq_true_iff.mp hf
    cases ec
    have h1 := R.any ra ea
    have h2 := R.any rb eb
    rcases flat_eq h1 h2 fa fb with ⟨z1, z2⟩ | ⟨z1, z2⟩
    · exact .inl ⟨z1, by rw [z2]; exact q.here R (.bl _)⟩
    · exact .inr ⟨da, db, h1.dp (toSh z1), h2.dp (toSh z2), z1, z2, q.here R (.bl _)⟩
  · split at ec
    · rename_i hf
      obtain ⟨fa, fb⟩ := Bool.and_eq_true_iff.mp hf
      cases ec
      exact .inr ⟨da, db, (R.any ra ea).dp (toSh fa), (R.any rb eb).dp (toSh fb), fa, fb, q.here R (.bl _)⟩
    · cases ec
def oCmp (p : Int → Int → Bool) : O2 := fun a b => match a, b with
  | .int i, .int j => some (.bool (p i j))
  | _, _ => none
theorem od_cmp {op : CmpOp} {p : Int → Int → Bool} (h : OpR X (compareOp op) (rI0 fun i j => .bl (p i j))) : OpR X (compareOp op) (r2D X.K X.mg (oCmp p)) := by
  refine OpR.imp h fun x y H Q h => ?_
  obtain ⟨w, a, b, da, db, c, rfl, R, ra, rb, ea, eb, ec, q⟩ := h
  unfold oCmp at ec
  split at ec
  · cases ec
    cases R.int ra ea
    cases R.int rb eb
    exact ⟨_, _, rfl, rfl, q.here R (.bl _)⟩
  · cases ec
abbrev oLt : O2 := oCmp fun i j => decide (i < j)
abbrev oLe : O2 := oCmp fun i j => decide (i ≤ j)
abbrev oGt : O2 := oCmp fun i j => decide (j < i)
abbrev oGe : O2 := oCmp fun i j => decide (j ≤ i)
theorem od_lt : OpR X (compareOp .Lt) (r2D X.K X.mg oLt) := od_cmp op_lt
theorem od_le : OpR X (compareOp .LtE) (r2D X.K X.mg oLe) := od_cmp op_le
theorem od_gt : OpR X (compareOp .Gt) (r2D X.K X.mg oGt) := od_cmp op_gt
theorem od_ge : OpR X (compareOp .GtE) (r2D X.K X.mg oGe) := od_cmp op_ge
/-- is None, is not None -/
def isNon : D → Bool
  | .none => true
  | _ => false
def oIsN : O2 := fun a b => match b with
  | .none => some (.bool (isNon a))
  | _ => none
def oNotN : O2 := fun a b => match b with
  | .none => some (.bool (!isNon a))
  | _ => none
theorem dv_non {K : PySem.W.Frag} {F : Hp} {v : V} {d : D} (h : Dv K F v d) : decide (v = V.non) = isNon d := by
  cases h <;> simp [isNon]
theorem od_isN : OpR X (compareOp .Is) (r2D X.K X.mg oIsN) := by
  refine OpR.imp (op_isN (X := X)) fun x y H Q h => ?_
  obtain ⟨w, a, b, da, db, c, rfl, R, ra, rb, ea, eb, ec, q⟩ := h
  unfold oIsN at ec
  split at ec
  · cases ec
    refine ⟨R.none rb eb, ?_⟩
    rw [dv_non (R.any ra ea)]
    exact q.here R (.bl _)
  · cases ec
theorem od_notN : OpR X (compareOp .IsNot) (r2D X.K X.mg oNotN) := by
  refine OpR.imp (op_notN (X := X)) fun x y H Q h => ?_
  obtain ⟨w, a, b, da, db, c, rfl, R, ra, rb, ea, eb, ec, q⟩ := h
  unfold oNotN at ec
  split at ec
  · cases ec
    refine ⟨R.none rb eb, ?_⟩
    rw [dv_non (R.any ra ea)]
    exact q.here R (.bl _)
  · cases ec
/-! ### in -/
def toKey : D → Option Key
  | .int i => some (.inl i)
  | .str x => some (.inr x)
  | _ => none
def getD' (kds : List (D × D)) (k : Key) : Option D := (kds.find? fun p => decide (toKey p.1 = some k)).map (·.2)
theorem DvKV.val {K : PySem.W.Frag} {F : Hp} (k : Key) : ∀ {ks : List (Key × V)} {kds : List (D × D)}, DvKV K F ks kds →
    (∃ v d, valV ks k = some v ∧ getD' kds k = some d ∧ Dv K F v d) ∨ (valV ks k = none ∧ getD' kds k = none)
  | _, _, .nil => .inr ⟨rfl, rfl⟩
  | _, _, .cons (k := j) (v := v) (d := d) (s := s) (r := rr) r t => by
    have tk : toKey (keyD j) = some j := by cases j <;> rfl
    by_cases e : j = k
    · refine .inl ⟨v, d, ?_, ?_, r⟩
      · exact valV_pos e
      · unfold getD'
        rw [List.find?_cons_of_pos (by rw [tk, e]; simp)]
        rfl
    · have h1 : valV ((j, v) :: rr) k = valV rr k := valV_neg (κ := Key) (p := (j, v)) e
      have h2 : getD' ((keyD j, d) :: s) k = getD' s k := by
        unfold getD'
        rw [List.find?_cons_of_neg (by rw [tk]; simpa using e)]
      rw [h1, h2]
      exact DvKV.val k t
theorem dv_key {K : PySem.W.Frag} {F : Hp} {v : V} {d : D} {k : Key} (h : Dv K F v d) (e : toKey d = some k) : v = kV k := by
  cases h <;> first | cases e | skip
  all_goals rfl
theorem op_dIn (hu : X.A.units + 1 < cLine) : OpR X (compareOp .In) (fun x y H Q => ∃ a o, y = .ref a ∧ DGet H a x o ∧ Q (.bl o.isSome) H) := by
  intro pins s σ H x y v u Q I rx ry h
  obtain ⟨a, o, rfl, g, q⟩ := h
  cases ry
  exact d_in hu I g rx fun s' I' => ⟨.bl _, H, I', rfl, q⟩
theorem op_dNotIn (hu : X.A.units + 1 < cLine) : OpR X (compareOp .NotIn) (fun x y H Q => ∃ a o, y = .ref a ∧ DGet H a x o ∧ Q (.bl (!o.isSome)) H) := by
  intro pins s σ H x y v u Q I rx ry h
  obtain ⟨a, o, rfl, g, q⟩ := h
  cases ry
  exact d_notIn hu I g rx fun s' I' => ⟨.bl _, H, I', rfl, q⟩
/-- a text in a text -/
def strIn (x z : Str) : Bool := match x.cps.toList with
  | [c] => decide (c ∈ z.cps.toList)
  | _ => !(Builtin.Str.occurrences z x 0 z.length 1).isEmpty
theorem strIn_eq (x z : Str) : strIn x z = !(Builtin.Str.occurrences z x 0 z.length 1).isEmpty := by
  unfold strIn
  split
  · rename_i c e
    have ex : x = ⟨#[c]⟩ := by
      obtain ⟨xs⟩ := x
      obtain ⟨l⟩ := xs
      simp only at e
      subst e; rfl
    rw [ex]
    exact (PySem.StrLaws.found_one z c).symm
  · rfl
def inD (a b : D) : Option Bool := match b with
  | .str z => match a with
    | .str x => some (strIn x z)
    | _ => none
  | .list bs => if flatD a && bs.all flatD then some (bs.any fun b => PyData.eqv b a) else if SeqAt.shaped a && SeqAt.shaped (.list bs) then some (bs.any fun b => PyData.eqv b a) else none
  | .tuple bs => if flatD a && bs.all flatD then some (bs.any fun b => PyData.eqv b a) else none
  | .dict kds => (toKey a).map fun k => (getD' kds k).isSome
  | _ => none
def oIn : O2 := fun a b => (inD a b).map .bool
def oNotIn : O2 := fun a b => (inD a b).map fun k => .bool (!k)
theorem od_in (hu : X.A.units + 65 < cLine) : OpR X (compareOp .In) (r2D X.K X.mg oIn) := by
  refine OpR.imp ((op_in_str (X := X)).or ((op_in_seq (X := X)).or ((op_inD hu).or (op_dIn (by omega))))) fun x y H Q h => ?_
  obtain ⟨w, a, b, da, db, c, rfl, R, ra, rb, ea, eb, ec, q⟩ := h
  unfold oIn inD at ec
  have h1 := R.any ra ea
  split at ec
  · split at ec
    · cases ec
      cases R.str ra ea
      cases R.str rb eb
      exact .inl ⟨_, _, rfl, rfl, by rw [← strIn_eq]; exact q.here R (.bl _)⟩
    · cases ec
  · split at ec
    · rename_i bs hf
      obtain ⟨fa, fb⟩ := Bool.and_eq_true_iff.mp hf
      cases ec
      obtain ⟨p, xs, rfl, g1, g2⟩ := R.list rb eb
      refine .inr (.inl ⟨p, xs, rfl, .inl g1, h1.flat fa, g2.flat fb, ?_⟩)
      rw [if_neg Bool.false_ne_true, inV_eqv h1 fa (g2.mono w.F_same) fb]
      exact q.here R (.bl _)
    · split at ec
      · rename_i bs hn hf
        obtain ⟨fa, fb⟩ := Bool.and_eq_true_iff.mp hf
        cases ec
        exact .inr (.inr (.inl ⟨da, bs, h1.dp (toSh fa), (R.any rb eb).dp (toSh fb), fa, fb, q.here R (.bl _)⟩))
      · cases ec
  · split at ec
    · rename_i bs hf
      obtain ⟨fa, fb⟩ := Bool.and_eq_true_iff.mp hf
      cases ec
      obtain ⟨p, xs, rfl, g1, g2, _⟩ := R.tuple rb eb
      refine .inr (.inl ⟨p, xs, rfl, .inr g1, h1.flat fa, g2.flat fb, ?_⟩)
      rw [if_neg Bool.false_ne_true, inV_eqv h1 fa (g2.mono w.F_same) fb]
      exact q.here R (.bl _)
    · cases ec
  · rename_i kds
    cases hk : toKey da with
    | none => rw [hk] at ec; cases ec
    | some k =>
      rw [hk] at ec
      cases ec
      obtain ⟨p, ks, rfl, g1, g2⟩ := R.dict rb eb
      have ex := dv_key h1 hk
      subst ex
      refine .inr (.inr (.inr ⟨p, _, rfl, DGet.k g1, ?_⟩))
      rcases g2.val k with ⟨v, d, e1, e2, _⟩ | ⟨e1, e2⟩
      · rw [e1]; dsimp only at q; rw [e2] at q; exact q.here R (.bl _)
      · rw [e1]; dsimp only at q; rw [e2] at q; exact q.here R (.bl _)
  · cases ec
theorem od_notIn (hu : X.A.units + 65 < cLine) : OpR X (compareOp .NotIn) (r2D X.K X.mg oNotIn) := by
  refine OpR.imp ((op_notin_str (X := X)).or ((op_notIn_seq (X := X)).or ((op_notInD hu).or (op_dNotIn (by omega))))) fun x y H Q h => ?_
  obtain ⟨w, a, b, da, db, c, rfl, R, ra, rb, ea, eb, ec, q⟩ := h
  unfold oNotIn inD at ec
  have h1 := R.any ra ea
  split at ec
  · split at ec
    · cases ec
      cases R.str ra ea
      cases R.str rb eb
      exact .inl ⟨_, _, rfl, rfl, by rw [← strIn_eq]; exact q.here R (.bl _)⟩
    · cases ec
  · split at ec
    · rename_i bs hf
      obtain ⟨fa, fb⟩ := Bool.and_eq_true_iff.mp hf
      cases ec
      obtain ⟨p, xs, rfl, g1, g2⟩ := R.list rb eb
      refine .inr (.inl ⟨p, xs, rfl, .inl g1, h1.flat fa, g2.flat fb, ?_⟩)
      rw [if_pos rfl, inV_eqv h1 fa (g2.mono w.F_same) fb]
      exact q.here R (.bl _)
    · split at ec
      · rename_i bs hn hf
        obtain ⟨fa, fb⟩ := Bool.and_eq_true_iff.mp hf
        cases ec
        exact .inr (.inr (.inl ⟨da, bs, h1.dp (toSh fa), (R.any rb eb).dp (toSh fb), fa, fb, q.here R (.bl _)⟩))
      · cases ec
  · split at ec
    · rename_i bs hf
      obtain ⟨fa, fb⟩ := Bool.and_eq_true_iff.mp hf
      cases ec
      obtain ⟨p, xs, rfl, g1, g2, _⟩ := R.tuple rb eb
      refine .inr (.inl ⟨p, xs, rfl, .inr g1, h1.flat fa, g2.flat fb, ?_⟩)
      rw [if_pos rfl, inV_eqv h1 fa (g2.mono w.F_same) fb]
      exact q.here R (.bl _)
    · cases ec
  · rename_i kds
    cases hk : toKey da with
    | none => rw [hk] at ec; cases ec
    | some k =>
      rw [hk] at ec
      cases ec
      obtain ⟨p, ks, rfl, g1, g2⟩ := R.dict rb eb
      have ex := dv_key h1 hk
      subst ex
      refine .inr (.inr (.inr ⟨p, _, rfl, DGet.k g1, ?_⟩))
      rcases g2.val k with ⟨v, d, e1, e2, _⟩ | ⟨e1, e2⟩
      · rw [e1]; dsimp only at q; rw [e2] at q; exact q.here R (.bl _)
      · rw [e1]; dsimp only at q; rw [e2] at q; exact q.here R (.bl _)
  · cases ec
end
end Zz
set_option maxRecDepth 100000
set_option maxHeartbeats 4000000
namespace Zz
open PySem PySem.Spec PyProof.Rows L2

/-- what every body's context bears: nothing handled, room for n calls, no repr running, unlike names -/
structure CxOk (X : Cx) (n : Nat) : Prop where
  hc : X.calm = true
  hr : Room n X.A
  hG : X.A.guards = some []
  hN : X.N.Nodup
theorem CxOk.blk {X : Cx} {n : Nat} (h : CxOk X n) {s : Shared} {H : Hp} {sc : Scope} {ce : Env} {fp : List Addr} : CxOk (X.blk s H sc ce fp) n := ⟨h.hc, h.hr, h.hG, h.hN⟩
theorem CxOk.tr {X : Cx} {n : Nat} (h : CxOk X n) {pn : List (Addr × Obj)} {xe : Value → Shared → Prop} : CxOk (X.tr pn xe) n := ⟨h.hc, h.hr, h.hG, h.hN⟩
theorem CxOk.mono {X : Cx} {n m : Nat} (h : CxOk X n) (q : m ≤ n) : CxOk X m := ⟨h.hc, h.hr.mono q, h.hG, h.hN⟩
theorem CxOk.u65 {X : Cx} {n : Nat} (h : CxOk X n) : X.A.units + 65 < cLine := by have := h.hr.un; omega
theorem CxOk.u64 {X : Cx} {n : Nat} (h : CxOk X n) : X.A.units + 64 < cLine := h.hr.units
theorem CxOk.u1 {X : Cx} {n : Nat} (h : CxOk X n) : X.A.units + 1 < cLine := hu_of h.hr

/-- a def's function: of its arguments -/
abbrev Fn := List Val → M Val
/-- a def at f keeps the promise sp, called where no repr is running -/
structure FnG (P : Program) (w : World) (K : PySem.W.Frag) (mg : Str → Option Value) (base : Heap) (k : Nat) (f : Addr) (fd : FuncData) (ps : List Str) (F : Fn) : Prop where
  run : ∀ (A : Around) (outer : List Env) (s : Shared) (H : Hp) (args : Args) (us : List Value) (vs : List V) (Q : VK) (E : XK), A.guards = some [] → Room k A → Env0 P w K mg base A outer s H → BindsTo s fd args (ps.zip us) → Vals vs us →
    vs.length = ps.length → (∃ α S as, Rep K mg ⟨α, S, H⟩ ∧ RVs K ⟨α, S, H⟩ vs as ∧ After K mg (RV K) ⟨α, S, H⟩ (F as S) Q E) → codeAny (model P w) A (.call (.ref f) args) (CR (L2.CX P w) outer P w H s Q E) s
theorem FnG.mono {P : Program} {w : World} {K : PySem.W.Frag} {mg : Str → Option Value} {base : Heap} {j k : Nat} {f : Addr} {fd : FuncData} {ps : List Str} {F : Fn} (h : FnG P w K mg base j f fd ps F) (q : j ≤ k) : FnG P w K mg base k f fd ps F :=
  ⟨fun A outer s H args us vs Q E hg hr => h.run A outer s H args us vs Q E hg (hr.mono q)⟩
section
variable {X : Cx} {k n : Nat} {f : Addr} {fd : FuncData} {ps ks : List Str} {F : Fn} {W : WX} {x : Str} {p pos : Pos} {e : Expr} {es : List Expr} {g : Env' → M (List Val)}
/-- the callee runs, whatever its arguments' form -/
theorem runG {pins : List (Addr × Obj)} {σ : L2.St} {H : Hp} {s : Shared} {Q : VK} {us : List Value} {vs : List V} {args : Args} (G : FnG X.prog X.w X.K X.mg X.base k f fd ps F) (C : CxOk X k) (tk : Takes X W) (I : Inv X pins σ H s) (r : Vals vs us)
    (hb : BindsTo s fd args (ps.zip us)) (hl : vs.length = ps.length) (h : ∃ α S as, Rep X.K X.mg ⟨α, S, H⟩ ∧ RVs X.K ⟨α, S, H⟩ vs as ∧ After X.K X.mg (RV X.K) ⟨α, S, H⟩ (F as S) Q (fun c d H' => W c d σ H')) :
    codeAny (model X.prog X.w) X.A (.call (.ref f) args) (wants (fun v s' => EP X pins σ Q v s') X.xe) s := by
  refine codeAny_mono (G.run X.A X.stack s H args us vs Q _ C.hG C.hr I.env0 hb r hl h) fun r s' hq => ?_
  cases r with
  | error e => exact tk e s' (XE.of_call I (fun _ _ _ h => h) hq)
  | ok fl =>
    cases fl with
    | ret u => exact I.after hq
    | next => exact False.elim hq
    | brk => exact False.elim hq
    | cont => exact False.elim hq
end
/-- f of the arguments g, with the cells that f made itself forgotten -/
def dCall (F : Fn) (g : Env' → M (List Val)) : Env' → M Val := fun ρ => (g ρ).bind F
section
variable {X : Cx} {k n : Nat} {f : Addr} {fd : FuncData} {ps ks : List Str} {F : Fn} {W : WX} {x : Str} {p pos : Pos} {e : Expr} {es : List Expr} {g : Env' → M (List Val)}
theorem callQ {g : Env' → M (List Val)} {σ : L2.St} {H : Hp} {Q : VK} (hl : ∀ vs H', (∃ α S as, Rep X.K X.mg ⟨α, S, H'⟩ ∧ RVs X.K ⟨α, S, H'⟩ vs as ∧ After X.K X.mg (RV X.K) ⟨α, S, H'⟩ (F as S) Q (fun c d H' => W c d σ H')) → vs.length = ps.length)
    (h : tD X.K X.mg W (dCall F g) σ H Q) : tDs X.K X.mg W g σ H (fun vs H' => vs.length = ps.length ∧ ∃ α S as, Rep X.K X.mg ⟨α, S, H'⟩ ∧ RVs X.K ⟨α, S, H'⟩ vs as ∧ After X.K X.mg (RV X.K) ⟨α, S, H'⟩ (F as S) Q (fun c d H' => W c d σ H')) := by
  obtain ⟨α, S, ρ, R, RE, q⟩ := h
  refine ⟨α, S, ρ, R, RE, After.imp (After.split (rel := RVs X.K) q) (fun vs H' ⟨α', S', as, e1, e2, e3, e4⟩ => ?_) fun _ _ _ z => z⟩
  have z : ∃ α S as, Rep X.K X.mg ⟨α, S, H'⟩ ∧ RVs X.K ⟨α, S, H'⟩ vs as ∧ After X.K X.mg (RV X.K) ⟨α, S, H'⟩ (F as S) Q (fun c d H' => W c d σ H') := ⟨α', S', as, e2, e3, e4⟩
  exact ⟨hl vs H' z, z⟩
/-- F is stuck unless it gets n arguments -/
def Arity (n : Nat) (F : Fn) : Prop := ∀ as S, as.length ≠ n → F as S = .st
theorem arityQ (hF : Arity ps.length F) {σ : L2.St} {Q : VK} (vs : List V) (H' : Hp) (h : ∃ α S as, Rep X.K X.mg ⟨α, S, H'⟩ ∧ RVs X.K ⟨α, S, H'⟩ vs as ∧ After X.K X.mg (RV X.K) ⟨α, S, H'⟩ (F as S) Q (fun c d H' => W c d σ H')) : vs.length = ps.length := by
  obtain ⟨α, S, as, R, r, q⟩ := h
  by_cases e : as.length = ps.length
  · rw [r.length]; exact e
  · rw [hF as S e] at q; exact False.elim q
theorem ed_call (G : FnG X.prog X.w X.K X.mg X.base k f fd ps F) (hF : Arity ps.length F) (C : CxOk X n) (hk : k ≤ n) (tk : Takes X W) (hm : X.mg x = some (.ref f)) (kp : PySem.W.keepIn X.K (.ref f) = true) (hb : Binds X.K fd ps [])
    (ha : AD X W (e :: es) g) (hg : Gl X x := by rfl) (hdb : (x == ("__debug__" : Str)) = false := by decide) (he : starEach (e :: es) X.env = (false, eval e X.env) :: starEach es X.env := by rfl) (hpl : (backTo pos (starEach es X.env)).any (·.1) = false := by rfl) :
    ED X W (.Call (.Name x p) (e :: es) [] pos) (dCall F g) := by
  refine ⟨fun pins s σ H Q I h => wpAny_Call_Name_kw (ld_glob I hg hm ?_ hdb)⟩
  refine PySem.W.callWith_K (h₀ := X.base) I.ok.mod.kin kp (thn (ha.run pos pins s σ H _ I (callQ (arityQ hF) h)) fun us s1 ⟨vs, H1, I1, r, hl, q⟩ => ⟨I1.kIn, ?_⟩) he hpl
  have b := hb s1 us I1.kIn (by rw [List.append_nil, ← r.length]; exact hl)
  rw [List.append_nil] at b
  exact wpAny_call (runG G (C.mono hk) tk I1 r b hl q)
theorem ed_call0 (G : FnG X.prog X.w X.K X.mg X.base k f fd ps F) (hF : Arity ps.length F) (C : CxOk X n) (hk : k ≤ n) (tk : Takes X W) (hm : X.mg x = some (.ref f)) (kp : PySem.W.keepIn X.K (.ref f) = true) (hb : Binds X.K fd ps [])
    (hg : Gl X x := by rfl) (hdb : (x == ("__debug__" : Str)) = false := by decide) : ED X W (.Call (.Name x p) [] [] pos) (dCall F fun _ => M.ret []) := by
  refine ⟨fun pins s σ H Q I h => wpAny_Call_Name_kw (ld_glob I hg hm ?_ hdb)⟩
  obtain ⟨α, S, ρ, R, RE, q⟩ := h
  have q' : After X.K X.mg (RV X.K) ⟨α, S, H⟩ (F [] S) Q (fun c d H' => W c d σ H') := q
  have z : ∃ α S as, Rep X.K X.mg ⟨α, S, H⟩ ∧ RVs X.K ⟨α, S, H⟩ ([] : List V) as ∧ After X.K X.mg (RV X.K) ⟨α, S, H⟩ (F as S) Q (fun c d H' => W c d σ H') := ⟨α, S, [], R, .nil, q'⟩
  have hl := arityQ (X := X) (W := W) hF [] H z
  have b := hb s [] I.kIn (by rw [List.append_nil]; exact hl)
  rw [List.append_nil] at b
  exact PySem.W.callWith_K0 I.kIn kp (wpAny_call (runG G (C.mono hk) tk I .nil b hl z))
/-- how keywords alone bind: in the parameters' order by g -/
def KBind (fd : FuncData) (ps ks : List Str) (g : {T : Type} → List T → List T) : Prop := ∀ (s : Shared) (ws : List Value), ws.length = ks.length → BindsTo s fd ⟨[], ks.zip ws⟩ (ps.zip (g ws))
def dArgs (g : {T : Type} → List T → List T) (f : Env' → M (List Val)) : Env' → M (List Val) := fun ρ => (f ρ).bind fun xs => M.ret (g xs)
/-- keywords -/
abbrev KD (X : Cx) (W : WX) (kws : List Keyword) (f : Env' → M (List Val)) : Prop := PK X kws (tDs X.K X.mg W f)
/-- f(k = v, ..) -/
theorem ed_callK (perm : {T : Type} → List T → List T) (hp : ∀ {T U : Type} {r : T → U → Prop} {a : List T} {b : List U}, Paired r a b → Paired r (perm a) (perm b)) (hpl' : ∀ {T : Type} (a : List T), a.length = ks.length → (perm a).length = ps.length) (hn : ks.length = ps.length)
    (hperm : ∀ {T : Type} (a : List T), (perm a).length = ps.length → a.length = ks.length)
    (G : FnG X.prog X.w X.K X.mg X.base k f fd ps F) (hF : Arity ps.length F) (C : CxOk X n) (hk : k ≤ n) (tk : Takes X W) (hm : X.mg x = some (.ref f)) (kp : PySem.W.keepIn X.K (.ref f) = true) (hb : KBind fd ps ks perm) {kws : List Keyword}
    (ha : KD X W kws g) (hall : (backToKw pos (keywordEach kws X.env)).all (·.1.isSome) = true := by rfl) (hks : (backToKw pos (keywordEach kws X.env)).filterMap (·.1) = ks := by rfl)
    (hg : Gl X x := by rfl) (hdb : (x == ("__debug__" : Str)) = false := by decide) (hpl : ((backTo pos (starEach [] X.env)).any (·.1) || (backToKw pos (keywordEach kws X.env)).any (·.1.isNone)) = false := by rfl) :
    ED X W (.Call (.Name x p) [] kws pos) (dCall F (dArgs perm g)) := by
  refine ⟨fun pins s σ H Q I h => wpAny_Call_Name_kw (ld_glob I hg hm ?_ hdb)⟩
  have h2 : tDs X.K X.mg W g σ H (fun vs H' => vs.length = ks.length ∧ ∃ α S as, Rep X.K X.mg ⟨α, S, H'⟩ ∧ RVs X.K ⟨α, S, H'⟩ (perm vs) as ∧ After X.K X.mg (RV X.K) ⟨α, S, H'⟩ (F as S) Q (fun c d H' => W c d σ H')) := by
    obtain ⟨α, S, ρ, R, RE, q⟩ := h
    have q2 : After X.K X.mg (RV X.K) ⟨α, S, H⟩ ((g ρ S).bind fun xs => F (perm xs)) Q (fun c d H' => W c d σ H') := by
      have e : dCall F (dArgs perm g) ρ S = (g ρ S).bind fun xs => F (perm xs) := by
        show ((g ρ S).bind fun xs => M.ret (perm xs)).bind F = _
        cases g ρ S <;> rfl
      rw [← e]; exact q
    refine ⟨α, S, ρ, R, RE, After.imp (After.split (rel := RVs X.K) q2) (fun vs H' ⟨α', S', as, e1, e2, e3, e4⟩ => ?_) fun _ _ _ z => z⟩
    have e3' : RVs X.K ⟨α', S', H'⟩ (perm vs) (perm as) := hp e3
    have z : ∃ α S as, Rep X.K X.mg ⟨α, S, H'⟩ ∧ RVs X.K ⟨α, S, H'⟩ (perm vs) as ∧ After X.K X.mg (RV X.K) ⟨α, S, H'⟩ (F as S) Q (fun c d H' => W c d σ H') := ⟨α', S', perm as, e2, e3', e4⟩
    exact ⟨hperm vs (arityQ hF _ H' z), z⟩
  refine PySem.W.callWith_KW0 (h₀ := X.base) I.ok.mod.kin kp hall (thn (ha.run pos pins s σ H _ I h2) fun us s1 ⟨vs, H1, I1, r, hl, q⟩ => ⟨I1.kIn, ?_⟩) hpl
  rw [hks]
  have r2 : Vals (perm vs) (perm us) := hp r
  have b := hb s1 us (by rw [← r.length]; exact hl)
  exact wpAny_call (runG G (C.mono hk) tk I1 r2 b (hpl' vs hl) q)
/-! ### argument lists -/
def dNil : Env' → M (List Val) := fun _ => M.ret []
def dCons (f : Env' → M Val) (g : Env' → M (List Val)) : Env' → M (List Val) := fun ρ => (f ρ).bind fun x => (g ρ).bind fun xs => M.ret (x :: xs)
theorem ad_nil : AD X W [] dNil := PA.imp pa_nil fun σ H Q ⟨α, S, ρ, R, RE, q⟩ => q α H [] (Ext.refl _) R .nil
theorem consQ {f : Env' → M Val} {g : Env' → M (List Val)} {σ : L2.St} {H : Hp} {Q : List V → Hp → Prop} (h : tDs X.K X.mg W (dCons f g) σ H Q) : tCons (tD X.K X.mg W f) (tDs X.K X.mg W g) σ H Q := by
  obtain ⟨α, S, ρ, R, RE, q⟩ := h
  refine ⟨α, S, ρ, R, RE, After.imp (After.split (rel := RV X.K) q) (fun v H1 ⟨α1, S1, x, e1, R1, r1, q1⟩ => ?_) fun _ _ _ z => z⟩
  refine ⟨α1, S1, ρ, R1, RE.mono e1, After.imp (After.split (rel := RVs X.K) q1) (fun vs H2 ⟨α2, S2, xs, e2, R2, r2, q2⟩ => ?_) fun _ _ _ z => z⟩
  exact q2 α2 H2 (v :: vs) (Ext.refl _) R2 (.cons (r1.mono e2) r2)
theorem ad_cons {f : Env' → M Val} {g : Env' → M (List Val)} (ha : ED X W e f) (hr : AD X W es g) (hs : starEach (e :: es) X.env = (false, eval e X.env) :: starEach es X.env := by rfl) : AD X W (e :: es) (dCons f g) :=
  PA.imp (pa_cons ha hr hs) fun σ H Q h => consQ h
theorem kd_nil : KD X W [] dNil := ⟨fun pos pins s σ H Q I ⟨α, S, ρ, R, RE, q⟩ => pk_nil.run pos pins s σ H Q I (q α H [] (Ext.refl _) R .nil)⟩
theorem kd_cons {nm : Option Str} {kpos : Pos} {kws : List Keyword} {f : Env' → M Val} {g : Env' → M (List Val)} (ha : ED X W e f) (hr : KD X W kws g) : KD X W (⟨nm, e, kpos⟩ :: kws) (dCons f g) :=
  ⟨fun pos pins s σ H Q I h => (pk_cons ha hr).run pos pins s σ H Q I (consQ h)⟩
end
end Zz
set_option maxRecDepth 100000
set_option maxHeartbeats 4000000
namespace Zz
open PySem PySem.Spec PyProof.Rows L2

/-! ### statements -/
inductive SRes where
  | st
  | nx (ρ : Env') (S : List Cell)
  | rt (v : Val) (S : List Cell)
  | bk (ρ : Env') (S : List Cell)
  | ct (ρ : Env') (S : List Cell)
  | ex (x : Ex) (ρ : Env') (S : List Cell)
abbrev SD := Env' → List Cell → SRes
def AfterS (K : PySem.W.Frag) (mg : Str → Option Value) (w : Wd) (r : SRes) (D : Ends) (W : WX) : Prop :=
  match r with
  | .st => False
  | .nx ρ S => ∀ α H σ, Ext w ⟨α, S, H⟩ → Rep K mg ⟨α, S, H⟩ → RE K ⟨α, S, H⟩ σ ρ → D.nx σ H
  | .bk ρ S => ∀ α H σ, Ext w ⟨α, S, H⟩ → Rep K mg ⟨α, S, H⟩ → RE K ⟨α, S, H⟩ σ ρ → D.bk σ H
  | .ct ρ S => ∀ α H σ, Ext w ⟨α, S, H⟩ → Rep K mg ⟨α, S, H⟩ → RE K ⟨α, S, H⟩ σ ρ → D.ct σ H
  | .rt v S => ∀ α H u, Ext w ⟨α, S, H⟩ → Rep K mg ⟨α, S, H⟩ → RV K ⟨α, S, H⟩ u v → D.rt u H
  | .ex x ρ S => ∀ α H σ cls d, Ext w ⟨α, S, H⟩ → Rep K mg ⟨α, S, H⟩ → RE K ⟨α, S, H⟩ σ ρ → RX K mg ⟨α, S, H⟩ cls d x → W cls d σ H
def tS (K : PySem.W.Frag) (mg : Str → Option Value) (W : WX) (f : SD) : TS := fun D σ H =>
  ∃ α S ρ, Rep K mg ⟨α, S, H⟩ ∧ RE K ⟨α, S, H⟩ σ ρ ∧ AfterS K mg ⟨α, S, H⟩ (f ρ S) D W
abbrev StD (X : Cx) (W : WX) (s : Stmt) (f : SD) : Prop := PS X s (tS X.K X.mg W f)
abbrev BkD (X : Cx) (W : WX) (s : List Stmt) (f : SD) : Prop := PSs X s (tS X.K X.mg W f)
/-- f's value, then k; what f raises is raised -/
def Res.then_ {A : Type} (r : Res A) (ρ : Env') (k : A → List Cell → SRes) : SRes := match r with
  | .st => .st
  | .ok a S => k a S
  | .ex x S => .ex x ρ S
section
variable {K : PySem.W.Frag} {mg : Str → Option Value} {w w' : Wd} {D D' : Ends} {W W' : WX}
theorem AfterS.later {r : SRes} (h : AfterS K mg w r D W) (e : Ext w w') : AfterS K mg w' r D W := by
  cases r with
  | st => exact h
  | nx ρ S => exact fun α H σ e' => h α H σ (e.trans e')
  | bk ρ S => exact fun α H σ e' => h α H σ (e.trans e')
  | ct ρ S => exact fun α H σ e' => h α H σ (e.trans e')
  | rt v S => exact fun α H σ e' => h α H σ (e.trans e')
  | ex x ρ S => exact fun α H σ c d e' => h α H σ c d (e.trans e')
/-- a piece, then the rest -/
theorem AfterS.split {A B : Type} {rel : Wd → B → A → Prop} {r : Res A} {ρ : Env'} {k : A → List Cell → SRes} (h : AfterS K mg w (r.then_ ρ k) D W) {σ : L2.St} (re : RE K w σ ρ) :
    After K mg rel w r (fun b H => ∃ α S a, Ext w ⟨α, S, H⟩ ∧ Rep K mg ⟨α, S, H⟩ ∧ rel ⟨α, S, H⟩ b a ∧ RE K ⟨α, S, H⟩ σ ρ ∧ AfterS K mg ⟨α, S, H⟩ (k a S) D W) (fun c d H => W c d σ H) := by
  cases r with
  | st => exact h
  | ok a S => exact fun α H b e1 e2 e3 => ⟨α, S, a, e1, e2, e3, re.mono e1, AfterS.later h e1⟩
  | ex x S => exact fun α H c d e1 e2 e3 => h α H σ c d e1 e2 (re.mono e1) e3
end
section
variable {X : Cx} {W : WX} {s : Stmt} {ss : List Stmt} {e : Expr} {pos : Pos} {f : Env' → M Val} {g : SD}
theorem PS.imp {t t' : TS} (h : PS X s t) (k : ∀ D σ H, t' D σ H → t D σ H) : PS X s t' := ⟨fun pins s' σ H D I q => h.run pins s' σ H D I (k D σ H q)⟩
theorem PSs.imp {t t' : TS} (h : PSs X ss t) (k : ∀ D σ H, t' D σ H → t D σ H) : PSs X ss t' := ⟨fun pins s' σ H D I q => h.run pins s' σ H D I (k D σ H q)⟩
def sNil : SD := fun ρ S => .nx ρ S
theorem bd_nil : BkD X W [] sNil := PSs.imp pss_nil fun D σ H ⟨α, S, ρ, R, RE, q⟩ => q α H σ (Ext.refl _) R RE
def sSeq (f g : SD) : SD := fun ρ S => match f ρ S with
  | .nx ρ' S' => g ρ' S'
  | r => r
theorem bd_cons {f g : SD} (h1 : StD X W s f) (h2 : BkD X W ss g) : BkD X W (s :: ss) (sSeq f g) := by
  refine PSs.imp (pss_cons h1 h2) fun D σ H ⟨α, S, ρ, R, re, q⟩ => ⟨α, S, ρ, R, re, ?_⟩
  show AfterS X.K X.mg ⟨α, S, H⟩ (f ρ S) { D with nx := tS X.K X.mg W g D } W
  unfold sSeq at q
  cases e : f ρ S with
  | nx ρ' S' =>
    rw [e] at q
    exact fun α' H' σ' e1 R1 re1 => ⟨α', S', ρ', R1, re1, AfterS.later q e1⟩
  | st => rw [e] at q; exact q
  | bk ρ' S' => rw [e] at q; exact q
  | ct ρ' S' => rw [e] at q; exact q
  | rt v S' => rw [e] at q; exact q
  | ex x ρ' S' => rw [e] at q; exact q
theorem bd_one {f : SD} (h : StD X W s f) : BkD X W [s] f := pss_one h
theorem sd_pass : StD X W (.Pass pos) sNil := PS.imp ps_pass fun D σ H ⟨α, S, ρ, R, RE, q⟩ => q α H σ (Ext.refl _) R RE
def sBreak : SD := fun ρ S => .bk ρ S
def sCont : SD := fun ρ S => .ct ρ S
theorem sd_break : StD X W (.Break pos) sBreak := PS.imp ps_break fun D σ H ⟨α, S, ρ, R, RE, q⟩ => q α H σ (Ext.refl _) R RE
theorem sd_continue : StD X W (.Continue pos) sCont := PS.imp ps_continue fun D σ H ⟨α, S, ρ, R, RE, q⟩ => q α H σ (Ext.refl _) R RE
theorem sd_doc {x j pos pos'} : StD X W (.Expr (.Constant (.str x) j pos) pos') sNil := PS.imp ps_doc fun D σ H ⟨α, S, ρ, R, RE, q⟩ => q α H σ (Ext.refl _) R RE
/-- a value dropped -/
def sExpr (f : Env' → M Val) : SD := fun ρ S => (f ρ S).then_ ρ fun _ S' => .nx ρ S'
theorem sd_expr (he : ED X W e f) (hs : swapsWith e none pos.line X.env = pure false := by rfl) : StD X W (.Expr e pos) (sExpr f) :=
  PS.imp (ps_expr he hs) fun D σ H ⟨α, S, ρ, R, re, q⟩ => ⟨α, S, ρ, R, re, After.imp (AfterS.split (rel := RV X.K) q re) (fun v H' ⟨α', S', a, e1, R1, r1, re1, q1⟩ => q1 α' H' σ (Ext.refl _) R1 re1) fun _ _ _ z => z⟩
def sRet (f : Env' → M Val) : SD := fun ρ S => (f ρ S).then_ ρ fun v S' => .rt v S'
theorem sd_ret (he : ED X W e f) : StD X W (.Return (some e) pos) (sRet f) :=
  PS.imp (ps_ret he) fun D σ H ⟨α, S, ρ, R, re, q⟩ => ⟨α, S, ρ, R, re, After.imp (AfterS.split (rel := RV X.K) q re) (fun v H' ⟨α', S', a, e1, R1, r1, re1, q1⟩ => q1 α' H' v (Ext.refl _) R1 r1) fun _ _ _ z => z⟩
def sRetN : SD := fun _ S => .rt (.d .none) S
theorem sd_retN : StD X W (.Return none pos) sRetN := PS.imp ps_retN fun D σ H ⟨α, S, ρ, R, re, q⟩ => q α H .non (Ext.refl _) R .non
def sIf (c : Env' → M Bool) (f g : SD) : SD := fun ρ S => (c ρ S).then_ ρ fun b S' => if b = true then f ρ S' else g ρ S'
theorem sd_if {c : Expr} {a b : List Stmt} {tc : Env' → M Bool} {f g : SD} (hc : TDt X W c tc) (ha : BkD X W a f) (hb : BkD X W b g) : StD X W (.If c a b pos) (sIf tc f g) :=
  PS.imp (ps_if hc ha hb) fun D σ H ⟨α, S, ρ, R, re, q⟩ => ⟨α, S, ρ, R, re, After.imp (AfterS.split (rel := fun _ b a => b = a) q re) (fun v H' ⟨α', S', a, e1, R1, r1, re1, q1⟩ => by
    subst r1
    cases v with
    | true => exact ⟨α', S', ρ, R1, re1, q1⟩
    | false => exact ⟨α', S', ρ, R1, re1, q1⟩) fun _ _ _ z => z⟩
/-! targets -/
theorem wipe_ix {σ : L2.St} {vs : List Nat} {i : Nat} (h : i ∈ vs) : (wipe σ vs)[i]? = if i < σ.length then some none else none := by
  by_cases hl : i < (wipe σ vs).length
  · have e : (wipe σ vs)[i]? = some (wipe σ vs)[i] := List.getElem?_eq_getElem hl
    rw [if_pos (by rw [wipe_length] at hl; exact hl), e]
    cases q : (wipe σ vs)[i] with
    | none => rfl
    | some x =>
      rw [q] at e
      exact absurd h (wipe_some e).2
  · rw [List.getElem?_eq_none (Nat.le_of_not_lt hl), if_neg (by rw [wipe_length] at hl; exact hl)]
theorem wipe_eq {σ σ' : L2.St} {vs : List Nat} (hl : σ'.length = σ.length) (h : ∀ i, i ∉ vs → σ'[i]? = σ[i]?) : wipe σ' vs = wipe σ vs := by
  refine List.ext_getElem? fun i => ?_
  by_cases hi : i ∈ vs
  · rw [wipe_ix hi, wipe_ix hi, hl]
  · rw [wipe_out hi, wipe_out hi, h i hi]
/-- unlike at these places alone -/
structure Only (is : List Nat) (σ σ' : L2.St) : Prop where
  len : σ'.length = σ.length
  at_ : ∀ i, i ∉ is → σ'[i]? = σ[i]?
theorem Only.refl (is : List Nat) (σ : L2.St) : Only is σ σ := ⟨rfl, fun _ _ => rfl⟩
theorem Only.trans {is js : List Nat} {σ σ' σ'' : L2.St} (h : Only is σ σ') (g : Only js σ' σ'') : Only (is ++ js) σ σ'' :=
  ⟨g.len.trans h.len, fun i hi => by
    simp only [List.mem_append, not_or] at hi
    rw [g.at_ i hi.2, h.at_ i hi.1]⟩
theorem Only.wipe {is vs : List Nat} {σ σ' : L2.St} (h : Only is σ σ') (hv : ∀ i ∈ is, i ∈ vs) : L2.wipe σ' vs = L2.wipe σ vs := wipe_eq h.len fun i hi => h.at_ i fun z => hi (hv i z)
abbrev Tg := Val → Env' → Option Env'
def tG (K : PySem.W.Frag) (mg : Str → Option Value) (is : List Nat) (g : Tg) : TG := fun v σ H Q => ∃ w x ρ ρ', w.H = H ∧ Rep K mg w ∧ RE K w σ ρ ∧ RV K w v x ∧ g x ρ = some ρ' ∧
  ∀ H' σ', Ext w (w.at H') → Rep K mg (w.at H') → RE K (w.at H') σ' ρ' → Only is σ σ' → Q σ' H'
abbrev GD (X : Cx) (t : Expr) (is : List Nat) (g : Tg) : Prop := PG X t (tG X.K X.mg is g)
theorem PG.imp {t : Expr} {g g' : TG} (h : PG X t g) (k : ∀ v σ H Q, g' v σ H Q → g v σ H Q) : PG X t g' := ⟨fun pins s σ H v u Q I r q => h.run pins s σ H v u Q I r (k v σ H Q q)⟩
theorem PGs.imp {t : List Expr} {g g' : TGs} (h : PGs X t g) (k : ∀ v σ H Q, g' v σ H Q → g v σ H Q) : PGs X t g' := ⟨fun pins s σ H v u Q I r q => h.run pins s σ H v u Q I r (k v σ H Q q)⟩
def toName (i : Nat) : Tg := fun x ρ => some (ρ.set i (some x))
theorem gd_name {i : Nat} {x : Str} (hN : X.N.Nodup) (hi : X.N[i]? = some x := by rfl) (hx : Loc X.env.scope x := by first | exact Or.inl rfl | exact Or.inr rfl) (hf : X.fn x = true ∨ X.env.scope.names.lookup x = some .local := by first | exact .inl rfl | exact .inr rfl) : GD X (.Name x pos) [i] (toName i) :=
  PG.imp (pg_name hN hi hx hf) fun v σ H Q ⟨w, x, ρ, ρ', eh, R, re, rv, eg, q⟩ => by
    subst eh
    cases eg
    exact q w.H _ (Ext.refl _) R (re.set rv i) ⟨List.length_set, fun j hj => List.getElem?_set_ne (fun e => hj (by simp [e]))⟩
/-- several targets for as many data -/
abbrev Tgs := List D → Env' → Option Env'
def tGs (K : PySem.W.Frag) (mg : Str → Option Value) (is : List Nat) (g : Tgs) : TGs := fun vs σ H Q => ∃ w xs ρ ρ', w.H = H ∧ Rep K mg w ∧ RE K w σ ρ ∧ DvAll K w.F vs xs ∧ g xs ρ = some ρ' ∧
  ∀ H' σ', Ext w (w.at H') → Rep K mg (w.at H') → RE K (w.at H') σ' ρ' → Only is σ σ' → Q σ' H'
def toNil : Tgs := fun xs ρ => match xs with
  | [] => some ρ
  | _ => none
def toCons (g : Tg) (h : Tgs) : Tgs := fun xs ρ => match xs with
  | [] => none
  | x :: r => (g (.d x) ρ).bind (h r)
def toTup (h : Tgs) : Tg := fun x ρ => match x with
  | .d (.tuple ds) => h ds ρ
  | _ => none
theorem gs_nil : PGs X [] (tGs X.K X.mg [] toNil) := PGs.imp pgs_nil fun v σ H Q ⟨w, xs, ρ, ρ', eh, R, re, rv, eg, q⟩ => by
  subst eh
  cases rv with
  | nil => cases eg; exact ⟨rfl, q w.H σ (Ext.refl _) R re (Only.refl _ _)⟩
  | cons a b => cases eg
theorem gs_cons {t : Expr} {ts : List Expr} {g : Tg} {h : Tgs} {is js : List Nat} (h1 : GD X t is g) (h2 : PGs X ts (tGs X.K X.mg js h)) (hs : (assignEach (t :: ts) X.env).map (·.2) = assign t X.env :: (assignEach ts X.env).map (·.2) := by rfl) : PGs X (t :: ts) (tGs X.K X.mg (is ++ js) (toCons g h)) :=
  PGs.imp (pgs_cons h1 h2 hs) fun v σ H Q ⟨w, xs, ρ, ρ', eh, R, re, rv, eg, q⟩ => by
    subst eh
    cases rv with
    | nil => cases eg
    | @cons v1 vs1 d1 ds1 a b =>
      have eg' : (g (.d d1) ρ).bind (h ds1) = some ρ' := eg
      obtain ⟨ρ1, e1, e2⟩ := Option.bind_eq_some_iff.mp eg'
      refine ⟨v1, vs1, rfl, w, .d d1, ρ, ρ1, rfl, R, re, a, e1, fun H1 σ1 x1 R1 re1 o1 => ?_⟩
      exact ⟨w.at H1, ds1, ρ1, ρ', rfl, R1, re1, b.mono x1.same, e2, fun H2 σ2 x2 R2 re2 o2 => q H2 σ2 (x1.trans x2) R2 re2 (o1.trans o2)⟩
theorem gd_tup {ts : List Expr} {k : Nat} {h : Tgs} {n : Nat} {is : List Nat} (hc : X.calm = true) (h1 : PGs X ts (tGs X.K X.mg is h)) (har : ∀ ds ρ, ds.length ≠ n → h ds ρ = none) (hn : (assignEach ts X.env).length = n := by rfl) (hst : (assignEach ts X.env).findIdx? (·.1) = none := by rfl) :
    GD X (.Tuple ts k pos) is (toTup h) :=
  PG.imp (pg_tup hc h1 hn hst) fun v σ H Q ⟨w, x, ρ, ρ', eh, R, re, rv, eg, q⟩ => by
    subst eh
    unfold toTup at eg
    split at eg
    · rename_i ds
      obtain ⟨a, xs, rfl, h2, h3, _⟩ := R.tuple (x := .d (.tuple ds)) rv rfl
      refine ⟨a, xs, rfl, h2, ?_, w, ds, ρ, ρ', rfl, R, re, h3, eg, q⟩
      rw [h3.length]
      refine Classical.byContradiction fun z => ?_
      rw [har ds ρ z] at eg
      cases eg
    · cases eg
/-- toCons/toNil want as many data as targets -/
theorem arNil (ds : List D) (ρ : Env') (h : ds.length ≠ 0) : toNil ds ρ = none := by
  cases ds with
  | nil => exact absurd rfl h
  | cons a b => rfl
theorem arCons {g : Tg} {h : Tgs} {n : Nat} (hh : ∀ ds ρ, ds.length ≠ n → h ds ρ = none) (ds : List D) (ρ : Env') (hn : ds.length ≠ n + 1) : toCons g h ds ρ = none := by
  cases ds with
  | nil => rfl
  | cons a b =>
    show (g (.d a) ρ).bind (h b) = none
    cases g (.d a) ρ with
    | none => rfl
    | some ρ' => exact hh b ρ' (fun e => hn (by rw [List.length_cons, e]))
/-- name = value -/
def sSet (i : Nat) (f : Env' → M Val) : SD := fun ρ S => (f ρ S).then_ ρ fun v S' => .nx (ρ.set i (some v)) S'
theorem sd_set {i : Nat} {x : Str} {pos' : Pos} (hN : X.N.Nodup) (he : ED X W e f) (hi : X.N[i]? = some x := by rfl) (hx : Loc X.env.scope x := by first | exact Or.inl rfl | exact Or.inr rfl) (hs : swapsWith e (some (.Name x pos')) pos.line X.env = pure false := by rfl)
    (hf : X.fn x = true ∨ X.env.scope.names.lookup x = some .local := by first | exact .inl rfl | exact .inr rfl) : StD X W (.Assign [.Name x pos'] e pos) (sSet i f) :=
  PS.imp (ps_set hN hi hx he hs hf) fun D σ H ⟨α, S, ρ, R, re, q⟩ => ⟨α, S, ρ, R, re, After.imp (AfterS.split (rel := RV X.K) q re) (fun v H' ⟨α', S', a, e1, R1, r1, re1, q1⟩ => q1 α' H' _ (Ext.refl _) R1 (re1.set r1 i)) fun _ _ _ z => z⟩
/-- target = value, any target -/
def sAsg (g : Tg) (f : Env' → M Val) : SD := fun ρ S => (f ρ S).then_ ρ fun v S' => match g v ρ with
  | some ρ' => .nx ρ' S'
  | none => .st
theorem sd_asg {tg : Expr} {g : Tg} {is : List Nat} (he : ED X W e f) (hg : GD X tg is g) (hs : swapsWithSole [tg] e pos.line X.env = pure false := by rfl) (hw : swappedStores [tg] e X.env = pure none := by rfl) (h1 : (assignEach [tg] X.env).map (·.2) = [assign tg X.env] := by rfl) :
    StD X W (.Assign [tg] e pos) (sAsg g f) :=
  PS.imp (ps_asg he hg hs hw h1) fun D σ H ⟨α, S, ρ, R, re, q⟩ => ⟨α, S, ρ, R, re, After.imp (AfterS.split (rel := RV X.K) q re) (fun v H' ⟨α', S', a, e1, R1, r1, re1, q1⟩ => by
    cases eg : g a ρ with
    | none => rw [eg] at q1; exact False.elim q1
    | some ρ' => rw [eg] at q1; exact ⟨⟨α', S', H'⟩, a, ρ, ρ', rfl, R1, re1, r1, eg, fun H2 σ2 x2 R2 re2 _ => q1 α' H2 σ2 x2 R2 re2⟩) fun _ _ _ z => z⟩
/-- a, b = x, y -/
def sPar (i j : Nat) (g : Env' → M (List Val)) : SD := fun ρ S => (g ρ S).then_ ρ fun vs S' => match vs with
  | [v, u] => .nx ((ρ.set i (some v)).set j (some u)) S'
  | _ => .st
theorem sd_par {i j : Nat} {x y : Str} {a b : Expr} {g : Env' → M (List Val)} {px py pt : Pos} {kt k2 pt2} (hc : X.calm = true) (hN : X.N.Nodup) (ha : AD X W [a, b] g) (hw : swappedStores [.Tuple [.Name x px, .Name y py] kt pt] (.Tuple [a, b] k2 pt2) X.env = pure (some [x, y]))
    (hi : X.N[i]? = some x := by rfl) (hj : X.N[j]? = some y := by rfl) (hij : i ≠ j := by decide) (hx : X.env.scope.names.lookup x = some .local := by rfl) (hy : X.env.scope.names.lookup y = some .local := by rfl)
    (hs : swapsWithSole [.Tuple [.Name x px, .Name y py] kt pt] (.Tuple [a, b] k2 pt2) pos.line X.env = pure false := by rfl) : StD X W (.Assign [.Tuple [.Name x px, .Name y py] kt pt] (.Tuple [a, b] k2 pt2) pos) (sPar i j g) :=
  PS.imp (ps_par hc hN hi hj hij hx hy ha hw hs) fun D σ H ⟨α, S, ρ, R, re, q⟩ => ⟨α, S, ρ, R, re, After.imp (AfterS.split (rel := RVs X.K) q re) (fun v H' ⟨α', S', a, e1, R1, r1, re1, q1⟩ => by
    match a, r1, q1 with
    | [v1, v2], .cons p1 (.cons p2 .nil), q1 => exact ⟨_, _, rfl, q1 α' H' _ (Ext.refl _) R1 ((re1.set p1 i).set p2 j)⟩
    | [], _, q1 => exact False.elim q1
    | [_], _, q1 => exact False.elim q1
    | _ :: _ :: _ :: _, _, q1 => exact False.elim q1) fun _ _ _ z => z⟩
end
/-! ### a def's body -/
def okT (n : Nat) (v : Val) (S : List Cell) : Res Val := match v with
  | .d x => .ok (.d x) (S.take n)
  | .c l => .ok (.c l) S
def finish (n : Nat) : SRes → Res Val
  | .nx _ S => okT n (.d .none) S
  | .rt v S => okT n v S
  | .ex x _ S => .ex x (S.take n)
  | _ => .st
def bodyFn (np nl : Nat) (b : SD) : Fn := fun as S => if as.length = np then finish S.length (b (as.map some ++ List.replicate (nl - as.length) none) S) else .st
theorem bodyFn_arity (np nl : Nat) (b : SD) : Arity np (bodyFn np nl b) := fun as S h => by
  unfold bodyFn
  rw [if_neg h]
section
variable {K : PySem.W.Frag} {mg : Str → Option Value} {w w' : Wd}
theorem muts_take {α : List Addr} {S : List Cell} {H H' : Hp} {n : Nat} {b : Addr} (h : b ∈ Wd.muts ⟨α.take n, S.take n, H⟩) : b ∈ Wd.muts ⟨α, S, H'⟩ := by
  unfold Wd.muts at h ⊢
  obtain ⟨p, hp, e⟩ := List.mem_map.mp h
  obtain ⟨h1, h2⟩ := List.mem_filter.mp hp
  refine List.mem_map.mpr ⟨p, List.mem_filter.mpr ⟨?_, h2⟩, e⟩
  have z : (α.take n).zip (S.take n) = (α.zip S).take n := by
    rw [List.zip_eq_zipWith, List.zip_eq_zipWith, List.take_zipWith]
  have h1' : p ∈ (α.take n).zip (S.take n) := h1
  rw [z] at h1'
  exact List.mem_of_mem_take h1'
/-- the cells from the n-th on are forgotten -/
theorem Rep.cut (R : Rep K mg w) (n : Nat) : Rep K mg ⟨w.α.take n, w.S.take n, w.H⟩ ∧ Same w.F (Wd.F ⟨w.α.take n, w.S.take n, w.H⟩) := by
  have e : Same w.F (Wd.F ⟨w.α.take n, w.S.take n, w.H⟩) := fun b u h => by
    unfold Wd.F at h ⊢
    split at h
    · cases h
    · rename_i hb
      rw [if_neg fun z => hb (muts_take z)]
      exact h
  refine ⟨⟨by simp [R.len], R.nd.sublist (List.take_sublist _ _), fun a ha => R.al a (List.mem_of_mem_take ha), fun l a c h1 h2 => ?_⟩, e⟩
  have h1' : w.α[l]? = some a := by
    have z : (w.α.take n)[l]? = some a := h1
    rw [List.getElem?_take] at z
    split at z
    · exact z
    · cases z
  have h2' : w.S[l]? = some c := by
    have z : (w.S.take n)[l]? = some c := h2
    rw [List.getElem?_take] at z
    split at z
    · exact z
    · cases z
  exact (R.at_ l a c h1' h2').mono e fun _ => rfl
theorem Ext.cut (R : Rep K mg w) (R' : Rep K mg w') (e : Ext w w') : Ext w ⟨w'.α.take w.S.length, w'.S.take w.S.length, w'.H⟩ := by
  obtain ⟨t, ht⟩ := e.pre
  refine ⟨?_, e.same.trans (R'.cut w.S.length).2⟩
  have z : w'.α.take w.S.length = w.α := by
    rw [← ht, ← R.len, List.take_left']
    rfl
  show w.α <+: w'.α.take w.S.length
  rw [z]
  exact List.prefix_refl _
end
theorem re_start {K : PySem.W.Frag} {w : Wd} {N : List Str} {vs : List V} {as : List Val} (h : RVs K w vs as) : RE K w (L2.start N vs) (as.map some ++ List.replicate (N.length - as.length) none) := by
  have hl := h.length
  refine ⟨by unfold L2.start; simp [hl], fun i x q => ?_⟩
  unfold L2.start
  by_cases hi : i < as.length
  · rw [List.getElem?_append_left (by simpa using hi), List.getElem?_map] at q
    cases ea : as[i]? with
    | none => rw [ea] at q; cases q
    | some y =>
      rw [ea] at q
      cases q
      obtain ⟨v, e1, e2⟩ := paired_get h ea
      refine ⟨v, ?_, e2⟩
      rw [List.getElem?_append_left (by simp [hl]; exact hi), List.getElem?_map, e1]
      rfl
  · rw [List.getElem?_append_right (by simpa using hi), List.getElem?_replicate] at q
    split at q <;> cases q
where
  paired_get {K : PySem.W.Frag} {w : Wd} : ∀ {vs : List V} {as : List Val} {i : Nat} {y : Val}, Paired (RV K w) vs as → as[i]? = some y → ∃ v, vs[i]? = some v ∧ RV K w v y
    | _, _, _, _, .nil, h => by simp at h
    | _, _, 0, _, .cons r _, h => by simp at h; subst h; exact ⟨_, rfl, r⟩
    | _, _, i + 1, _, .cons _ t, h => by
      obtain ⟨v, e, r⟩ := paired_get (i := i) t (by simpa using h)
      exact ⟨v, by simpa using e, r⟩
section
variable {P : Program} {w : World} {K : PySem.W.Frag} {mg : Str → Option Value} {base : Heap}
/-- a def by its body -/
theorem fn_body {x qual : Str} {st : Stmt} {f : Addr} {fd : FuncData} {N ps : List Str} {k : Nat} {b : SD} (F : Fun K x qual st f fd) (S : FnScope N ps (defScope st))
    (hb : ∀ (cdv : Value) (A : Around) (outer : List Env) (s : Shared) (H : Hp) (E : XK),
      CxOk (cxOf (L2.CX P w) P w K mg base N qual (defScope st) f cdv A outer s H E) k → Takes (cxOf (L2.CX P w) P w K mg base N qual (defScope st) f cdv A outer s H E) (fun c d _ H => E c d H) →
      PassesOwn (model P w) (A.deeper (envOfC qual (defScope st) s.heap.objs.size f cdv)) (envOfC qual (defScope st) s.heap.objs.size f cdv) (cxOf (L2.CX P w) P w K mg base N qual (defScope st) f cdv A outer s H E).xe →
      PSs (cxOf (L2.CX P w) P w K mg base N qual (defScope st) f cdv A outer s H E) (defBody st) (tS K mg (fun c d _ H => E c d H) b)) :
    FnG P w K mg base (k + 1) f fd ps (bodyFn ps.length N.length b) := by
  obtain ⟨oc, od, kV, doc, pm, an, cdv, ct, osl, rfl, lk, hcd⟩ := F.ex
  refine ⟨fun A outer s H args us vs Q E hG hr e0 hbi r hl hq => ?_⟩
  have KX : K.In s.heap := e0.mod.kin.keeps fun b o e => (e0.bs b o e).1
  have lim : s.heap.NoLimit := e0.mod.nolimit.keeps fun b o e => (e0.bs b o e).1
  have hk' : ∀ y ∈ ps.zip us, (defScope st).names.lookup y.1 = some .local ∨ ((defScope st).names.lookup y.1 = some .cell ∧ ((cellsFrom (s.heap.objs.size + 1) (defScope st).names []).lookup y.1).isSome = true) := fun ⟨n, v⟩ hy =>
    (S.par n (List.of_mem_zip hy).1).imp id fun q => ⟨q, PySem.W.cellsFrom_some _ _ _ (.inl q)⟩
  refine codeAny_call_function hr.depth (KX _ _ lk) rfl S.co S.gen rfl (PySem.W.codeRec_of KX hcd) (hbi _ _ _ _ ?_)
  refine wpAny_newFunctionEnv_cells S.kind hk' fun env he s1 xx => ?_
  subst he
  refine ⟨lim.keeps xx.toInCall.keep, codeAny_func ?_⟩
  have I := inv_start (CX := L2.CX P w) (P := P) (w := w) (K := K) (mg := mg) (base := base) (qual := qual) (f := f) (cd := cdv) (E := E) S hr.hd e0 hl r xx
  have C : CxOk (cxOf (L2.CX P w) P w K mg base N qual (defScope st) f cdv A outer s H E) k := ⟨rfl, hr.deeper _, hG, S.nd⟩
  obtain ⟨α, S0, as, R, rs, q⟩ := hq
  have hla : as.length = ps.length := by rw [← rs.length]; exact hl
  unfold bodyFn at q
  rw [if_pos hla] at q
  have hrun := (hb cdv A outer s H E C (takes_of rfl rfl rfl rfl) (passes_of rfl)).run [] s1 (L2.start N vs) H { nx := fun _ H' => Q .non H', rt := Q } I ⟨α, S0, _, R, re_start rs, ?_⟩
  · refine wpAny_mono hrun (fun fl s' hs => ?_) fun e s' hs => hs
    have fin : ∀ {σ' : L2.St} {H' : Hp} {v : V} {u : Value}, Inv (cxOf (L2.CX P w) P w K mg base N qual (defScope st) f cdv A outer s H E) [] σ' H' s' → RelV v u → Q v H' → CE outer P w H s Q u s' :=
      fun {σ' H' v u} J rv qq => ⟨v, H', J.os, J.bare, J.base, J.hok, rv, qq⟩
    cases fl with
    | ret u =>
      obtain ⟨v, σ', H', J, rv, qq⟩ := hs
      exact fin J rv qq
    | next =>
      obtain ⟨σ', H', J, qq⟩ := hs
      exact fin (v := V.non) (u := Value.none) J rfl qq
    | brk =>
      obtain ⟨_, _, _, qq⟩ := hs
      exact False.elim qq
    | cont =>
      obtain ⟨_, _, _, qq⟩ := hs
      exact False.elim qq
  · -- what the body's end gives the caller
    cases er : b (as.map some ++ List.replicate (N.length - as.length) none) S0 with
    | st => rw [er] at q; exact q
    | bk ρ S1 => rw [er] at q; exact False.elim q
    | ct ρ S1 => rw [er] at q; exact False.elim q
    | nx ρ S1 =>
      rw [er] at q
      exact fun α' H' σ' e1 R1 re1 => q _ H' .non (Ext.cut R R1 e1) (R1.cut _).1 .non
    | rt v S1 =>
      rw [er] at q
      cases v with
      | d x => exact fun α' H' u e1 R1 ru => q _ H' u (Ext.cut R R1 e1) (R1.cut _).1 (Dv.mono (R1.cut S0.length).2 ru)
      | c l => exact fun α' H' u e1 R1 ru => q α' H' u e1 R1 ru
    | ex x ρ S1 =>
      rw [er] at q
      exact fun α' H' σ' c d e1 R1 re1 rx => q _ H' c d (Ext.cut R R1 e1) (R1.cut _).1 (let ⟨C, h1, h2, h3⟩ := rx; ⟨C, h1, h2, h3.mono (R1.cut S0.length).2⟩)
end
end Zz
set_option maxRecDepth 100000
set_option maxHeartbeats 4000000
namespace Zz
open PySem PySem.Spec PyProof.Rows L2
section
variable {X : Cx} {n : Nat} {W : WX} {pos : Pos} {e a b c : Expr} {es : List Expr} {f g h : Env' → M Val}
/-! ### names and constants -/
def dVar (i : Nat) : Env' → M Val := fun ρ S => match ρ[i]? with
  | some (some x) => .ok x S
  | _ => .st
theorem ed_var (i : Nat) {x : Str} (hN : X.N[i]? = some x := by rfl) (hv : Vis X.env.scope x := by first | exact Or.inl rfl | exact Or.inr (Or.inl rfl) | exact Or.inr (Or.inr rfl)) (hd : (x == ("__debug__" : Str)) = false := by decide)
    (hcd : (x == ("__classdict__" : Str)) = false := by decide) : ED X W (.Name x pos) (dVar i) :=
  PE.imp (pe_var hN hv hd hcd) fun σ H Q ⟨α, S, ρ, R, re, q⟩ => by
    unfold dVar at q
    cases er : ρ[i]? with
    | none => rw [er] at q; exact False.elim q
    | some o =>
      cases o with
      | none => rw [er] at q; exact False.elim q
      | some x =>
        rw [er] at q
        obtain ⟨v, e1, r⟩ := re.at_ i x er
        exact ⟨v, e1, q α H v (Ext.refl _) R r⟩
def dC (d : D) : Env' → M Val := fun _ S => .ok (.d d) S
theorem edC {v : V} {d : D} (h : PE X e (tC v)) (r : ∀ K F, Dv K F v d) : ED X W e (dC d) := PE.imp h fun σ H Q ⟨α, S, ρ, R, re, q⟩ => q α H v (Ext.refl _) R (r _ _)
theorem ed_int {i j} : ED X W (.Constant (.int i) j pos) (dC (.int i)) := edC pe_int fun _ _ => .int _
theorem ed_str {i j} : ED X W (.Constant (.str i) j pos) (dC (.str i)) := edC pe_str fun _ _ => .str _
theorem ed_bl {i j} : ED X W (.Constant (.bool i) j pos) (dC (.bool i)) := edC pe_bl fun _ _ => .bl _
theorem ed_non {j} : ED X W (.Constant .none j pos) (dC .none) := edC pe_non fun _ _ => .non
/-- a module's constant that is data of its own -/
theorem ed_glob {x : Str} {v : V} {u : Value} {d : D} (hm : X.mg x = some u) (r : RelV v u) (rd : ∀ F, Dv X.K F v d) (hg : Gl X x := by rfl) (hd : (x == ("__debug__" : Str)) = false := by decide) : ED X W (.Name x pos) (dC d) :=
  PE.imp (pe_glob hg hm r hd) fun σ H Q ⟨α, S, ρ, R, re, q⟩ => q α H v (Ext.refl _) R (rd _)
/-! ### operators -/
/-- both values at this moment -/
def on2 (o : O2) : Val → Val → M Val := fun x y S => match rd S x, rd S y with
  | some a, some b => (match o a b with | some c => .ok (.d c) S | none => .st)
  | _, _ => .st
def dBin (o : O2) (f g : Env' → M Val) : Env' → M Val := fun ρ => (f ρ).bind fun x => (g ρ).bind fun y => on2 o x y
theorem on2_ok {K : PySem.W.Frag} {mg : Str → Option Value} {o : O2} {w : Wd} {x y : Val} {v u : V} {Q : VK} {E : XK} (R : Rep K mg w) (r1 : RV K w v x) (r2 : RV K w u y) (q : After K mg (RV K) w (on2 o x y w.S) Q E) : r2D K mg o v u w.H Q := by
  unfold on2 at q
  cases e1 : rd w.S x with
  | none => rw [e1] at q; exact False.elim q
  | some da =>
    cases e2 : rd w.S y with
    | none => rw [e1, e2] at q; exact False.elim q
    | some db =>
      rw [e1, e2] at q
      dsimp only at q
      cases e3 : o da db with
      | none => rw [e3] at q; exact False.elim q
      | some c =>
        rw [e3] at q
        exact ⟨w, x, y, da, db, c, rfl, R, r1, r2, e1, e2, e3, fun H' v' x1 R1 d1 => q w.α H' v' x1 R1 d1⟩
theorem binQ {o : O2} {σ : L2.St} {H : Hp} {Q : VK} (q : tD X.K X.mg W (dBin o f g) σ H Q) : tOp (r2D X.K X.mg o) (tD X.K X.mg W f) (tD X.K X.mg W g) σ H Q := by
  obtain ⟨α, S, ρ, R, re, q⟩ := q
  refine ⟨α, S, ρ, R, re, After.imp (After.split (rel := RV X.K) q) (fun v H1 ⟨α1, S1, x, e1, R1, r1, q1⟩ => ?_) fun _ _ _ z => z⟩
  refine ⟨α1, S1, ρ, R1, re.mono e1, After.imp (After.split (rel := RV X.K) q1) (fun u H2 ⟨α2, S2, y, e2, R2, r2, q2⟩ => ?_) fun _ _ _ z => z⟩
  exact on2_ok (w := ⟨α2, S2, H2⟩) R2 (r1.mono e2) r2 q2
theorem ed_op {op : Operator} {o : O2} (ho : OpR X (binaryOp op) (r2D X.K X.mg o)) (ha : ED X W a f) (hb : ED X W b g) : ED X W (.BinOp a op b pos) (dBin o f g) := PE.imp (pe_op ho ha hb) fun _ _ _ q => binQ q
theorem ed_cmp {op : CmpOp} {o : O2} (ho : OpR X (compareOp op) (r2D X.K X.mg o)) (ha : ED X W a f) (hb : ED X W b g) (hm : behindInMarks op b = false := by first | exact nomark _ | rfl) : ED X W (.Compare a [op] [b] pos) (dBin o f g) :=
  PE.imp (pe_cmpR ho ha hb hm) fun _ _ _ q => binQ q
/-! ### tests -/
/-- a value that has to be a bool -/
def toBr : Res Val → Res Bool
  | .ok (.d (.bool b)) S' => .ok b S'
  | .ex x S' => .ex x S'
  | _ => .st
def toB (f : Env' → M Val) : Env' → M Bool := fun ρ S => toBr (f ρ S)
theorem toBr_ok {K : PySem.W.Frag} {mg : Str → Option Value} {w : Wd} {r : Res Val} {Q : Bool → Hp → Prop} {E : XK} (q : After K mg (fun _ b a => b = a) w (toBr r) Q E) : After K mg (RV K) w r (fun x H1 => ∃ c, x = .bl c ∧ Q c H1) E := by
  cases r with
  | st => exact q
  | ex x S' => exact q
  | ok v S' =>
    match v, q with
    | .d (.bool b), q =>
      intro α' H' u x1 R1 r1
      cases r1
      exact ⟨b, rfl, q α' H' b x1 R1 rfl⟩
    | .c _, q => exact False.elim q
    | .d .none, q => exact False.elim q
    | .d (.int _), q => exact False.elim q
    | .d (.str _), q => exact False.elim q
    | .d (.list _), q => exact False.elim q
    | .d (.tuple _), q => exact False.elim q
    | .d (.dict _), q => exact False.elim q
theorem toBQ {σ : L2.St} {H : Hp} {Q : Bool → Hp → Prop} (q : tDt X.K X.mg W (toB f) σ H Q) : tD X.K X.mg W f σ H (fun x H1 => ∃ c, x = .bl c ∧ Q c H1) := by
  obtain ⟨α, S, ρ, R, re, q⟩ := q
  exact ⟨α, S, ρ, R, re, toBr_ok q⟩
theorem td_cmp {op : CmpOp} {o : O2} (ho : OpR X (compareOp op) (r2D X.K X.mg o)) (ha : ED X W a f) (hb : ED X W b g) (hm : behindInMarks op b = false := by first | exact nomark _ | rfl) : TDt X W (.Compare a [op] [b] pos) (toB (dBin o f g)) :=
  PT.imp (pt_cmpR ho ha hb hm) fun σ H Q q => by
    obtain ⟨α, S, ρ, R, re, q⟩ := toBQ q
    exact binQ ⟨α, S, ρ, R, re, q⟩
/-- a value whose test is its truth -/
theorem td_val (he : ED X W e f) (hi : ∀ whole, isTrue e X.env whole = (do let v ← whole; standAt e.pos; holding [v] (truthy v)) := by intro _; rfl) : TDt X W e (toB f) := PT.imp (pt_val he hi) fun σ H Q q => toBQ q
/-- truth -/
def truD : D → Option Bool
  | .none => some false
  | .bool b => some b
  | .int i => some (i != 0)
  | .str x => if x.length ≤ 16777216 then some ((x.length : Int) != 0) else none
  | .list xs => some (!xs.isEmpty)
  | .tuple xs => some (!xs.isEmpty)
  | .dict xs => some (!xs.isEmpty)
def toT (f : Env' → M Val) : Env' → M Bool := fun ρ => (f ρ).bind fun x S => match rd S x with
  | some d => (match truD d with | some b => .ok b S | none => .st)
  | none => .st
theorem td_truth (he : ED X W e f) (hi : ∀ whole, isTrue e X.env whole = (do let v ← whole; standAt e.pos; holding [v] (truthy v)) := by intro _; rfl) : TDt X W e (toT f) :=
  PT.imp (pt_truth he hi) fun σ H Q ⟨α, S, ρ, R, re, q⟩ => by
    refine ⟨α, S, ρ, R, re, After.imp (After.split (rel := RV X.K) q) (fun v H1 ⟨α1, S1, x, e1, R1, r1, q1⟩ => ?_) fun _ _ _ z => z⟩
    cases er : rd S1 x with
    | none => rw [er] at q1; exact False.elim q1
    | some d =>
      rw [er] at q1
      dsimp only at q1
      cases et : truD d with
      | none => rw [et] at q1; exact False.elim q1
      | some k =>
        rw [et] at q1
        refine ⟨k, ?_, q1 α1 H1 k (Ext.refl _) R1 rfl⟩
        have dv := R1.any r1 er
        cases dv with
        | non => cases et; rfl
        | bl _ => cases et; rfl
        | int _ => cases et; rfl
        | str y =>
          simp only [truD] at et
          split at et
          · rename_i hz
            cases et
            exact ⟨by rw [sizeLine_eq]; exact hz, rfl⟩
          · cases et
        | lst h1 h2 => cases et; exact .inl ⟨_, h1, by cases h2 <;> rfl⟩
        | tup h1 h2 => cases et; exact .inr (.inl ⟨_, h1.sq, by cases h2 <;> rfl⟩)
        | dct h1 h2 => cases et; exact .inr (.inr ⟨_, h1, by cases h2 <;> rfl⟩)
def tNotD (t : Env' → M Bool) : Env' → M Bool := fun ρ => (t ρ).bind fun b => M.ret (!b)
theorem td_not {t : Env' → M Bool} (ha : TDt X W a t) : TDt X W (.UnaryOp .Not a pos) (tNotD t) :=
  PT.imp (pt_not ha) fun σ H Q ⟨α, S, ρ, R, re, q⟩ => ⟨α, S, ρ, R, re, After.imp (After.split (rel := fun _ b a => b = a) q) (fun v H1 ⟨α1, S1, x, e1, R1, r1, q1⟩ => by subst r1; exact q1 α1 H1 _ (Ext.refl _) R1 rfl) fun _ _ _ z => z⟩
def tAndD (t u : Env' → M Bool) : Env' → M Bool := fun ρ => (t ρ).bind fun b => if b = true then u ρ else M.ret false
def tOrD (t u : Env' → M Bool) : Env' → M Bool := fun ρ => (t ρ).bind fun b => if b = true then M.ret true else u ρ
theorem wd_and1 {t : Env' → M Bool} (ha : TDt X W a t) : WDt X W (.BoolOp .And [a] pos) t := pw_and1 ha
theorem wd_or1 {t : Env' → M Bool} (ha : TDt X W a t) : WDt X W (.BoolOp .Or [a] pos) t := pw_or1 ha
theorem wd_and {t u : Env' → M Bool} (ha : TDt X W a t) (hb : WDt X W (.BoolOp .And (b :: es) pos) u) : WDt X W (.BoolOp .And (a :: b :: es) pos) (tAndD t u) :=
  PW.imp (pw_and ha hb) fun σ H Q ⟨α, S, ρ, R, re, q⟩ => ⟨α, S, ρ, R, re, After.imp (After.split (rel := fun _ b a => b = a) q) (fun v H1 ⟨α1, S1, x, e1, R1, r1, q1⟩ => by
    subst r1
    cases v with
    | true => exact ⟨α1, S1, ρ, R1, re.mono e1, q1⟩
    | false => exact q1 α1 H1 _ (Ext.refl _) R1 rfl) fun _ _ _ z => z⟩
theorem wd_or {t u : Env' → M Bool} (ha : TDt X W a t) (hb : WDt X W (.BoolOp .Or (b :: es) pos) u) : WDt X W (.BoolOp .Or (a :: b :: es) pos) (tOrD t u) :=
  PW.imp (pw_or ha hb) fun σ H Q ⟨α, S, ρ, R, re, q⟩ => ⟨α, S, ρ, R, re, After.imp (After.split (rel := fun _ b a => b = a) q) (fun v H1 ⟨α1, S1, x, e1, R1, r1, q1⟩ => by
    subst r1
    cases v with
    | false => exact ⟨α1, S1, ρ, R1, re.mono e1, q1⟩
    | true => exact q1 α1 H1 _ (Ext.refl _) R1 rfl) fun _ _ _ z => z⟩
theorem td_w {t : Env' → M Bool} (ha : WDt X W a t) : TDt X W a t := ha.pt
/-! ### not, and, or of bools as values -/
def dNot (f : Env' → M Val) : Env' → M Val := fun ρ => (toB f ρ).bind fun b => M.ret (.d (.bool (!b)))
def dAnd (f g : Env' → M Val) : Env' → M Val := fun ρ => (toB f ρ).bind fun b => if b = true then g ρ else M.ret (.d (.bool false))
def dOr (f g : Env' → M Val) : Env' → M Val := fun ρ => (toB f ρ).bind fun b => if b = true then M.ret (.d (.bool true)) else g ρ
theorem bQ {k : Bool → M Val} {ρ : Env'} {α : List Addr} {S : List Cell} {σ : L2.St} {H : Hp} {Q : VK} (R : Rep X.K X.mg ⟨α, S, H⟩) (re : RE X.K ⟨α, S, H⟩ σ ρ) (q : After X.K X.mg (RV X.K) ⟨α, S, H⟩ ((toB f ρ S).bind k) Q (fun c d H' => W c d σ H')) :
    tD X.K X.mg W f σ H fun x H1 => ∃ c, x = .bl c ∧ ∃ α' S', Rep X.K X.mg ⟨α', S', H1⟩ ∧ RE X.K ⟨α', S', H1⟩ σ ρ ∧ After X.K X.mg (RV X.K) ⟨α', S', H1⟩ (k c S') Q (fun c d H' => W c d σ H') :=
  ⟨α, S, ρ, R, re, toBr_ok (After.imp (After.split (rel := fun _ b a => b = a) q) (fun v H1 ⟨α1, S1, x, e1, R1, r1, q1⟩ => by subst r1; exact ⟨α1, S1, R1, re.mono e1, q1⟩) fun _ _ _ z => z)⟩
theorem ed_not (ha : ED X W a f) : ED X W (.UnaryOp .Not a pos) (dNot f) :=
  PE.imp (pe_not ha) fun σ H Q ⟨α, S, ρ, R, re, q⟩ => by
    obtain ⟨α0, S0, ρ0, R0, re0, q0⟩ := bQ (f := f) R re q
    exact ⟨α0, S0, ρ0, R0, re0, After.imp q0 (fun x H1 ⟨c, ex, α1, S1, R1, re1, q1⟩ => ⟨c, ex, q1 α1 H1 _ (Ext.refl _) R1 (.bl _)⟩) fun _ _ _ z => z⟩
theorem ed_one {op} (h : ED X W a f) : ED X W (.BoolOp op [a] pos) f := pe_one h
theorem ed_and (ha : ED X W a f) (hb : ED X W (.BoolOp .And (b :: es) pos) g) : ED X W (.BoolOp .And (a :: b :: es) pos) (dAnd f g) :=
  PE.imp (pe_and ha hb) fun σ H Q ⟨α, S, ρ, R, re, q⟩ => by
    obtain ⟨α0, S0, ρ0, R0, re0, q0⟩ := bQ (f := f) R re q
    refine ⟨α0, S0, ρ0, R0, re0, After.imp q0 (fun x H1 ⟨c, ex, α1, S1, R1, re1, q1⟩ => ⟨c, ex, ?_⟩) fun _ _ _ z => z⟩
    cases c with
    | true => exact ⟨α1, S1, ρ, R1, re1, q1⟩
    | false => exact q1 α1 H1 _ (Ext.refl _) R1 (.bl _)
theorem ed_or (ha : ED X W a f) (hb : ED X W (.BoolOp .Or (b :: es) pos) g) : ED X W (.BoolOp .Or (a :: b :: es) pos) (dOr f g) :=
  PE.imp (pe_or ha hb) fun σ H Q ⟨α, S, ρ, R, re, q⟩ => by
    obtain ⟨α0, S0, ρ0, R0, re0, q0⟩ := bQ (f := f) R re q
    refine ⟨α0, S0, ρ0, R0, re0, After.imp q0 (fun x H1 ⟨c, ex, α1, S1, R1, re1, q1⟩ => ⟨c, ex, ?_⟩) fun _ _ _ z => z⟩
    cases c with
    | false => exact ⟨α1, S1, ρ, R1, re1, q1⟩
    | true => exact q1 α1 H1 _ (Ext.refl _) R1 (.bl _)
/-- a if t else b -/
def dIf (t : Env' → M Bool) (f g : Env' → M Val) : Env' → M Val := fun ρ => (t ρ).bind fun b => if b = true then f ρ else g ρ
theorem ed_if {t : Env' → M Bool} (hc : TDt X W c t) (ha : ED X W a f) (hb : ED X W b g) : ED X W (.IfExp c a b pos) (dIf t f g) :=
  PE.imp (pe_ifExp hc ha hb) fun σ H Q ⟨α, S, ρ, R, re, q⟩ => ⟨α, S, ρ, R, re, After.imp (After.split (rel := fun _ b a => b = a) q) (fun v H1 ⟨α1, S1, x, e1, R1, r1, q1⟩ => by
    subst r1
    cases v with
    | true => exact ⟨α1, S1, ρ, R1, re.mono e1, q1⟩
    | false => exact ⟨α1, S1, ρ, R1, re.mono e1, q1⟩) fun _ _ _ z => z⟩
/-- a < b < c: b's value once -/
def dChain (o o' : O2) (f g h : Env' → M Val) : Env' → M Val := fun ρ => (f ρ).bind fun x => (g ρ).bind fun y => fun S => (toBr (on2 o x y S)).bind (fun b => if b = true then (h ρ).bind fun z => on2 o' y z else M.ret (.d (.bool false)))
theorem chainQ {o o' : O2} {σ : L2.St} {H : Hp} {Q : VK} (q : tD X.K X.mg W (dChain o o' f g h) σ H Q) : tChain (r2D X.K X.mg o) (r2D X.K X.mg o') (tD X.K X.mg W f) (tD X.K X.mg W g) (tD X.K X.mg W h) σ H Q := by
  obtain ⟨α, S, ρ, R, re, q⟩ := q
  refine ⟨α, S, ρ, R, re, After.imp (After.split (rel := RV X.K) q) (fun v H1 ⟨α1, S1, x, e1, R1, r1, q1⟩ => ?_) fun _ _ _ z => z⟩
  refine ⟨α1, S1, ρ, R1, re.mono e1, After.imp (After.split (rel := RV X.K) q1) (fun u H2 ⟨α2, S2, y, e2, R2, r2, q2⟩ => ?_) fun _ _ _ z => z⟩
  have q3 := toBr_ok (After.split (rel := fun _ b a => b = a) q2)
  obtain ⟨w, xa, ya, da, db, dc, ew, Rw, rx, ry, ea, eb, ec, ans⟩ := on2_ok (w := ⟨α2, S2, H2⟩) (E := fun c d H' => W c d σ H') R2 (r1.mono e2) r2 q3
  refine ⟨w, xa, ya, da, db, dc, ew, Rw, rx, ry, ea, eb, ec, fun H3 v3 x3 R3 d3 => ?_⟩
  obtain ⟨k, ev, α4, S4, b4, x4, R4, eb4, q4⟩ := ans H3 v3 x3 R3 d3
  subst eb4
  refine ⟨k, ev, ?_⟩
  cases k with
  | true =>
    refine ⟨α4, S4, ρ, R4, (re.mono (e1.trans (e2.trans x4))), After.imp (After.split (rel := RV X.K) q4) (fun z H5 ⟨α5, S5, zz, e5, R5, r5, q5⟩ => ?_) fun _ _ _ z => z⟩
    exact on2_ok (w := ⟨α5, S5, H5⟩) R5 ((r2.mono x4).mono e5) r5 q5
  | false => exact q4 α4 H3 _ (Ext.refl _) R4 (.bl _)
end
end Zz
set_option maxRecDepth 100000
set_option maxHeartbeats 4000000
namespace Zz
open PySem PySem.Spec PyProof.Rows L2
section
variable {X : Cx} {n : Nat} {W : WX} {pos p2 : Pos} {e a b c : Expr} {es : List Expr} {f g h : Env' → M Val} {o o' : O2}
theorem ed_chain {op op' : CmpOp} (ho : OpR X (compareOp op) (r2D X.K X.mg o)) (ho' : OpR X (compareOp op') (r2D X.K X.mg o')) (ha : ED X W a f) (hb : ED X W b g) (hc : ED X W c h)
    (hm : lastMarks [op, op'] [b, c] = false := by with_unfolding_all rfl) : ED X W (.Compare a [op, op'] [b, c] pos) (dChain o o' f g h) := PE.imp (pe_chain ho ho' ha hb hc hm) fun _ _ _ q => chainQ (o := o) (o' := o') q
theorem td_chain {op op' : CmpOp} (ho : OpR X (compareOp op) (r2D X.K X.mg o)) (ho' : OpR X (compareOp op') (r2D X.K X.mg o')) (ha : ED X W a f) (hb : ED X W b g) (hc : ED X W c h)
    (hm : lastMarks [op, op'] [b, c] = false := by with_unfolding_all rfl) : TDt X W (.Compare a [op, op'] [b, c] pos) (toB (dChain o o' f g h)) := PT.imp (pt_chain ho ho' ha hb hc hm) fun _ _ _ q => chainQ (o := o) (o' := o') (toBQ q)
/-! ### displays -/
def frzs : List Val → M (List D)
  | [] => M.ret []
  | v :: r => (frz v).bind fun d => (frzs r).bind fun ds => M.ret (d :: ds)
theorem Res.bind_assoc {A B C : Type} (r : Res A) (k : A → M B) (l : B → M C) : (r.bind k).bind l = r.bind fun a S => (k a S).bind l := by cases r <;> rfl
theorem frzs_ok {K : PySem.W.Frag} {mg : Str → Option Value} {A' B' : Type} {rel : Wd → B' → A' → Prop} {Q : B' → Hp → Prop} {E : XK} : ∀ {vs : List V} {xs : List Val} {w : Wd} {k : List D → M A'}, Rep K mg w → RVs K w vs xs → After K mg rel w ((frzs xs w.S).bind k) Q E →
    ∃ S' ds, Ext w ⟨w.α, S', w.H⟩ ∧ Rep K mg ⟨w.α, S', w.H⟩ ∧ DvAll K (Wd.F ⟨w.α, S', w.H⟩) vs ds ∧ After K mg rel ⟨w.α, S', w.H⟩ (k ds S') Q E
  | _, _, w, k, R, .nil, q => ⟨w.S, [], Ext.refl _, R, .nil, q⟩
  | _, _, w, k, R, .cons (a := v) (b := x) (l₁ := vs) (l₂ := xs) r t, q => by
    have q' : After K mg rel w ((frz x w.S).bind fun d S => ((frzs xs S).bind fun ds => M.ret (d :: ds)).bind k) Q E := by
      rw [← Res.bind_assoc]
      exact q
    obtain ⟨S1, d, e1, R1, r1, q1⟩ := frz_ok R r q'
    rw [Res.bind_assoc] at q1
    obtain ⟨S2, ds, e2, R2, r2, q2⟩ := frzs_ok (w := ⟨w.α, S1, w.H⟩) R1 (RVs.mono e1 t) q1
    exact ⟨S2, d :: ds, e1.trans e2, R2, .cons (r1.mono e2.same) r2, q2⟩
def dTup (g : Env' → M (List Val)) : Env' → M Val := fun ρ => (g ρ).bind fun xs => (frzs xs).bind fun ds => if ds.length ≤ 16777216 then M.ret (.d (.tuple ds)) else M.st
def dLst (g : Env' → M (List Val)) : Env' → M Val := fun ρ => (g ρ).bind fun xs => (frzs xs).bind fun ds => if ds.length ≤ 16777216 then M.ret (.d (.list ds)) else M.st
theorem ed_tup {g : Env' → M (List Val)} {x1} (h : AD X W es g) : ED X W (.Tuple es x1 pos) (dTup g) :=
  PE.imp (pe_tupP h) fun σ H Q ⟨α, S, ρ, R, re, q⟩ => ⟨α, S, ρ, R, re, After.imp (After.split (rel := RVs X.K) q) (fun vs H1 ⟨α1, S1, xs, e1, R1, r1, q1⟩ => by
    obtain ⟨S2, ds, e2, R2, r2, q2⟩ := frzs_ok (w := ⟨α1, S1, H1⟩) R1 r1 q1
    split at q2
    · rename_i hz
      refine ⟨by rw [sizeLine_eq, r2.length]; exact hz, fun p ob hp hd => ?_⟩
      obtain ⟨r3, x3, f3⟩ := R2.new hp (.frz ob (.tup vs))
      exact q2 _ _ _ x3 r3 (.tup (.inl ⟨ob, f3, hd⟩) (r2.mono x3.same))
    · exact False.elim q2) fun _ _ _ z => z⟩
theorem ed_lst {g : Env' → M (List Val)} (h : AD X W es g) : ED X W (.List es pos) (dLst g) :=
  PE.imp (pe_lst h) fun σ H Q ⟨α, S, ρ, R, re, q⟩ => ⟨α, S, ρ, R, re, After.imp (After.split (rel := RVs X.K) q) (fun vs H1 ⟨α1, S1, xs, e1, R1, r1, q1⟩ => by
    obtain ⟨S2, ds, e2, R2, r2, q2⟩ := frzs_ok (w := ⟨α1, S1, H1⟩) R1 r1 q1
    split at q2
    · rename_i hz
      refine ⟨by rw [sizeLine_eq, r2.length]; exact hz, fun p hp => ?_⟩
      obtain ⟨r3, x3, f3⟩ := R2.new hp (.lst vs)
      exact q2 _ _ _ x3 r3 (.lst (SqL.of f3) (r2.mono x3.same))
    · exact False.elim q2) fun _ _ _ z => z⟩
/-- a new cell with these items -/
def newCell (ds : List D) : M Val := fun S => .ok (.c S.length) (S ++ [.lst ds])
def dLstC (g : Env' → M (List Val)) : Env' → M Val := fun ρ => (g ρ).bind fun xs => (frzs xs).bind fun ds => if ds.length ≤ 16777216 then newCell ds else M.st
/-- the list at a new address is a cell -/
theorem cell_new {K : PySem.W.Frag} {mg : Str → Option Value} {w : Wd} {xs : List V} {ds : List D} {Q : VK} {E : XK} (R : Rep K mg w) (r : DvAll K w.F xs ds) (q : After K mg (RV K) w (newCell ds w.S) Q E) {p : Addr} (hp : w.H p = none) : Q (.ref p) (upd w.H p (.lst xs)) := by
  obtain ⟨r3, x3⟩ := R.cell hp (c := .lst ds) rfl ⟨xs, upd_same, r⟩
  exact q _ _ _ x3 r3 ⟨p, by rw [List.getElem?_append_right (by rw [R.len]; exact Nat.le_refl _), R.len, Nat.sub_self]; rfl, rfl⟩
theorem ed_lstC {g : Env' → M (List Val)} (h : AD X W es g) : ED X W (.List es pos) (dLstC g) :=
  PE.imp (pe_lst h) fun σ H Q ⟨α, S, ρ, R, re, q⟩ => ⟨α, S, ρ, R, re, After.imp (After.split (rel := RVs X.K) q) (fun vs H1 ⟨α1, S1, xs, e1, R1, r1, q1⟩ => by
    obtain ⟨S2, ds, e2, R2, r2, q2⟩ := frzs_ok (w := ⟨α1, S1, H1⟩) R1 r1 q1
    split at q2
    · rename_i hz
      exact ⟨by rw [sizeLine_eq, r2.length]; exact hz, fun p hp => cell_new (w := ⟨α1, S2, H1⟩) R2 r2 q2 hp⟩
    · exact False.elim q2) fun _ _ _ z => z⟩
/-! ### subscripts -/
def ixD (xs : List D) (i : Int) : Option D := atI xs i
def oIx : O2 := fun a b => match a, b with
  | .list xs, .int i => atI xs i
  | .tuple xs, .int i => atI xs i
  | .str z, .int i => if z.length ≤ 16777216 then (atI z.cps.toList i).map fun c => .str ⟨#[c]⟩ else none
  | .dict kds, k => (toKey k).bind (getD' kds)
  | _, _ => none
theorem atI_dv {K : PySem.W.Frag} {F : Hp} {vs : List V} {ds : List D} {i : Int} {d : D} (h : DvAll K F vs ds) (e : atI ds i = some d) : ∃ v, atI vs i = some v ∧ Dv K F v d := by
  unfold atI at e ⊢
  rw [h.length]
  cases ej : ixN ds.length i with
  | none => rw [ej] at e; cases e
  | some j =>
    rw [ej] at e
    exact h.get e
theorem ix_dict (hu : X.A.units + 1 < cLine) : IxR X (fun x y H Q => ∃ a v, x = .ref a ∧ DGet H a y (some v) ∧ Q v H) := by
  intro value slice pins s σ H x y v u Q I rx ry h hs
  obtain ⟨a, v, rfl, g, q⟩ := h
  cases rx
  exact tail_any (dict_typeIs I g) PySem.F.slot_dict_getitem.lookup (d_getItem hu I g ry fun w' s3 I3 rw' => ⟨v, H, I3, rw', q⟩) hs
theorem od_ix (hu : X.A.units + 1 < cLine) : IxR X (r2D X.K X.mg oIx) := by
  refine IxR.imp ((ix_seq (X := X)).or (ix_dict hu)) fun x y H Q h => ?_
  obtain ⟨w, a, b, da, db, c, rfl, R, ra, rb, ea, eb, ec, q⟩ := h
  unfold oIx at ec
  split at ec
  · obtain ⟨p, xs, rfl, h1, g1⟩ := R.list ra ea
    cases R.int rb eb
    obtain ⟨v, e1, dv⟩ := atI_dv g1 ec
    exact .inl (.inl ⟨p, xs, _, v, rfl, rfl, h1, e1, q.here R dv⟩)
  · obtain ⟨p, xs, rfl, h1, g1, _⟩ := R.tuple ra ea
    cases R.int rb eb
    obtain ⟨v, e1, dv⟩ := atI_dv g1 ec
    exact .inl (.inr (.inl ⟨p, xs, _, v, rfl, rfl, h1, e1, q.here R dv⟩))
  · split at ec
    · rename_i hz
      cases R.str ra ea
      cases R.int rb eb
      obtain ⟨k, e1, e2⟩ := Option.map_eq_some_iff.mp ec
      subst e2
      exact .inl (.inr (.inr ⟨_, _, k, rfl, rfl, by rw [sizeLine_eq]; exact hz, e1, q.here R (.str _)⟩))
    · cases ec
  · rename_i kds
    obtain ⟨k, e1, e2⟩ := Option.bind_eq_some_iff.mp ec
    obtain ⟨p, ks, rfl, g1, g2⟩ := R.dict ra ea
    have ex := dv_key (R.any rb eb) e1
    subst ex
    rcases g2.val k with ⟨v, d, z1, z2, dv⟩ | ⟨z1, z2⟩
    · rw [e2] at z2
      cases z2
      exact .inr ⟨p, v, rfl, by have z := DGet.k (k := k) g1; rw [z1] at z; exact z, q.here R dv⟩
    · rw [e2] at z2; cases z2
  · cases ec
theorem ed_ix (C : CxOk X n) (ha : ED X W a f) (hb : ED X W b g) (hs : PlainIx b := by exact fun _ _ => rfl) : ED X W (.Subscript a b pos) (dBin oIx f g) := PE.imp (pe_ix (od_ix C.u1) ha hb hs) fun _ _ _ q => binQ q
/-! ### slices -/
abbrev PtD := Env' → M (Option Int)
def tP (K : PySem.W.Frag) (mg : Str → Option Value) (W : WX) (f : PtD) : TO := fun σ H Q => ∃ α S ρ, Rep K mg ⟨α, S, H⟩ ∧ RE K ⟨α, S, H⟩ σ ρ ∧ After K mg (fun _ b a => b = a) ⟨α, S, H⟩ (f ρ S) Q (fun c d H' => W c d σ H')
abbrev PD (X : Cx) (W : WX) (e : Option Expr) (f : PtD) : Prop := PO X e (tP X.K X.mg W f)
theorem PO.imp {e : Option Expr} {t t' : TO} (h : PO X e t) (k : ∀ σ H Q, t' σ H Q → t σ H Q) : PO X e t' := ⟨fun pins s σ H Q I q => h.run pins s σ H Q I (k σ H Q q)⟩
def pNone : PtD := fun _ => M.ret none
def pSome (f : Env' → M Val) : PtD := fun ρ => (f ρ).bind fun x S => match rd S x with
  | some (.int i) => .ok (some i) S
  | _ => .st
theorem pd_none : PD X W none pNone := PO.imp po_none fun σ H Q ⟨α, S, ρ, R, re, q⟩ => q α H none (Ext.refl _) R rfl
theorem pd_some (he : ED X W e f) : PD X W (some e) (pSome f) := PO.imp (po_some he) fun σ H Q ⟨α, S, ρ, R, re, q⟩ => ⟨α, S, ρ, R, re, After.imp (After.split (rel := RV X.K) q) (fun v H1 ⟨α1, S1, x, e1, R1, r1, q1⟩ => by
  split at q1
  · rename_i i er
    exact ⟨i, R1.int r1 er, q1 α1 H1 _ (Ext.refl _) R1 rfl⟩
  · exact False.elim q1) fun _ _ _ z => z⟩
def cutD (xs : List D) (lo hi : Option Int) : List D := (xs.drop (HT.sIx xs.length 0 lo)).take (HT.sIx xs.length xs.length hi - HT.sIx xs.length 0 lo)
theorem cut_dv {K : PySem.W.Frag} {F : Hp} {vs : List V} {ds : List D} (h : DvAll K F vs ds) (lo hi : Option Int) : DvAll K F (cutV vs lo hi) (cutD ds lo hi) := by
  unfold cutV cutD
  rw [h.length]
  exact (h.drop _).take _
abbrev O3 := D → Option Int → Option Int → Option D
def oSl : O3 := fun a lo hi => match a with
  | .list xs => some (.list (cutD xs lo hi))
  | .tuple xs => some (.tuple (cutD xs lo hi))
  | .str z => if z.length ≤ 16777216 then some (.str (cutS z lo hi)) else none
  | _ => none
def dSl (f : Env' → M Val) (p p' : PtD) : Env' → M Val := fun ρ => (f ρ).bind fun x => (p ρ).bind fun lo => (p' ρ).bind fun hi => fun S => match rd S x with
  | some a => (match oSl a lo hi with | some c => .ok (.d c) S | none => .st)
  | none => .st
theorem ed_sl {lo hi : Option Expr} {p p' : PtD} (he : ED X W e f) (hl : PD X W lo p) (hh : PD X W hi p') : ED X W (.Subscript e (.Slice lo hi none p2) pos) (dSl f p p') := by
  refine PE.imp (pe_slice ((sl_list (X := X)).or (sl_tupP.or sl_str)) he hl hh) fun σ H Q ⟨α, S, ρ, R, re, q⟩ => ?_
  refine ⟨α, S, ρ, R, re, After.imp (After.split (rel := RV X.K) q) (fun v H1 ⟨α1, S1, x, e1, R1, r1, q1⟩ => ?_) fun _ _ _ z => z⟩
  refine ⟨α1, S1, ρ, R1, re.mono e1, After.imp (After.split (rel := fun _ b a => b = a) q1) (fun l H2 ⟨α2, S2, l', e2, R2, r2, q2⟩ => ?_) fun _ _ _ z => z⟩
  refine ⟨α2, S2, ρ, R2, re.mono (e1.trans e2), After.imp (After.split (rel := fun _ b a => b = a) q2) (fun u H3 ⟨α3, S3, u', e3, R3, r3, q3⟩ => ?_) fun _ _ _ z => z⟩
  subst r2 r3
  have rv := r1.mono (e2.trans e3)
  cases er : rd S3 x with
  | none => rw [er] at q3; exact False.elim q3
  | some d =>
    rw [er] at q3
    dsimp only at q3
    cases eo : oSl d l u with
    | none => rw [eo] at q3; exact False.elim q3
    | some c =>
      rw [eo] at q3
      have ans : Ans X.K X.mg ⟨α3, S3, H3⟩ c Q := fun H' v' x1 R1' d1 => q3 α3 H' v' x1 R1' d1
      unfold oSl at eo
      split at eo
      · cases eo
        obtain ⟨p, xs, rfl, h1, g1⟩ := R3.list rv er
        exact .inl ⟨p, xs, rfl, h1, fun q hq => ans.lst R3 (cut_dv g1 l u) hq⟩
      · cases eo
        rename_i ds
        obtain ⟨p, xs, rfl, h1, g1, d1⟩ := R3.tuple rv er
        refine .inr (.inl ⟨p, xs, rfl, h1, fun z => ?_, fun z => ans.tup R3 (cut_dv g1 l u)⟩)
        have z' : cutD ds l u = ds := by
          rw [g1.length] at z
          unfold cutD
          rw [z.1, z.2, Nat.sub_zero, List.drop_zero, List.take_length]
        rw [z'] at ans
        exact ans.here R3 d1
      · split at eo
        · rename_i hz
          cases eo
          cases R3.str rv er
          exact .inr (.inr ⟨_, rfl, by rw [sizeLine_eq]; exact hz, ans.here R3 (.str _)⟩)
        · cases eo
      · cases eo
/-! ### built-ins of one argument, by data -/
def r1D (K : PySem.W.Frag) (mg : Str → Option Value) (o : D → Option D) : List V → Hp → VK → Prop := fun xs H Q =>
  ∃ w x a da c, w.H = H ∧ xs = [x] ∧ Rep K mg w ∧ RV K w x a ∧ rd w.S a = some da ∧ o da = some c ∧ Ans K mg w c Q
def on1 (o : D → Option D) : Val → M Val := fun x S => match rd S x with
  | some a => (match o a with | some c => .ok (.d c) S | none => .st)
  | none => .st
def dFn1 (o : D → Option D) (f : Env' → M Val) : Env' → M Val := fun ρ => (f ρ).bind (on1 o)
theorem on1_ok {K : PySem.W.Frag} {mg : Str → Option Value} {o : D → Option D} {w : Wd} {x : Val} {v : V} {Q : VK} {E : XK} (R : Rep K mg w) (r1 : RV K w v x) (q : After K mg (RV K) w (on1 o x w.S) Q E) : r1D K mg o [v] w.H Q := by
  unfold on1 at q
  cases e1 : rd w.S x with
  | none => rw [e1] at q; exact False.elim q
  | some da =>
    rw [e1] at q
    dsimp only at q
    cases e3 : o da with
    | none => rw [e3] at q; exact False.elim q
    | some c =>
      rw [e3] at q
      exact ⟨w, v, x, da, c, rfl, rfl, R, r1, e1, e3, fun H' v' x1 R1 d1 => q w.α H' v' x1 R1 d1⟩
theorem oneA (ha : ED X W a f) (hs : starEach [a] X.env = (false, eval a X.env) :: starEach [] X.env := by rfl) : PA X [a] (tCons (tD X.K X.mg W f) tNil) := pa_cons ha pa_nil hs
theorem ed_fn1 {id : String} {x : Str} {p : Pos} {o : D → Option D} (hc : CallR X (.builtin id) (r1D X.K X.mg o)) (hm : X.mg x = none) (hv : bootBuiltins x = some (.builtin id)) (ha : ED X W a f) (hg : Gl X x := by rfl) (hn : x ≠ "__name__" := by decide) (hdb : (x == ("__debug__" : Str)) = false := by decide)
    (he : starEach [a] X.env = (false, eval a X.env) :: starEach [] X.env := by rfl) (hpl : (backTo pos (starEach [] X.env)).any (·.1) = false := by rfl) : ED X W (.Call (.Name x p) [a] [] pos) (dFn1 o f) :=
  PE.imp (pe_callB hc hg hm hv (oneA ha he) hn hdb he hpl) fun σ H Q ⟨α, S, ρ, R, re, q⟩ => ⟨α, S, ρ, R, re, After.imp (After.split (rel := RV X.K) q) (fun v H1 ⟨α1, S1, x, e1, R1, r1, q1⟩ => on1_ok (w := ⟨α1, S1, H1⟩) R1 r1 q1) fun _ _ _ z => z⟩
theorem ed_ty1 {T : String} {x : Str} {p : Pos} {o : D → Option D} (hc : CallR X (.type T) (r1D X.K X.mg o)) (hm : X.mg x = none) (hv : bootBuiltins x = some (.type T)) (ha : ED X W a f) (hg : Gl X x := by rfl) (hn : x ≠ "__name__" := by decide) (hdb : (x == ("__debug__" : Str)) = false := by decide)
    (he : starEach [a] X.env = (false, eval a X.env) :: starEach [] X.env := by rfl) (hpl : (backTo pos (starEach [] X.env)).any (·.1) = false := by rfl) : ED X W (.Call (.Name x p) [a] [] pos) (dFn1 o f) :=
  PE.imp (pe_callTy hc hg hm hv (oneA ha he) hn hdb he hpl) fun σ H Q ⟨α, S, ρ, R, re, q⟩ => ⟨α, S, ρ, R, re, After.imp (After.split (rel := RV X.K) q) (fun v H1 ⟨α1, S1, x, e1, R1, r1, q1⟩ => on1_ok (w := ⟨α1, S1, H1⟩) R1 r1 q1) fun _ _ _ z => z⟩
def oLen : D → Option D
  | .str z => if z.length ≤ 16777216 then some (.int z.length) else none
  | .list xs => some (.int xs.length)
  | .tuple xs => some (.int xs.length)
  | _ => none
theorem cd_len : CallR X (.builtin "len") (r1D X.K X.mg oLen) := by
  refine CallR.imp (call_len (X := X)) fun xs H Q h => ?_
  obtain ⟨w, x, a, da, c, rfl, rfl, R, ra, ea, ec, q⟩ := h
  unfold oLen at ec
  split at ec
  · split at ec
    · rename_i hz
      cases ec
      cases R.str ra ea
      exact ⟨_, _, rfl, ⟨by rw [sizeLine_eq]; exact hz, rfl⟩, q.here R (.int _)⟩
    · cases ec
  · cases ec
    obtain ⟨p, xs, rfl, h1, g1⟩ := R.list ra ea
    exact ⟨_, _, rfl, .inl ⟨_, h1, g1.length.symm⟩, q.here R (.int _)⟩
  · cases ec
    obtain ⟨p, xs, rfl, h1, g1, _⟩ := R.tuple ra ea
    exact ⟨_, _, rfl, .inr ⟨_, h1, g1.length.symm⟩, q.here R (.int _)⟩
  · cases ec
def asBool : D → Option Bool
  | .bool b => some b
  | _ => none
theorem bools_dv {K : PySem.W.Frag} {F : Hp} : ∀ {vs : List V} {ds : List D} {bs : List Bool}, DvAll K F vs ds → ds.mapM asBool = some bs → vs = bs.map V.bl
  | _, _, bs, .nil, e => by cases e; rfl
  | _, _, bs, .cons (d := d) (ds := ds) r t, e => by
    rw [List.mapM_cons] at e
    cases d <;> first | cases e | skip
    all_goals skip
    rename_i b
    cases em : ds.mapM asBool with
    | none => simp [asBool, em] at e
    | some bs' =>
      simp [asBool, em] at e
      subst e
      cases r
      rw [bools_dv t em]
      rfl
def oAll : D → Option D
  | .list xs => (xs.mapM asBool).map fun bs => .bool (bs.all id)
  | _ => none
def oAny : D → Option D
  | .list xs => (xs.mapM asBool).map fun bs => .bool (bs.any id)
  | _ => none
theorem cd_all (C : CxOk X n) : CallR X (.builtin "all") (r1D X.K X.mg oAll) := by
  refine CallR.imp (cr_all C.hc) fun xs H Q h => ?_
  obtain ⟨w, x, a, da, c, rfl, rfl, R, ra, ea, ec, q⟩ := h
  unfold oAll at ec
  split at ec
  · obtain ⟨bs, e1, e2⟩ := Option.map_eq_some_iff.mp ec
    subst e2
    obtain ⟨p, xs, rfl, h1, g1⟩ := R.list ra ea
    rw [bools_dv g1 e1] at h1
    exact ⟨p, bs, rfl, h1, q.here R (.bl _)⟩
  · cases ec
theorem cd_any (C : CxOk X n) : CallR X (.builtin "any") (r1D X.K X.mg oAny) := by
  refine CallR.imp (cr_any C.hc) fun xs H Q h => ?_
  obtain ⟨w, x, a, da, c, rfl, rfl, R, ra, ea, ec, q⟩ := h
  unfold oAny at ec
  split at ec
  · obtain ⟨bs, e1, e2⟩ := Option.map_eq_some_iff.mp ec
    subst e2
    obtain ⟨p, xs, rfl, h1, g1⟩ := R.list ra ea
    rw [bools_dv g1 e1] at h1
    exact ⟨p, bs, rfl, h1, q.here R (.bl _)⟩
  · cases ec
def oTuple : D → Option D
  | .list xs => some (.tuple xs)
  | .tuple xs => some (.tuple xs)
  | _ => none
theorem cd_tuple : CallR X (.type "tuple") (r1D X.K X.mg oTuple) := by
  refine CallR.imp (call_tupleP (X := X)) fun xs H Q h => ?_
  obtain ⟨w, x, a, da, c, rfl, rfl, R, ra, ea, ec, q⟩ := h
  unfold oTuple at ec
  split at ec
  · cases ec
    obtain ⟨p, xs, rfl, h1, g1⟩ := R.list ra ea
    exact ⟨p, xs, rfl, .inl ⟨h1, q.tup R g1⟩⟩
  · cases ec
    obtain ⟨p, xs, rfl, h1, g1, d1⟩ := R.tuple ra ea
    exact ⟨p, xs, rfl, .inr ⟨h1, q.here R d1⟩⟩
  · cases ec
def oList : D → Option D
  | .list xs => some (.list xs)
  | .tuple xs => some (.list xs)
  | _ => none
theorem cd_list : CallR X (.type "list") (r1D X.K X.mg oList) := by
  refine CallR.imp (call_list_of (X := X)) fun xs H Q h => ?_
  obtain ⟨w, x, a, da, c, rfl, rfl, R, ra, ea, ec, q⟩ := h
  unfold oList at ec
  split at ec
  · cases ec
    obtain ⟨p, xs, rfl, h1, g1⟩ := R.list ra ea
    exact ⟨p, xs, rfl, .inl h1, fun l hl => q.lst R g1 hl⟩
  · cases ec
    obtain ⟨p, xs, rfl, h1, g1, _⟩ := R.tuple ra ea
    exact ⟨p, xs, rfl, .inr h1, fun l hl => q.lst R g1 hl⟩
  · cases ec
def oInt : D → Option D
  | .int i => some (.int i)
  | .bool k => some (.int (if k then 1 else 0))
  | _ => none
theorem cd_int : CallR X (.type "int") (r1D X.K X.mg oInt) := by
  refine CallR.imp (call_int1 (X := X)) fun xs H Q h => ?_
  obtain ⟨w, x, a, da, c, rfl, rfl, R, ra, ea, ec, q⟩ := h
  unfold oInt at ec
  split at ec
  · cases ec
    cases R.int ra ea
    exact .inl ⟨_, rfl, q.here R (.int _)⟩
  · cases ec
    cases R.bool ra ea
    exact .inr ⟨_, rfl, q.here R (.int _)⟩
  · cases ec
/-! ### repr -/
end
mutual
/-- no list in it -/
def noL : D → Bool
  | .none => true
  | .bool _ => true
  | .int _ => true
  | .str _ => true
  | .list _ => false
  | .tuple xs => noLs xs
  | .dict kvs => noLk kvs
def noLs : List D → Bool
  | [] => true
  | x :: r => noL x && noLs r
def noLk : List (D × D) → Bool
  | [] => true
  | (_, v) :: r => noL v && noLk r
end
section
variable {X : Cx} {n : Nat} {W : WX} {pins : List (Addr × Obj)} {σ : L2.St} {H : Hp} {s : Shared}
theorem key_reads {h : Heap} {k : Key} {u : Value} (e : keyIs k u = true) : Reads h u (keyD k) [] := by
  rcases keyIs_shape e with ⟨i, t, rfl, rfl⟩ | ⟨x, t, rfl, rfl⟩
  · exact .int i t
  · exact .str x t
mutual
theorem Dv.reads_ (I : Inv X pins σ H s) : ∀ {d : D} {v : V} {u : Value}, Dv X.K H v d → RelV v u → ∃ as, Reads s.heap u d as ∧ (noL d = true → sysModules ∉ as)
  | .none, _, _, h, r => by cases h; cases r; exact ⟨_, .none, by simp⟩
  | .bool b, _, _, h, r => by cases h; cases r; exact ⟨_, .bool b, by simp⟩
  | .int i, _, _, h, r => by cases h; obtain ⟨t, rfl⟩ := r; exact ⟨_, .int i t, by simp⟩
  | .str x, _, _, h, r => by cases h; obtain ⟨t, rfl⟩ := r; exact ⟨_, .str x t, by simp⟩
  | .list ds, _, _, h, r => by
    cases h with
    | lst hs ha =>
      cases r
      obtain ⟨its, rv, ⟨o, n, ho, hc, hd', hd⟩, _⟩ := I.list hs
      obtain ⟨as, hr, hn⟩ := DvAll.reads_ I ha rv
      exact ⟨_, .list ho hc hd hr, fun z => Bool.noConfusion (show false = true from by rw [noL] at z; exact z)⟩
  | .tuple ds, _, _, h, r => by
    cases h with
    | tup hs ha =>
      cases r
      obtain ⟨its, rv, ⟨o, ho, hc, n, hd⟩, _⟩ := I.tuple hs.sq
      obtain ⟨as, hr, hn⟩ := DvAll.reads_ I ha rv
      exact ⟨_, .tuple ho hc hd hr, fun z => hn (by rw [noL] at z; exact z)⟩
  | .dict kds, _, _, h, r => by
    cases h with
    | dct hs ha =>
      cases r
      obtain ⟨_, hne, vs, kv, o, es, ep, ho, hx, hd, _, hp, _⟩ := I.hok _ _ hs
      obtain ⟨as, bs, h1, h2, h3, h4⟩ := DvKV.reads_ I ha kv hp
      refine ⟨_, .dict ho hx.1 hd h1 h2, fun z => ?_⟩
      have z2 := h4 (by rw [noL] at z; exact z)
      subst h3
      simp only [List.cons_append, List.append_nil, List.nil_append, List.mem_cons, not_or]
      exact ⟨fun q => by rw [← q] at hne; simp at hne, z2⟩
theorem DvAll.reads_ (I : Inv X pins σ H s) : ∀ {ds : List D} {vs : List V} {us : List Value}, DvAll X.K H vs ds → Vals vs us → ∃ as, ReadsAll s.heap us ds as ∧ (noLs ds = true → sysModules ∉ as)
  | [], _, _, h, r => by cases h; cases r; exact ⟨_, .nil, by simp⟩
  | d :: ds, _, _, h, r => by
    cases h with
    | cons h1 h2 =>
      cases r with
      | cons r1 r2 =>
        obtain ⟨as, q1, n1⟩ := Dv.reads_ I h1 r1
        obtain ⟨bs, q2, n2⟩ := DvAll.reads_ I h2 r2
        refine ⟨_, .cons q1 q2, fun z => ?_⟩
        rw [noLs, Bool.and_eq_true] at z
        simp [n1 z.1, n2 z.2]
theorem DvKV.reads_ (I : Inv X pins σ H s) : ∀ {kds : List (D × D)} {ks : List (Key × V)} {vs : List (Key × Value)} {es : List DictEntry}, DvKV X.K H ks kds → KV ks vs → Pairs (mixKind X.prog X.w) es vs →
    ∃ as bs, ReadsAll s.heap (es.map (·.key)) (kds.map (·.1)) as ∧ ReadsAll s.heap (es.map (·.val)) (kds.map (·.2)) bs ∧ as = [] ∧ (noLk kds = true → sysModules ∉ bs)
  | [], _, _, _, h, r, p => by
    cases h
    cases r
    cases p
    exact ⟨[], [], .nil, .nil, rfl, by simp⟩
  | (_, d) :: kds, _, _, _, h, r, p => by
    cases h with
    | cons h1 h2 =>
      cases r with
      | cons r1 r2 =>
        cases p with
        | cons p1 p2 p3 =>
          obtain ⟨as, bs, q1, q2, q3, q4⟩ := DvKV.reads_ I h2 r2 p3
          subst q3
          obtain ⟨e1, e2⟩ := r1
          obtain ⟨cs, q5, n5⟩ := Dv.reads_ I h1 e2
          rw [← p2] at q5
          have p1' := e1 ▸ p1
          refine ⟨_, _, .cons (key_reads p1') q1, .cons q5 q2, rfl, fun z => ?_⟩
          rw [noLk, Bool.and_eq_true] at z
          simp [n5 z.1, q4 z.2]
end
/-- what repr tells, where it is told -/
def oRepr (d : D) : Option D := if d.showable && (!d.hasDict || noL d) && decide (d.shown.length ≤ 16777216) && decide (d.depth ≤ 90) then some (.str d.shown) else none
theorem cd_repr (C : CxOk X n) : CallR X (.builtin "repr") (r1D X.K X.mg oRepr) := by
  intro pins s σ H xs us Q I r h
  obtain ⟨w, x, a, da, c, rfl, rfl, R, ra, ea, ec, q⟩ := h
  unfold oRepr at ec
  split at ec
  · rename_i hz
    cases ec
    simp only [Bool.and_eq_true, Bool.or_eq_true, decide_eq_true_eq, Bool.not_eq_true'] at hz
    obtain ⟨⟨⟨h1, h2⟩, h3⟩, h4⟩ := hz
    obtain ⟨u, rfl, ru⟩ := vals1 r
    have hsz : da.shown.length ≤ sizeLine := by rw [sizeLine_eq]; exact h3
    have dv := R.any ra ea
    obtain ⟨as, hr, hn⟩ := Dv.reads_ I dv ru
    have fin : ∀ (h' : Heap) (t : Tok) (tk : Nat), (∀ b o, s.heap.get? b = some o → h'.get? b = some o) → EP X pins σ Q (.str da.shown t) { s with heap := h', toks := tk } := fun h' t tk hk =>
      ⟨.str _, w.H, I.kept hk, ⟨t, rfl⟩, q.here R (.str _)⟩
    have hsm : da.hasDict = true → sysModules ∉ as := fun z => by
      rcases h2 with h2 | h2
      · rw [z] at h2; cases h2
      · exact hn h2
    have hu := C.u65
    have hu2 := C.hr.un
    cases dv with
    | non =>
      cases ru
      exact PySem.P.repr_of_none (by exact fin _ _ _ fun _ _ e => e)
    | bl b =>
      cases ru
      exact PySem.P.repr_of_bool (by exact fin _ _ _ fun _ _ e => e)
    | int i =>
      obtain ⟨t, rfl⟩ := ru
      exact PySem.P.repr_of_int (by simpa [PyData.showable] using h1) (by exact fin _ _ _ fun _ _ e => e)
    | str y =>
      obtain ⟨t, rfl⟩ := ru
      exact PySem.P.repr_of_str (by exact fin _ _ _ fun _ _ e => e) hsz
    | lst a1 a2 =>
      cases ru
      exact repr_of_reads' hr h1 hsm C.hG (by omega) (fun _ _ e => e) (fun h' t tk hk => fin h' t tk hk) hsz
    | tup a1 a2 =>
      cases ru
      exact repr_of_reads' hr h1 hsm C.hG (by omega) (fun _ _ e => e) (fun h' t tk hk => fin h' t tk hk) hsz
    | dct a1 a2 =>
      cases ru
      exact repr_of_reads' hr h1 hsm C.hG (by omega) (fun _ _ e => e) (fun h' t tk hk => fin h' t tk hk) hsz
  · cases ec
end
end Zz
set_option maxRecDepth 100000
set_option maxHeartbeats 4000000
namespace Zz
open PySem PySem.Spec PyProof.Rows L2
/-! ### what is walked -/
/-- J yields the data ds one by one, from the world w on -/
def Yields (K : PySem.W.Frag) (mg : Str → Option Value) (w : Wd) (J : It) (ds : List D) : Prop :=
  ∀ w', Ext w w' → Rep K mg w' → ∀ i, (∀ d, ds[i]? = some d → J.go i w'.H ∧ ∀ x H', J.yld i w'.H x H' → Ext w' (w'.at H') ∧ Rep K mg (w'.at H') ∧ Dv K (w'.at H').F x d) ∧ (ds.length ≤ i → J.stop i w'.H)
theorem Yields.mono {K : PySem.W.Frag} {mg : Str → Option Value} {w w1 : Wd} {J : It} {ds : List D} (e : Ext w w1) (h : Yields K mg w J ds) : Yields K mg w1 J ds := fun w' e' R' => h w' (e.trans e') R'
def tI (K : PySem.W.Frag) (mg : Str → Option Value) (W : WX) (it : Env' → M (List D)) : TI := fun σ H R =>
  ∃ α S ρ, Rep K mg ⟨α, S, H⟩ ∧ RE K ⟨α, S, H⟩ σ ρ ∧ After K mg (Yields K mg) ⟨α, S, H⟩ (it ρ S) R (fun c d H' => W c d σ H')
abbrev ID (X : Cx) (W : WX) (tg e : Expr) (it : Env' → M (List D)) : Prop := PI X tg e (tI X.K X.mg W it)
theorem PI.imp {X : Cx} {tg e : Expr} {t t' : TI} (h : PI X tg e t) (k : ∀ σ H R, t' σ H R → t σ H R) : PI X tg e t' := ⟨fun pins s σ H R I q => h.run pins s σ H R I (k σ H R q)⟩
section
variable {K : PySem.W.Frag} {mg : Str → Option Value} {w w' : Wd}
theorem yl_list {a : Addr} {vs : List V} {ds : List D} (h : SqL K w.F a vs) (dv : DvAll K w.F vs ds) : Yields K mg w (Itl K a) ds := fun w' e R i => by
  have h' : SqL K w'.F a vs := seqL e.same h
  have h2 : SqL K w'.H a vs := seqL (Wd.F_same w') h'
  refine ⟨fun d hd => ?_, fun hi => ⟨vs, h2, by rw [dv.length]; exact hi⟩⟩
  obtain ⟨v, e1, r⟩ := dv.get hd
  refine ⟨⟨vs, v, h2, e1⟩, fun x H' ⟨eh, y⟩ => ?_⟩
  subst eh
  have ex := y vs h2
  rw [e1] at ex
  cases ex
  exact ⟨Ext.refl _, R, r.mono e.same⟩
theorem yl_tup {a : Addr} {vs : List V} {ds : List D} (h : SqT K w.F a vs) (dv : DvAll K w.F vs ds) : Yields K mg w (Itt K a) ds := fun w' e R i => by
  have h' : SqT K w'.F a vs := seqT e.same h
  have h2 : SqT K w'.H a vs := seqT (Wd.F_same w') h'
  refine ⟨fun d hd => ?_, fun hi => ⟨vs, h2, by rw [dv.length]; exact hi⟩⟩
  obtain ⟨v, e1, r⟩ := dv.get hd
  refine ⟨⟨vs, v, h2, e1⟩, fun x H' ⟨eh, y⟩ => ?_⟩
  subst eh
  have ex := y vs h2
  rw [e1] at ex
  cases ex
  exact ⟨Ext.refl _, R, r.mono e.same⟩
theorem yl_rng (lo : Int) (n : Nat) : Yields K mg w (Itr lo n) ((List.range n).map fun i : Nat => PyData.int (lo + i)) := fun w' e R i => by
  refine ⟨fun d hd => ?_, fun hi => by show n ≤ i; simpa using hi⟩
  rw [List.getElem?_map, Option.map_eq_some_iff] at hd
  obtain ⟨j, h1, h2⟩ := hd
  have h3 := List.getElem?_eq_some_iff.mp h1
  obtain ⟨h4, h5⟩ := h3
  rw [List.getElem_range] at h5
  subst h5
  subst h2
  refine ⟨by show i < n; simpa using h4, fun x H' ⟨eh, y⟩ => ?_⟩
  subst eh
  subst y
  exact ⟨Ext.refl _, R, .int _⟩
theorem yl_str (x : Str) : Yields K mg w (Its x) (x.cps.toList.map fun c => PyData.str ⟨#[c]⟩) := fun w' e R i => by
  refine ⟨fun d hd => ?_, fun hi => by show x.cps.size ≤ i; simpa using hi⟩
  rw [List.getElem?_map, Option.map_eq_some_iff] at hd
  obtain ⟨c, h1, h2⟩ := hd
  subst h2
  rw [Array.getElem?_toList] at h1
  refine ⟨(Array.getElem?_eq_some_iff.mp h1).1, fun v H' ⟨eh, c', e1, e2⟩ => ?_⟩
  subst eh
  rw [h1] at e1
  cases e1
  subst e2
  exact ⟨Ext.refl _, R, .str _⟩
end
section
variable {X : Cx} {n : Nat} {W : WX} {pos p : Pos} {tg e a b : Expr} {f : Env' → M Val}
/-- the items of a list, a tuple -/
def itSeq (f : Env' → M Val) : Env' → M (List D) := fun ρ => (f ρ).bind fun x => (frz x).bind fun d => match d with
  | .list ds => M.ret ds
  | _ => M.st
def itTup (f : Env' → M Val) : Env' → M (List D) := fun ρ => (f ρ).bind fun x => (frz x).bind fun d => match d with
  | .tuple ds => M.ret ds
  | _ => M.st
def itStr (f : Env' → M Val) : Env' → M (List D) := fun ρ => (f ρ).bind fun x => (frz x).bind fun d => match d with
  | .str x => M.ret (x.cps.toList.map fun c => .str ⟨#[c]⟩)
  | _ => M.st
def itRng (f : Env' → M Val) : Env' → M (List D) := fun ρ => (f ρ).bind fun x => (frz x).bind fun d => match d with
  | .int j => if -(2 ^ 62) ≤ j ∧ j < 2 ^ 62 then M.ret ((List.range j.toNat).map fun i : Nat => .int (0 + i)) else M.st
  | _ => M.st
theorem itQ {k : D → M (List D)} {σ : L2.St} {H : Hp} {R : It → Hp → Prop} (q : tI X.K X.mg W (fun ρ => (f ρ).bind fun x => (frz x).bind k) σ H R) : tD X.K X.mg W f σ H fun v H1 => ∃ w d, w.H = H1 ∧ Rep X.K X.mg w ∧ Dv X.K w.F v d ∧ After X.K X.mg (Yields X.K X.mg) w (k d w.S) R (fun c d H' => W c d σ H') := by
  obtain ⟨α, S, ρ, R, re, q⟩ := q
  refine ⟨α, S, ρ, R, re, After.imp (After.split (rel := RV X.K) q) (fun v H1 ⟨α1, S1, x, e1, R1, r1, q1⟩ => ?_) fun _ _ _ z => z⟩
  obtain ⟨S2, d, e2, R2, r2, q2⟩ := frz_ok (w := ⟨α1, S1, H1⟩) R1 r1 q1
  exact ⟨⟨α1, S2, H1⟩, d, rfl, R2, r2, q2⟩
theorem id_seq (he : ED X W e f) : ID X W tg e (itSeq f) := PI.imp (pi_list he) fun σ H R q => by
  obtain ⟨α, S, ρ, h1, h2, q⟩ := itQ q
  refine ⟨α, S, ρ, h1, h2, After.imp q (fun v H1 ⟨w, d, eh, Rw, dv, q1⟩ => ?_) fun _ _ _ z => z⟩
  subst eh
  split at q1
  · cases dv with
    | lst s1 s2 => exact ⟨_, rfl, ⟨_, seqL (Wd.F_same w) s1⟩, q1 w.α w.H _ (Ext.refl _) Rw (yl_list s1 s2)⟩
  · exact False.elim q1
theorem id_tup (he : ED X W e f) : ID X W tg e (itTup f) := PI.imp (pi_tup he) fun σ H R q => by
  obtain ⟨α, S, ρ, h1, h2, q⟩ := itQ q
  refine ⟨α, S, ρ, h1, h2, After.imp q (fun v H1 ⟨w, d, eh, Rw, dv, q1⟩ => ?_) fun _ _ _ z => z⟩
  subst eh
  split at q1
  · cases dv with
    | tup s1 s2 => exact ⟨_, rfl, ⟨_, seqT (Wd.F_same w) s1.sq⟩, q1 w.α w.H _ (Ext.refl _) Rw (yl_tup s1.sq s2)⟩
  · exact False.elim q1
theorem id_str (he : ED X W e f) : ID X W tg e (itStr f) := PI.imp (pi_str he) fun σ H R q => by
  obtain ⟨α, S, ρ, h1, h2, q⟩ := itQ q
  refine ⟨α, S, ρ, h1, h2, After.imp q (fun v H1 ⟨w, d, eh, Rw, dv, q1⟩ => ?_) fun _ _ _ z => z⟩
  subst eh
  split at q1
  · cases dv with
    | str => exact ⟨_, rfl, q1 w.α w.H _ (Ext.refl _) Rw (yl_str _)⟩
  · exact False.elim q1
theorem id_rng (hm : X.mg "range" = none) (ha : ED X W a f) (hg : Gl X "range" := by rfl) (hs : starEach [a] X.env = [(false, eval a X.env)] := by rfl) : ID X W tg (.Call (.Name "range" p) [a] [] pos) (itRng f) := PI.imp (pi_range1 hg hm (ad_cons (W := W) ha ad_nil hs) hs) fun σ H R q => by
  obtain ⟨α, S, ρ, h1, h2, q⟩ := itQ q
  refine ⟨α, S, ρ, h1, h2, ?_⟩
  show After X.K X.mg (RVs X.K) ⟨α, S, H⟩ ((f ρ S).bind fun x => M.ret [x]) _ _
  cases ef : f ρ S with
  | st => rw [ef] at q; exact q
  | ex x S => rw [ef] at q; exact q
  | ok x S1 =>
    rw [ef] at q
    refine fun α1 H1 vs e1 R1 r1 => ?_
    cases r1 with
    | cons r r' =>
      cases r'
      obtain ⟨w, d, eh, Rw, dv, q1⟩ := q α1 H1 _ e1 R1 r
      subst eh
      split at q1
      · split at q1
        · rename_i j hj
          cases dv
          exact ⟨j, rfl, hj.1, hj.2, q1 w.α w.H _ (Ext.refl _) Rw (yl_rng 0 j.toNat)⟩
        · exact False.elim q1
      · exact False.elim q1
/-! ### for -/
def forGo (g : Tg) (b : SD) : List D → SD
  | [] => sNil
  | d :: ds => fun ρ S => match g (.d d) ρ with
    | none => .st
    | some ρ1 => match b ρ1 S with
      | .nx ρ2 S2 => forGo g b ds ρ2 S2
      | .ct ρ2 S2 => forGo g b ds ρ2 S2
      | .bk ρ2 S2 => .nx ρ2 S2
      | .rt v S2 => .rt v S2
      | .ex x ρ2 S2 => .ex x ρ2 S2
      | .st => .st
def sFor (it : Env' → M (List D)) (g : Tg) (b : SD) : SD := fun ρ S => (it ρ S).then_ ρ fun ds S' => forGo g b ds ρ S'
theorem sd_for {it : Env' → M (List D)} {g : Tg} {b : SD} {is : List Nat} {body : List Stmt} (C : CxOk X n) (hp : PassesOwn (model X.prog X.w) X.A X.env X.xe) (hi : ID X W tg e it) (hg : GD X tg is g) (hb : BkD X W body b)
    (hs : ∀ x, foldedSetIterable e X.env x = pure x := by intro _; rfl) : StD X W (.For tg e body [] pos) (sFor it g b) := by
  refine PS.imp (ps_for hp C.hc hi hg hb hs) fun D σ H ⟨α, S, ρ, R, re, q⟩ => ⟨α, S, ρ, R, re, After.imp (AfterS.split (rel := Yields X.K X.mg) q re) (fun J H1 ⟨α1, S1, ds, e1, R1, y1, re1, q1⟩ => ?_) fun _ _ _ z => z⟩
  refine ⟨fun i m σ H => m = ds.length - i ∧ ∃ w ρ, w.H = H ∧ Ext ⟨α1, S1, H1⟩ w ∧ Rep X.K X.mg w ∧ RE X.K w σ ρ ∧ AfterS X.K X.mg w (forGo g b (ds.drop i) ρ w.S) D W, ⟨_, rfl, ⟨α1, S1, H1⟩, ρ, rfl, Ext.refl _, R1, re1, q1⟩, ?_⟩
  rintro i m σ2 H2 ⟨rfl, w, ρ2, rfl, e2, R2, re2, q2⟩
  obtain ⟨yg, ys⟩ := y1 w e2 R2 i
  cases ed : ds[i]? with
  | none =>
    have hl : ds.length ≤ i := List.getElem?_eq_none_iff.mp ed
    rw [List.drop_eq_nil_of_le hl] at q2
    exact .inl ⟨ys hl, q2 w.α w.H σ2 (Ext.refl _) R2 re2⟩
  | some d =>
    obtain ⟨hl, el⟩ := List.getElem?_eq_some_iff.mp ed
    have e3 : ds.drop i = d :: ds.drop (i + 1) := by rw [← el]; exact List.drop_eq_getElem_cons hl
    rw [e3] at q2
    unfold forGo at q2
    obtain ⟨go, yy⟩ := yg d ed
    refine .inr ⟨go, fun σ' H' => ∃ w ρ, w.H = H' ∧ Ext ⟨α1, S1, H1⟩ w ∧ Rep X.K X.mg w ∧ RE X.K w σ' ρ ∧ AfterS X.K X.mg w (forGo g b (ds.drop (i + 1)) ρ w.S) D W, fun σ' H' z => ⟨ds.length - (i + 1), by omega, rfl, z⟩, fun x H' yl => ?_⟩
    obtain ⟨ex, Rx, dx⟩ := yy x H' yl
    cases eg : g (.d d) ρ2 with
    | none => simp only [eg] at q2; exact False.elim q2
    | some ρ3 =>
      simp only [eg] at q2
      refine ⟨w.at H', .d d, ρ2, ρ3, rfl, Rx, re2.mono ex, dx, eg, fun H3 σ3 x3 R3 re3 _ => ⟨w.α, w.S, ρ3, R3, re3, ?_⟩⟩
      have x4 : Ext ⟨α1, S1, H1⟩ ⟨w.α, w.S, H3⟩ := (e2.trans ex).trans x3
      have x5 : Ext w ⟨w.α, w.S, H3⟩ := ex.trans x3
      cases eb : b ρ3 w.S with
      | st => rw [eb] at q2; exact q2
      | nx ρ4 S4 =>
        rw [eb] at q2
        exact fun α5 H5 σ5 x6 R6 re6 => ⟨⟨α5, S4, H5⟩, ρ4, rfl, x4.trans x6, R6, re6, AfterS.later q2 (x5.trans x6)⟩
      | ct ρ4 S4 =>
        rw [eb] at q2
        exact fun α5 H5 σ5 x6 R6 re6 => ⟨⟨α5, S4, H5⟩, ρ4, rfl, x4.trans x6, R6, re6, AfterS.later q2 (x5.trans x6)⟩
      | bk ρ4 S4 => rw [eb] at q2; exact fun α5 H5 σ5 x6 R6 re6 => q2 α5 H5 σ5 (x5.trans x6) R6 re6
      | rt v S4 => rw [eb] at q2; exact fun α5 H5 u x6 R6 ru => q2 α5 H5 u (x5.trans x6) R6 ru
      | ex x ρ4 S4 => rw [eb] at q2; exact fun α5 H5 σ5 c d x6 R6 re6 rx => q2 α5 H5 σ5 c d (x5.trans x6) R6 re6 rx
end
end Zz
set_option maxRecDepth 100000
set_option maxHeartbeats 4000000
namespace Zz
open PySem PySem.Spec PyProof.Rows L2
/-! ### list comprehensions -/
def wipeE (ρ : Env') : List Nat → Env'
  | [] => ρ
  | v :: vs => (wipeE ρ vs).set v none
theorem RE.wipe {K : PySem.W.Frag} {w : Wd} {σ : L2.St} {ρ : Env'} (h : RE K w σ ρ) : ∀ vs : List Nat, RE K w (L2.wipe σ vs) (wipeE ρ vs)
  | [] => h
  | v :: vs => (RE.wipe h vs).del v none
theorem wipe_wipe (σ : L2.St) (vs : List Nat) : L2.wipe (L2.wipe σ vs) vs = L2.wipe σ vs := wipe_eq (wipe_length σ vs) fun i hi => wipe_out hi
theorem frz_noex (x : Val) (S : List Cell) (y : Ex) (S' : List Cell) : frz x S ≠ .ex y S' := by
  cases x with
  | d x => intro h; cases h
  | c l =>
    intro h
    unfold frz at h
    cases e : S[l]? with
    | none => simp only [e] at h; cases h
    | some c => cases c <;> (simp only [e] at h; cases h)
/-- frz, told apart -/
theorem frz_to {K : PySem.W.Frag} {mg : Str → Option Value} {w : Wd} {v : V} {x : Val} {d : D} {S : List Cell} (R : Rep K mg w) (r : RV K w v x) (h : frz x w.S = .ok d S) : Ext w ⟨w.α, S, w.H⟩ ∧ Rep K mg ⟨w.α, S, w.H⟩ ∧ Dv K (Wd.F ⟨w.α, S, w.H⟩) v d := by
  classical
  obtain ⟨S', d', e1, R1, dv, q⟩ := frz_ok (A' := Unit) (B' := Unit) (rel := fun _ _ _ => True) (k := fun d' S' => if d' = d ∧ S' = S then Res.ok () S' else Res.st) (Q := fun _ _ => True) (X := fun _ _ _ => True) R r (by
    rw [h]
    show After K mg _ w (if d = d ∧ S = S then Res.ok () S else Res.st) _ _
    rw [if_pos ⟨rfl, rfl⟩]
    exact fun _ _ _ _ _ _ => trivial)
  by_cases z : d' = d ∧ S' = S
  · obtain ⟨rfl, rfl⟩ := z
    exact ⟨e1, R1, dv⟩
  · rw [if_neg z] at q
    exact False.elim q
/-- a turn's deed: of the environment and the store -/
abbrev Kt := Env' → List Cell → Option (List Cell)
def lcGo (g : Tg) (k : Kt) (ρ0 : Env') : List D → List Cell → Option (List Cell)
  | [], T => some T
  | d :: ds, T => (g (.d d) ρ0).bind fun ρ1 => (k ρ1 T).bind (lcGo g k ρ0 ds)
def push (l : Nat) (y : D) (T : List Cell) : Option (List Cell) := match T[l]? with
  | some (.lst acc) => if acc.length < 16777216 then some (T.set l (.lst (acc ++ [y]))) else none
  | _ => none
def kTest (ts : Env' → M Bool) (k : Kt) : Kt := fun ρ T => match ts ρ T with
  | .ok b T1 => if b = true then k ρ T1 else some T1
  | _ => none
def kPush (l : Nat) (f : Env' → M Val) : Kt := fun ρ T => match (f ρ T).bind frz with
  | .ok d T2 => push l d T2
  | _ => none
def kFor (it : Env' → M (List D)) (g : Tg) (k : Kt) (vs : List Nat) : Kt := fun ρ T => match it ρ T with
  | .ok ds T1 => lcGo g k (wipeE ρ vs) ds T1
  | _ => none
def lcEnd (l : Nat) : Option (List Cell) → Res Val
  | some T => (frz (.c l) T).bind fun d T' => .ok (.d d) (T'.take l)
  | none => .st
def dLc (it : Env' → M (List D)) (g : Tg) (k : Nat → Kt) (vs : List Nat) : Env' → M Val := fun ρ => (it ρ).bind fun ds S => lcEnd S.length (lcGo g (k S.length) (wipeE ρ vs) ds (S ++ [.lst []]))
/-- the list stays a cell -/
def lcEndC (l : Nat) : Option (List Cell) → Res Val
  | some T => .ok (.c l) T
  | none => .st
def dLcC (it : Env' → M (List D)) (g : Tg) (k : Nat → Kt) (vs : List Nat) : Env' → M Val := fun ρ => (it ρ).bind fun ds S => lcEndC S.length (lcGo g (k S.length) (wipeE ρ vs) ds (S ++ [.lst []]))
abbrev W0 : WX := fun _ _ _ _ => False
section
variable {K : PySem.W.Frag} {mg : Str → Option Value} {w0 w1 : Wd}
theorem loop_ok {J : It} {ds : List D} {g : Tg} {k : Kt} {ρ0 : Env'} {σ0 : L2.St} {T' : List Cell} {body : V → Hp → (Hp → Prop) → Prop} {Qs : Hp → Prop} (y : Yields K mg w0 J ds) (e01 : Ext w0 w1) (R1 : Rep K mg w1) (re : RE K w1 σ0 ρ0) (hgo : lcGo g k ρ0 ds w1.S = some T')
    (turn : ∀ (w : Wd) (x : V) (d : D) (ρ1 : Env') (T1 : List Cell) (Nx : Hp → Prop), Ext w1 w → Rep K mg w → Dv K w.F x d → g (.d d) ρ0 = some ρ1 → k ρ1 w.S = some T1 → RE K w σ0 ρ0 → (∀ w', Ext w w' → Rep K mg w' → w'.S = T1 → Nx w'.H) → body x w.H Nx)
    (hstop : ∀ w, Ext w1 w → Rep K mg w → w.S = T' → Qs w.H) :
    ∃ W : Nat → Nat → Hp → Prop, (∃ m, W 0 m w1.H) ∧ ∀ i m H, W i m H → (J.stop i H ∧ Qs H) ∨ (J.go i H ∧ ∃ Nx : Hp → Prop, (∀ H', Nx H' → ∃ m', m' < m ∧ W (i + 1) m' H') ∧ ∀ x H', J.yld i H x H' → body x H' Nx) := by
  refine ⟨fun i m H => m = ds.length - i ∧ ∃ w, w.H = H ∧ Ext w1 w ∧ Rep K mg w ∧ lcGo g k ρ0 (ds.drop i) w.S = some T', ⟨_, rfl, w1, rfl, Ext.refl _, R1, hgo⟩, ?_⟩
  rintro i m H ⟨rfl, w, rfl, e2, R2, q2⟩
  obtain ⟨yg, ys⟩ := y w (e01.trans e2) R2 i
  cases ed : ds[i]? with
  | none =>
    have hl : ds.length ≤ i := List.getElem?_eq_none_iff.mp ed
    rw [List.drop_eq_nil_of_le hl] at q2
    cases q2
    exact .inl ⟨ys hl, hstop w e2 R2 rfl⟩
  | some d =>
    obtain ⟨hl, el⟩ := List.getElem?_eq_some_iff.mp ed
    have e3 : ds.drop i = d :: ds.drop (i + 1) := by rw [← el]; exact List.drop_eq_getElem_cons hl
    rw [e3] at q2
    unfold lcGo at q2
    obtain ⟨ρ1, eg, q3⟩ := Option.bind_eq_some_iff.mp q2
    obtain ⟨T1, ek, q4⟩ := Option.bind_eq_some_iff.mp q3
    obtain ⟨go, yy⟩ := yg d ed
    refine .inr ⟨go, fun H' => ∃ w, w.H = H' ∧ Ext w1 w ∧ Rep K mg w ∧ lcGo g k ρ0 (ds.drop (i + 1)) w.S = some T', fun H' z => ⟨ds.length - (i + 1), by omega, rfl, z⟩, fun x H' yl => ?_⟩
    obtain ⟨ex, Rx, dx⟩ := yy x H' yl
    exact turn (w.at H') x d ρ1 T1 _ (e2.trans ex) Rx dx eg ek (re.mono (e2.trans ex)) fun w' e5 R5 e6 => ⟨w', rfl, (e2.trans ex).trans e5, R5, by rw [e6]; exact q4⟩
/-- one more item -/
theorem push_ok {w : Wd} {l : Nat} {a : Addr} {d : D} {v : V} {T : List Cell} (R : Rep K mg w) (ha : w.α[l]? = some a) (dv : Dv K w.F v d) (h : push l d w.S = some T) : ∃ acc, w.H a = some (.lst acc) ∧ acc.length < sizeLine ∧ Rep K mg ⟨w.α, T, upd w.H a (.lst (acc ++ [v]))⟩ ∧ Ext w ⟨w.α, T, upd w.H a (.lst (acc ++ [v]))⟩ := by
  unfold push at h
  split at h
  · rename_i ds hs
    split at h
    · rename_i hz
      cases h
      obtain ⟨xs, h1, h2⟩ := R.at_ l a _ ha hs
      exact ⟨xs, h1, by rw [sizeLine_eq, h2.length]; exact hz, R.write ha hs rfl rfl ⟨_, upd_same, h2.append (.cons dv .nil)⟩⟩
    · cases h
  · cases h
theorem kpush_ok {W : WX} {f : Env' → M Val} {l : Nat} {a : Addr} {w : Wd} {σ : L2.St} {ρ : Env'} {T : List Cell} {Nx : Hp → Prop} (R : Rep K mg w) (re : RE K w σ ρ) (ha : w.α[l]? = some a) (h : kPush l f ρ w.S = some T) (q : ∀ w', Ext w w' → Rep K mg w' → w'.S = T → Nx w'.H) :
    tD K mg W f σ w.H fun y H4 => ∃ acc, H4 a = some (.lst acc) ∧ acc.length < sizeLine ∧ Nx (upd H4 a (.lst (acc ++ [y]))) := by
  refine ⟨w.α, w.S, ρ, R, re, ?_⟩
  unfold kPush at h
  cases ef : f ρ w.S with
  | st => rw [ef] at h; cases h
  | ex x S => rw [ef] at h; cases h
  | ok v S =>
    rw [ef] at h
    refine fun α H b e1 R1 r1 => ?_
    have h' : (match frz v S with | .ok d T2 => push l d T2 | _ => none) = some T := h
    cases ez : frz v S with
    | st => rw [ez] at h'; cases h'
    | ex x S => rw [ez] at h'; cases h'
    | ok d S2 =>
      rw [ez] at h'
      obtain ⟨e2, R2, dv⟩ := frz_to (w := ⟨α, S, H⟩) R1 r1 ez
      obtain ⟨acc, h1, h2, R3, e3⟩ := push_ok (w := ⟨α, S2, H⟩) R2 (e1.at_ ha) dv h'
      exact ⟨acc, h1, h2, q ⟨α, T, _⟩ ((e1.trans e2).trans e3) R3 rfl⟩
theorem ktest_ok {W : WX} {ts : Env' → M Bool} {k : Kt} {w : Wd} {σ : L2.St} {ρ : Env'} {T : List Cell} {Qt : Bool → Hp → Prop} (R : Rep K mg w) (re : RE K w σ ρ) (h : kTest ts k ρ w.S = some T)
    (qt : ∀ w', Ext w w' → Rep K mg w' → RE K w' σ ρ → k ρ w'.S = some T → Qt true w'.H) (qf : ∀ w', Ext w w' → Rep K mg w' → w'.S = T → Qt false w'.H) : tDt K mg W ts σ w.H Qt := by
  refine ⟨w.α, w.S, ρ, R, re, ?_⟩
  unfold kTest at h
  cases ef : ts ρ w.S with
  | st => rw [ef] at h; cases h
  | ex x S => rw [ef] at h; cases h
  | ok b S =>
    rw [ef] at h
    refine fun α H b' e1 R1 r1 => ?_
    subst r1
    cases b' with
    | true => exact qt ⟨α, S, H⟩ e1 R1 (re.mono e1) (by simpa using h)
    | false => exact qf ⟨α, S, H⟩ e1 R1 (by simpa using h)
/-- the end, as data or as a cell -/
theorem lcEnd_ok {w w' : Wd} {l : Nat} {a : Addr} {Q : VK} {E : XK} (R : Rep K mg w) (R' : Rep K mg w') (e : Ext w w') (hl : w.S.length = l) (ha : w'.α[l]? = some a) (q : After K mg (RV K) w (lcEnd l (some w'.S)) Q E) : Q (.ref a) w'.H := by
  have q' : After K mg (RV K) w ((frz (.c l) w'.S).bind fun d T' => .ok (.d d) (T'.take l)) Q E := q
  cases ez : frz (.c l) w'.S with
  | st => rw [ez] at q'; exact False.elim q'
  | ex x S =>
    exact absurd ez (frz_noex _ _ _ _)
  | ok d S2 =>
    rw [ez] at q'
    obtain ⟨e2, R2, dv⟩ := frz_to (x := .c l) (v := .ref a) R' ⟨a, ha, rfl⟩ ez
    subst hl
    exact q' _ _ _ (Ext.cut R R2 (e.trans e2)) (R2.cut _).1 (Dv.mono (R2.cut w.S.length).2 dv)
end
section
variable {X : Cx} {n : Nat} {W : WX} {pos p : Pos} {tg e elt : Expr} {ifs : List Expr} {scope : Scope} {own : List (Str × Nat)} {f : Env' → M Val} {it : Env' → M (List D)} {g : Tg} {ts : Env' → M Bool} {is : List Nat}
theorem PTs.imp {t t' : TT} (h : PTs X ifs t) (k : ∀ σ H Q, t' σ H Q → t σ H Q) : PTs X ifs t' := ⟨fun pins s σ H Q I q => h.run pins s σ H Q I (k σ H Q q)⟩
theorem td_nil : PTs X [] (tDt X.K X.mg W fun _ => M.ret true) := PTs.imp pts_nil fun σ H Q ⟨α, S, ρ, R, re, q⟩ => q α H true (Ext.refl _) R rfl
theorem td_one {c : Expr} (h : TDt X W c ts) : PTs X [c] (tDt X.K X.mg W ts) := pts_one h
theorem lcQ {k : Nat → Kt} {fin : Nat → Option (List Cell) → Res Val} {vs : List Nat} {σ : L2.St} {H : Hp} {Q : VK} (hin : ∀ i ∈ is, i ∈ vs) (hk : k = fun l => kTest ts (kPush l f)) (hf0 : ∀ l, fin l none = .st)
    (hfin : ∀ (w w' : Wd) (l : Nat) (a : Addr), Rep X.K X.mg w → Rep X.K X.mg w' → Ext w w' → w.S.length = l → w'.α[l]? = some a → After X.K X.mg (RV X.K) w (fin l (some w'.S)) Q (fun c d H' => W c d σ H') → Q (.ref a) w'.H)
    (q : tD X.K X.mg W (fun ρ => (it ρ).bind fun ds S => fin S.length (lcGo g (k S.length) (wipeE ρ vs) ds (S ++ [.lst []]))) σ H Q) :
    tLc (tI X.K X.mg W it) (tG X.K X.mg is g) (tDt X.K X.mg W0 ts) (tD X.K X.mg W0 f) vs σ H Q := by
  subst hk
  obtain ⟨α, S, ρ, R, re, q⟩ := q
  refine ⟨α, S, ρ, R, re, After.imp (After.split (rel := Yields X.K X.mg) q) (fun J H1 ⟨α1, S1, ds, e1, R1, y1, q1⟩ => ?_) fun _ _ _ z => z⟩
  intro D hD
  obtain ⟨Rc, ec⟩ := R1.cell hD (c := .lst []) rfl ⟨[], upd_same, .nil⟩
  have ha : ((α1 ++ [D]) : List Addr)[S1.length]? = some D := by
    rw [List.getElem?_append_right (by rw [R1.len]; exact Nat.le_refl _), R1.len, Nat.sub_self]; rfl
  cases eg : lcGo g (kTest ts (kPush S1.length f)) (wipeE ρ vs) ds (S1 ++ [.lst []]) with
  | none => rw [eg, hf0] at q1; exact False.elim q1
  | some T' =>
    rw [eg] at q1
    have re1 : RE X.K ⟨α1 ++ [D], S1 ++ [.lst []], upd H1 D (.lst [])⟩ (L2.wipe σ vs) (wipeE ρ vs) := ((re.mono e1).mono ec).wipe vs
    refine loop_ok (w0 := ⟨α1, S1, H1⟩) (w1 := ⟨α1 ++ [D], S1 ++ [.lst []], upd H1 D (.lst [])⟩) (body := fun x H' Nx => tG X.K X.mg is g x (L2.wipe σ vs) H' fun σ2 H2 => L2.wipe σ2 vs = L2.wipe σ vs ∧ tDt X.K X.mg W0 ts σ2 H2 fun b H3 =>
      if b = true then tD X.K X.mg W0 f σ2 H3 fun y H4 => ∃ acc, H4 D = some (.lst acc) ∧ acc.length < sizeLine ∧ Nx (upd H4 D (.lst (acc ++ [y]))) else Nx H3) y1 ec Rc re1 eg
      (fun w x d ρ1 T1 Nx ew Rw dv hg hk rew hn => ?_) fun w ew Rw es => ?_
    · refine ⟨w, .d d, _, ρ1, rfl, Rw, rew, dv, hg, fun H2 σ2 x2 R2 re2 o2 => ⟨by rw [o2.wipe hin, wipe_wipe], ?_⟩⟩
      refine ktest_ok (w := w.at H2) R2 re2 hk (fun w' e3 R3 re3 hk3 => ?_) fun w' e3 R3 e4 => ?_
      · simp only [if_true]
        exact kpush_ok R3 re3 (((ew.trans x2).trans e3).at_ ha) hk3 fun w5 e5 R5 e6 => hn w5 ((x2.trans e3).trans e5) R5 e6
      · simp only [Bool.false_eq_true, if_false]
        exact hn w' (x2.trans e3) R3 e4
    · subst es
      exact hfin ⟨α1, S1, H1⟩ w S1.length D R1 Rw (ec.trans ew) rfl (ew.at_ ha) q1
/-- a block's context -/
abbrev bx (X : Cx) (s : Shared) (H : Hp) (scope : Scope) (cl : List (Str × Addr)) (C : Addr) (fp : List Addr) : Cx := X.blk s H scope (compEnvC scope cl C X.env) fp
theorem ed_lc (C : CxOk X n) (hi : ID X W tg e it) (ok : BlkOk X.N X.env.scope scope own) (hin : ∀ i ∈ is, i ∈ own.map (·.2))
    (hg : ∀ s H C cl fp, GD (bx X s H scope cl C fp) tg is g) (ht : ∀ s H C cl fp, PTs (bx X s H scope cl C fp) ifs (tDt X.K X.mg W0 ts)) (he : ∀ s H C cl fp, ED (bx X s H scope cl C fp) W0 elt f)
    (hs : ∀ x, foldedSetIterable e X.env x = pure x := by intro _; rfl) : ED X W (.ListComp elt [⟨tg, e, ifs, 0⟩] scope pos) (dLc it g (fun l => kTest ts (kPush l f)) (own.map (·.2))) :=
  PE.imp (pe_lc C.hc C.hN hi ok hg ht he hs) fun σ H Q q => lcQ (fin := lcEnd) hin rfl (fun _ => rfl) (fun w w' l a R R' e hl ha q => lcEnd_ok R R' e hl ha q) q
theorem ed_lcC (C : CxOk X n) (hi : ID X W tg e it) (ok : BlkOk X.N X.env.scope scope own) (hin : ∀ i ∈ is, i ∈ own.map (·.2))
    (hg : ∀ s H C cl fp, GD (bx X s H scope cl C fp) tg is g) (ht : ∀ s H C cl fp, PTs (bx X s H scope cl C fp) ifs (tDt X.K X.mg W0 ts)) (he : ∀ s H C cl fp, ED (bx X s H scope cl C fp) W0 elt f)
    (hs : ∀ x, foldedSetIterable e X.env x = pure x := by intro _; rfl) : ED X W (.ListComp elt [⟨tg, e, ifs, 0⟩] scope pos) (dLcC it g (fun l => kTest ts (kPush l f)) (own.map (·.2))) :=
  PE.imp (pe_lc C.hc C.hN hi ok hg ht he hs) fun σ H Q q => lcQ (fin := lcEndC) hin rfl (fun _ => rfl) (fun w w' l a R R' e hl ha q => q _ _ _ e R' ⟨a, ha, rfl⟩) q
/-- name = [..] -/
theorem setQ {i : Nat} {f : Env' → M Val} {D : Ends} {σ : L2.St} {H : Hp} (q : tS X.K X.mg W (sSet i f) D σ H) : tD X.K X.mg W f σ H fun v H' => D.nx (σ.set i (some v)) H' := by
  obtain ⟨α, S, ρ, R, re, q⟩ := q
  exact ⟨α, S, ρ, R, re, After.imp (AfterS.split (rel := RV X.K) q re) (fun v H' ⟨α', S', a, e1, R1, r1, re1, q1⟩ => q1 α' H' _ (Ext.refl _) R1 (re1.set r1 i)) fun _ _ _ z => z⟩
theorem sd_setLc {i : Nat} {y : Str} {py spos : Pos} (C : CxOk X n) (hi : ID X W tg e it) (ok : BlkOk X.N X.env.scope scope own) (hin : ∀ i ∈ is, i ∈ own.map (·.2))
    (hg : ∀ s H C cl fp, GD (bx X s H scope cl C fp) tg is g) (ht : ∀ s H C cl fp, PTs (bx X s H scope cl C fp) ifs (tDt X.K X.mg W0 ts)) (he : ∀ s H C cl fp, ED (bx X s H scope cl C fp) W0 elt f)
    (hy : X.N[i]? = some y := by rfl) (hyl : X.env.scope.names.lookup y = some .local := by rfl) (hsw : swapsWith (.ListComp elt [⟨tg, e, ifs, 0⟩] scope pos) (some (.Name y py)) spos.line X.env = pure true)
    (hs : ∀ x, foldedSetIterable e X.env x = pure x := by intro _; rfl) : StD X W (.Assign [.Name y py] (.ListComp elt [⟨tg, e, ifs, 0⟩] scope pos) spos) (sSet i (dLc it g (fun l => kTest ts (kPush l f)) (own.map (·.2)))) :=
  PS.imp (ps_setLc C.hc C.hN hy hyl hsw hi ok hg ht he hs) fun D σ H q => lcQ (fin := lcEnd) hin rfl (fun _ => rfl) (fun w w' l a R R' e hl ha q => lcEnd_ok R R' e hl ha q) (setQ q)
theorem sd_setLcC {i : Nat} {y : Str} {py spos : Pos} (C : CxOk X n) (hi : ID X W tg e it) (ok : BlkOk X.N X.env.scope scope own) (hin : ∀ i ∈ is, i ∈ own.map (·.2))
    (hg : ∀ s H C cl fp, GD (bx X s H scope cl C fp) tg is g) (ht : ∀ s H C cl fp, PTs (bx X s H scope cl C fp) ifs (tDt X.K X.mg W0 ts)) (he : ∀ s H C cl fp, ED (bx X s H scope cl C fp) W0 elt f)
    (hy : X.N[i]? = some y := by rfl) (hyl : X.env.scope.names.lookup y = some .local := by rfl) (hsw : swapsWith (.ListComp elt [⟨tg, e, ifs, 0⟩] scope pos) (some (.Name y py)) spos.line X.env = pure true)
    (hs : ∀ x, foldedSetIterable e X.env x = pure x := by intro _; rfl) : StD X W (.Assign [.Name y py] (.ListComp elt [⟨tg, e, ifs, 0⟩] scope pos) spos) (sSet i (dLcC it g (fun l => kTest ts (kPush l f)) (own.map (·.2)))) :=
  PS.imp (ps_setLc C.hc C.hN hy hyl hsw hi ok hg ht he hs) fun D σ H q => lcQ (fin := lcEndC) hin rfl (fun _ => rfl) (fun w w' l a R R' e hl ha q => q _ _ _ e R' ⟨a, ha, rfl⟩) (setQ q)
end
end Zz
set_option maxRecDepth 100000
set_option maxHeartbeats 4000000
namespace Zz
open PySem PySem.Spec PyProof.Rows L2
section
variable {X : Cx} {n : Nat} {W : WX} {pos p : Pos} {tg e tg1 e1 elt : Expr} {ifs ifs1 : List Expr} {scope : Scope} {own : List (Str × Nat)} {f : Env' → M Val} {it it1 : Env' → M (List D)} {g g1 : Tg} {ts ts1 : Env' → M Bool} {is is1 vs1 : List Nat}
theorem lc2Q {k : Nat → Kt} {fin : Nat → Option (List Cell) → Res Val} {vs : List Nat} {σ : L2.St} {H : Hp} {Q : VK} (hin : ∀ i ∈ is, i ∈ vs) (hin1 : ∀ i ∈ is1, i ∈ vs1) (hk : k = fun l => kTest ts (kFor it1 g1 (kTest ts1 (kPush l f)) vs1)) (hf0 : ∀ l, fin l none = .st)
    (hfin : ∀ (w w' : Wd) (l : Nat) (a : Addr), Rep X.K X.mg w → Rep X.K X.mg w' → Ext w w' → w.S.length = l → w'.α[l]? = some a → After X.K X.mg (RV X.K) w (fin l (some w'.S)) Q (fun c d H' => W c d σ H') → Q (.ref a) w'.H)
    (q : tD X.K X.mg W (fun ρ => (it ρ).bind fun ds S => fin S.length (lcGo g (k S.length) (wipeE ρ vs) ds (S ++ [.lst []]))) σ H Q) :
    tLc2 (tI X.K X.mg W it) (tG X.K X.mg is g) (tDt X.K X.mg W0 ts) (tI X.K X.mg W0 it1) (tG X.K X.mg is1 g1) (tDt X.K X.mg W0 ts1) (tD X.K X.mg W0 f) vs vs1 σ H Q := by
  subst hk
  obtain ⟨α, S, ρ, R, re, q⟩ := q
  refine ⟨α, S, ρ, R, re, After.imp (After.split (rel := Yields X.K X.mg) q) (fun J H1 ⟨α1, S1, ds, e1, R1, y1, q1⟩ => ?_) fun _ _ _ z => z⟩
  intro D hD
  obtain ⟨Rc, ec⟩ := R1.cell hD (c := .lst []) rfl ⟨[], upd_same, .nil⟩
  have ha : ((α1 ++ [D]) : List Addr)[S1.length]? = some D := by
    rw [List.getElem?_append_right (by rw [R1.len]; exact Nat.le_refl _), R1.len, Nat.sub_self]; rfl
  cases eg : lcGo g (kTest ts (kFor it1 g1 (kTest ts1 (kPush S1.length f)) vs1)) (wipeE ρ vs) ds (S1 ++ [.lst []]) with
  | none => rw [eg, hf0] at q1; exact False.elim q1
  | some T' =>
    rw [eg] at q1
    have re1 : RE X.K ⟨α1 ++ [D], S1 ++ [.lst []], upd H1 D (.lst [])⟩ (L2.wipe σ vs) (wipeE ρ vs) := ((re.mono e1).mono ec).wipe vs
    refine loop_ok (w0 := ⟨α1, S1, H1⟩) (w1 := ⟨α1 ++ [D], S1 ++ [.lst []], upd H1 D (.lst [])⟩) (body := fun x H' Nx => tG X.K X.mg is g x (L2.wipe σ vs) H' fun σ2 H2 => L2.wipe σ2 vs = L2.wipe σ vs ∧ tDt X.K X.mg W0 ts σ2 H2 fun b H3 =>
      if b = true then tI X.K X.mg W0 it1 σ2 H3 fun J1 H4 => ∃ W1 : Nat → Nat → Hp → Prop, (∃ m, W1 0 m H4) ∧ ∀ j k H, W1 j k H →
      (J1.stop j H ∧ Nx H) ∨ (J1.go j H ∧ ∃ Nx1 : Hp → Prop, (∀ H', Nx1 H' → ∃ k', k' < k ∧ W1 (j + 1) k' H') ∧ ∀ x H', J1.yld j H x H' → tG X.K X.mg is1 g1 x (L2.wipe σ2 vs1) H' fun σ3 H5 => L2.wipe σ3 vs1 = L2.wipe σ2 vs1 ∧ tDt X.K X.mg W0 ts1 σ3 H5 fun b H6 =>
        if b = true then tD X.K X.mg W0 f σ3 H6 fun y H7 => ∃ acc, H7 D = some (.lst acc) ∧ acc.length < sizeLine ∧ Nx1 (upd H7 D (.lst (acc ++ [y]))) else Nx1 H6)
      else Nx H3) y1 ec Rc re1 eg
      (fun w x d ρ1 T1 Nx ew Rw dv hg hk rew hn => ?_) fun w ew Rw es => ?_
    · refine ⟨w, .d d, _, ρ1, rfl, Rw, rew, dv, hg, fun H2 σ2 x2 R2 re2 o2 => ⟨by rw [o2.wipe hin, wipe_wipe], ?_⟩⟩
      refine ktest_ok (w := w.at H2) R2 re2 hk (fun w' e3 R3 re3 hk3 => ?_) fun w' e3 R3 e4 => ?_
      · simp only [if_true]
        refine ⟨w'.α, w'.S, ρ1, R3, re3, ?_⟩
        unfold kFor at hk3
        cases ei : it1 ρ1 w'.S with
        | st => rw [ei] at hk3; cases hk3
        | ex x S => rw [ei] at hk3; cases hk3
        | ok ds1 T3 =>
          rw [ei] at hk3
          refine fun α4 H4 J1 e4 R4 y4 => ?_
          have e24 : Ext w ⟨α4, T3, H4⟩ := (x2.trans e3).trans e4
          refine loop_ok (w0 := ⟨α4, T3, H4⟩) (w1 := ⟨α4, T3, H4⟩) (body := fun x H' Nx1 => tG X.K X.mg is1 g1 x (L2.wipe σ2 vs1) H' fun σ3 H5 => L2.wipe σ3 vs1 = L2.wipe σ2 vs1 ∧ tDt X.K X.mg W0 ts1 σ3 H5 fun b H6 =>
            if b = true then tD X.K X.mg W0 f σ3 H6 fun y H7 => ∃ acc, H7 D = some (.lst acc) ∧ acc.length < sizeLine ∧ Nx1 (upd H7 D (.lst (acc ++ [y]))) else Nx1 H6) y4 (Ext.refl _) R4 ((re3.mono e4).wipe vs1) hk3
            (fun w5 x5 d5 ρ5 T5 Nx5 ew5 Rw5 dv5 hg5 hk5 rew5 hn5 => ?_) fun w5 ew5 Rw5 es5 => hn w5 (e24.trans ew5) Rw5 es5
          refine ⟨w5, .d d5, _, ρ5, rfl, Rw5, rew5, dv5, hg5, fun H6 σ6 x6 R6 re6 o6 => ⟨by rw [o6.wipe hin1, wipe_wipe], ?_⟩⟩
          refine ktest_ok (w := w5.at H6) R6 re6 hk5 (fun w7 e7 R7 re7 hk7 => ?_) fun w7 e7 R7 es7 => ?_
          · simp only [if_true]
            exact kpush_ok R7 re7 (((((ew.trans e24).trans ew5).trans x6).trans e7).at_ ha) hk7 fun w8 e8 R8 es8 => hn5 w8 ((x6.trans e7).trans e8) R8 es8
          · simp only [Bool.false_eq_true, if_false]
            exact hn5 w7 (x6.trans e7) R7 es7
      · simp only [Bool.false_eq_true, if_false]
        exact hn w' (x2.trans e3) R3 e4
    · subst es
      exact hfin ⟨α1, S1, H1⟩ w S1.length D R1 Rw (ec.trans ew) rfl (ew.at_ ha) q1
theorem ed_lc2 (C : CxOk X n) (hi : ID X W tg e it) (ok : BlkOk X.N X.env.scope scope own) (hin : ∀ i ∈ is, i ∈ own.map (·.2)) (hin1 : ∀ i ∈ is1, i ∈ vs1) (hv : ∀ i ∈ vs1, i ∈ own.map (·.2))
    (hg : ∀ s H C cl fp, GD (bx X s H scope cl C fp) tg is g) (ht : ∀ s H C cl fp, PTs (bx X s H scope cl C fp) ifs (tDt X.K X.mg W0 ts)) (hi1 : ∀ s H C cl fp, ID (bx X s H scope cl C fp) W0 tg1 e1 it1)
    (hg1 : ∀ s H C cl fp, GD (bx X s H scope cl C fp) tg1 is1 g1) (ht1 : ∀ s H C cl fp, PTs (bx X s H scope cl C fp) ifs1 (tDt X.K X.mg W0 ts1)) (he : ∀ s H C cl fp, ED (bx X s H scope cl C fp) W0 elt f)
    (hs : ∀ x, foldedSetIterable e X.env x = pure x := by intro _; rfl) (hs1 : ∀ env x, foldedSetIterable e1 env x = pure x := by intro _ _; rfl) :
    ED X W (.ListComp elt [⟨tg, e, ifs, 0⟩, ⟨tg1, e1, ifs1, 0⟩] scope pos) (dLc it g (fun l => kTest ts (kFor it1 g1 (kTest ts1 (kPush l f)) vs1)) (own.map (·.2))) :=
  PE.imp (pe_lc2 C.hc C.hN hi ok hv hg ht hi1 hg1 ht1 he hs hs1) fun σ H Q q => lc2Q (fin := lcEnd) hin hin1 rfl (fun _ => rfl) (fun w w' l a R R' e hl ha q => lcEnd_ok R R' e hl ha q) q
theorem ed_lc2C (C : CxOk X n) (hi : ID X W tg e it) (ok : BlkOk X.N X.env.scope scope own) (hin : ∀ i ∈ is, i ∈ own.map (·.2)) (hin1 : ∀ i ∈ is1, i ∈ vs1) (hv : ∀ i ∈ vs1, i ∈ own.map (·.2))
    (hg : ∀ s H C cl fp, GD (bx X s H scope cl C fp) tg is g) (ht : ∀ s H C cl fp, PTs (bx X s H scope cl C fp) ifs (tDt X.K X.mg W0 ts)) (hi1 : ∀ s H C cl fp, ID (bx X s H scope cl C fp) W0 tg1 e1 it1)
    (hg1 : ∀ s H C cl fp, GD (bx X s H scope cl C fp) tg1 is1 g1) (ht1 : ∀ s H C cl fp, PTs (bx X s H scope cl C fp) ifs1 (tDt X.K X.mg W0 ts1)) (he : ∀ s H C cl fp, ED (bx X s H scope cl C fp) W0 elt f)
    (hs : ∀ x, foldedSetIterable e X.env x = pure x := by intro _; rfl) (hs1 : ∀ env x, foldedSetIterable e1 env x = pure x := by intro _ _; rfl) :
    ED X W (.ListComp elt [⟨tg, e, ifs, 0⟩, ⟨tg1, e1, ifs1, 0⟩] scope pos) (dLcC it g (fun l => kTest ts (kFor it1 g1 (kTest ts1 (kPush l f)) vs1)) (own.map (·.2))) :=
  PE.imp (pe_lc2 C.hc C.hN hi ok hv hg ht hi1 hg1 ht1 he hs hs1) fun σ H Q q => lc2Q (fin := lcEndC) hin hin1 rfl (fun _ => rfl) (fun w w' l a R R' e hl ha q => q _ _ _ e R' ⟨a, ha, rfl⟩) q
theorem sd_setLc2 {i : Nat} {y : Str} {py spos : Pos} (C : CxOk X n) (hi : ID X W tg e it) (ok : BlkOk X.N X.env.scope scope own) (hin : ∀ i ∈ is, i ∈ own.map (·.2)) (hin1 : ∀ i ∈ is1, i ∈ vs1) (hv : ∀ i ∈ vs1, i ∈ own.map (·.2))
    (hg : ∀ s H C cl fp, GD (bx X s H scope cl C fp) tg is g) (ht : ∀ s H C cl fp, PTs (bx X s H scope cl C fp) ifs (tDt X.K X.mg W0 ts)) (hi1 : ∀ s H C cl fp, ID (bx X s H scope cl C fp) W0 tg1 e1 it1)
    (hg1 : ∀ s H C cl fp, GD (bx X s H scope cl C fp) tg1 is1 g1) (ht1 : ∀ s H C cl fp, PTs (bx X s H scope cl C fp) ifs1 (tDt X.K X.mg W0 ts1)) (he : ∀ s H C cl fp, ED (bx X s H scope cl C fp) W0 elt f)
    (hy : X.N[i]? = some y := by rfl) (hyl : X.env.scope.names.lookup y = some .local := by rfl) (hsw : swapsWith (.ListComp elt [⟨tg, e, ifs, 0⟩, ⟨tg1, e1, ifs1, 0⟩] scope pos) (some (.Name y py)) spos.line X.env = pure true)
    (hs : ∀ x, foldedSetIterable e X.env x = pure x := by intro _; rfl) (hs1 : ∀ env x, foldedSetIterable e1 env x = pure x := by intro _ _; rfl) :
    StD X W (.Assign [.Name y py] (.ListComp elt [⟨tg, e, ifs, 0⟩, ⟨tg1, e1, ifs1, 0⟩] scope pos) spos) (sSet i (dLc it g (fun l => kTest ts (kFor it1 g1 (kTest ts1 (kPush l f)) vs1)) (own.map (·.2)))) :=
  PS.imp (ps_setLc2 C.hc C.hN hy hyl hsw hi ok hv hg ht hi1 hg1 ht1 he hs hs1) fun D σ H q => lc2Q (fin := lcEnd) hin hin1 rfl (fun _ => rfl) (fun w w' l a R R' e hl ha q => lcEnd_ok R R' e hl ha q) (setQ q)
/-! ### (x, *xs) -/
/-- the items of a sequence, then the rest -/
def dStar (f : Env' → M Val) (g : Env' → M (List Val)) : Env' → M (List Val) := fun ρ => (f ρ).bind fun x => (frz x).bind fun d => match d with
  | .tuple ds => (g ρ).bind fun xs => M.ret (ds.map .d ++ xs)
  | .list ds => (g ρ).bind fun xs => M.ret (ds.map .d ++ xs)
  | _ => M.st
theorem rvs_of {K : PySem.W.Frag} {w : Wd} : ∀ {vs : List V} {ds : List D}, DvAll K w.F vs ds → RVs K w vs (ds.map .d)
  | _, _, .nil => .nil
  | _, _, .cons a b => .cons a (rvs_of b)
theorem RVs.append {K : PySem.W.Frag} {w : Wd} : ∀ {vs us : List V} {xs ys : List Val}, RVs K w vs xs → RVs K w us ys → RVs K w (vs ++ us) (xs ++ ys)
  | _, _, _, _, .nil, h => h
  | _, _, _, _, .cons a b, h => .cons a (RVs.append b h)
theorem ad_star {es : List Expr} {h : Env' → M (List Val)} (he : ED X W e f) (hr : AD X W es h) (hs : starEach (.Starred e p :: es) X.env = (true, eval e X.env) :: starEach es X.env := by rfl) : AD X W (.Starred e p :: es) (dStar f h) :=
  PA.imp (StX.pa_star he hr hs) fun σ H Q ⟨α, S, ρ, R, re, q⟩ => ⟨α, S, ρ, R, re, After.imp (After.split (rel := RV X.K) q) (fun v H1 ⟨α1, S1, x, e1, R1, r1, q1⟩ => by
    obtain ⟨S2, d, e2, R2, dv, q2⟩ := frz_ok (w := ⟨α1, S1, H1⟩) R1 r1 q1
    have fin : ∀ {a : Addr} {vs : List V} {ds : List D}, DvAll X.K (Wd.F ⟨α1, S2, H1⟩) vs ds → After X.K X.mg (RVs X.K) ⟨α1, S2, H1⟩ ((h ρ S2).bind fun xs => M.ret (ds.map .d ++ xs)) Q (fun c d H' => W c d σ H') → tDs X.K X.mg W h σ H1 fun ys H2 => Q (vs ++ ys) H2 := fun {a vs ds} dd q => by
      refine ⟨α1, S2, ρ, R2, re.mono (e1.trans e2), After.imp (After.split (rel := RVs X.K) q) (fun us H3 ⟨α3, S3, xs, e3, R3, r3, q3⟩ => ?_) fun _ _ _ z => z⟩
      exact q3 α3 H3 (vs ++ us) (Ext.refl _) R3 (RVs.append (rvs_of (dd.mono e3.same)) r3)
    split at q2
    · cases dv with
      | tup s1 s2 => exact ⟨_, _, rfl, .inl (seqT (Wd.F_same _) s1.sq), fin (a := 0) s2 q2⟩
    · cases dv with
      | lst s1 s2 => exact ⟨_, _, rfl, .inr (seqL (Wd.F_same _) s1), fin (a := 0) s2 q2⟩
    · exact False.elim q2) fun _ _ _ z => z⟩
end
end Zz
set_option maxRecDepth 100000
set_option maxHeartbeats 4000000
namespace Zz
open PySem PySem.Spec PyProof.Rows L2
section
variable {X : Cx} {n : Nat} {W : WX} {pos p apos cpos : Pos} {o a b e : Expr} {es : List Expr} {f g h : Env' → M Val}
/-! ### xs.append(y) -/
/-- y put behind the list that x is -/
def appM (x y : Val) : M Val := match x with
  | .c l => (frz y).bind fun d S => match push l d S with
    | some T => .ok (.d .none) T
    | none => .st
  | .d _ => M.st
def isLst (S : List Cell) (x : Val) : Bool := match rd S x with
  | some (.list _) => true
  | _ => false
def dApp (f g : Env' → M Val) : Env' → M Val := fun ρ => (f ρ).bind fun x S => if isLst S x = true then ((g ρ S).bind fun y => appM x y) else .st
theorem rd_lst {K : PySem.W.Frag} {mg : Str → Option Value} {w : Wd} {v : V} {x : Val} (R : Rep K mg w) (r : RV K w v x) (h : isLst w.S x = true) : tyV K "list" v w.H := by
  unfold isLst at h
  cases e : rd w.S x with
  | none => rw [e] at h; cases h
  | some d =>
    cases d <;> first | (rw [e] at h; cases h) | skip
    rename_i ds
    obtain ⟨p, xs, rfl, h1, _⟩ := R.list r e
    exact .inl ⟨rfl, xs, h1⟩
theorem ed_append (ho : ED X W o f) (he : ED X W e g) (hbase : attributeBase o "append" X.env (eval o X.env) = eval o X.env := by rfl)
    (hfew : ((backTo cpos (starEach [e] X.env)).all (fun x => !x.1) && (backToKw cpos (keywordEach [] X.env)).all (fun x => x.1.isSome) && decide (([e] : List Expr).length + ([] : List Keyword).length + (if ([] : List Keyword).isEmpty then 0 else 1) < 30)) = true := by rfl)
    (hline : (apos.endLine == cpos.line) = true := by rfl) (hs : starEach [e] X.env = (false, eval e X.env) :: starEach [] X.env := by rfl) (hplain : (backTo cpos (starEach [] X.env)).any (·.1) = false := by rfl) :
    ED X W (.Call (.Attribute o "append" apos) [e] [] cpos) (dApp f g) :=
  PE.imp (pe_bm PySem.F.plainAttrs_list PySem.F.slot_list_append PySem.F.type_list_append mt_append ho (pa_cons he pa_nil hs) hbase hfew hline hs hplain) fun σ H Q ⟨α, S, ρ, R, re, q⟩ => by
    refine ⟨α, S, ρ, R, re, After.imp (After.split (rel := RV X.K) q) (fun v H1 ⟨α1, S1, x, e1, R1, r1, q1⟩ => ?_) fun _ _ _ z => z⟩
    split at q1
    · rename_i hi
      refine ⟨rd_lst R1 r1 hi, α1, S1, ρ, R1, re.mono e1, After.imp (After.split (rel := RV X.K) q1) (fun u H2 ⟨α2, S2, y, e2, R2, r2, q2⟩ => ?_) fun _ _ _ z => z⟩
      cases x with
      | d z => exact False.elim q2
      | c l =>
        obtain ⟨S3, d, e3, R3, dv, q3⟩ := frz_ok (w := ⟨α2, S2, H2⟩) R2 r2 q2
        obtain ⟨p, hp, rfl⟩ := r1
        cases ep : push l d S3 with
        | none => rw [ep] at q3; exact False.elim q3
        | some T =>
          rw [ep] at q3
          obtain ⟨acc, h1, h2, R4, e4⟩ := push_ok (w := ⟨α2, S3, H2⟩) R3 (e2.at_ hp) dv ep
          exact ⟨p, acc, u, rfl, rfl, h1, h2, q3 _ _ _ e4 R4 .non⟩
    · exact False.elim q1
/-! ### x[i] = v -/
/-- the list or dict cell with an item set -/
def putM (x : Val) (i d : D) (S : List Cell) : Option (List Cell) := match x with
  | .c l => match S[l]? with
    | some (.lst ds) => match i with
      | .int k => match ixN ds.length k with
        | some j => some (S.set l (.lst (ds.set j d)))
        | none => none
      | _ => none
    | _ => none
  | .d _ => none
def sPut (f fo fi : Env' → M Val) : SD := fun ρ S => (f ρ S).then_ ρ fun v S1 => (fo ρ S1).then_ ρ fun x S2 => (fi ρ S2).then_ ρ fun i S3 => match rd S3 i with
  | some k => match frz v S3 with
    | .ok d S4 => match putM x k d S4 with
      | some T => .nx ρ T
      | none => .st
    | _ => .st
  | none => .st
theorem sd_put {i : Expr} {fo fi : Env' → M Val} (he : ED X W e f) (ho : ED X W o fo) (hi : ED X W i fi)
    (ha : ∀ v, assign (.Subscript o i p) X.env v = (do
      let ov ← holding [v] (eval o X.env)
      let iv ← holding [v, ov] (eval i X.env)
      standAt p
      holding [v, ov, iv] (setItem ov iv v)
      release [v, ov, iv] []) := by intro _; rfl) (hs : swapsWithSole [.Subscript o i p] e pos.line X.env = pure false := by rfl) (hw : swappedStores [.Subscript o i p] e X.env = pure none := by rfl)
    (h1 : (assignEach [.Subscript o i p] X.env).map (·.2) = [assign (.Subscript o i p) X.env] := by rfl) : StD X W (.Assign [.Subscript o i p] e pos) (sPut f fo fi) :=
  PS.imp (ps_asg he (pg_sub ho hi set_list ha) hs hw h1) fun D σ H ⟨α, S, ρ, R, re, q⟩ => by
    refine ⟨α, S, ρ, R, re, After.imp (AfterS.split (rel := RV X.K) q re) (fun v H1 ⟨α1, S1, x1, e1, R1, r1, re1, q1⟩ => ?_) fun _ _ _ z => z⟩
    refine ⟨α1, S1, ρ, R1, re1, After.imp (AfterS.split (rel := RV X.K) q1 re1) (fun v2 H2 ⟨α2, S2, x2, e2, R2, r2, re2, q2⟩ => ?_) fun _ _ _ z => z⟩
    refine ⟨α2, S2, ρ, R2, re2, After.imp (AfterS.split (rel := RV X.K) q2 re2) (fun v3 H3 ⟨α3, S3, x3, e3, R3, r3, re3, q3⟩ => ?_) fun _ _ _ z => z⟩
    cases ek : rd S3 x3 with
    | none => rw [ek] at q3; exact False.elim q3
    | some k =>
      rw [ek] at q3
      dsimp only at q3
      cases ez : frz x1 S3 with
      | st => rw [ez] at q3; exact False.elim q3
      | ex z S => rw [ez] at q3; exact False.elim q3
      | ok d S4 =>
        rw [ez] at q3
        dsimp only at q3
        obtain ⟨e4, R4, dv⟩ := frz_to (w := ⟨α3, S3, H3⟩) R3 ((r1.mono e2).mono e3) ez
        cases ep : putM x2 k d S4 with
        | none => rw [ep] at q3; exact False.elim q3
        | some T =>
          rw [ep] at q3
          cases x2 with
          | d z => cases ep
          | c l =>
            unfold putM at ep
            cases hds : S4[l]? with
            | none => simp only [hds] at ep; cases ep
            | some cc =>
              cases cc <;> (simp only [hds] at ep) <;> first | (cases ep; done) | skip
              rename_i ds
              cases k <;> first | (cases ep; done) | skip
              rename_i kk
              cases hj : ixN ds.length kk with
              | none => simp only [hj] at ep; cases ep
              | some j =>
                simp only [hj] at ep
                cases ep
                obtain ⟨pa, hp, rfl⟩ := r2
                have hp' : α3[l]? = some pa := e3.at_ hp
                cases R3.int r3 ek
                obtain ⟨xs, g1, g2⟩ := R4.at_ l pa _ hp' hds
                have g3 := R4.write (c' := .lst (ds.set j d)) (o := .lst (xs.set j v)) hp' hds rfl rfl ⟨_, upd_same, g2.set dv j⟩
                exact ⟨pa, xs, kk, j, rfl, rfl, g1, by rw [g2.length]; exact hj, q3 _ _ σ (e4.trans g3.2) g3.1 ((re3.mono e4).mono g3.2)⟩
/-! ### texts joined -/
def asStr : D → Option Str
  | .str x => some x
  | _ => none
theorem strs_dv {K : PySem.W.Frag} {F : Hp} : ∀ {vs : List V} {ds : List D} {ys : List Str}, DvAll K F vs ds → ds.mapM asStr = some ys → vs = ys.map V.str
  | _, _, _, .nil, e => by cases e; rfl
  | _, _, ys, .cons (d := d) (ds := ds) r t, e => by
    rw [List.mapM_cons] at e
    cases d with
    | str b =>
      cases em : ds.mapM asStr with
      | none => simp [asStr, em] at e
      | some bs' =>
        simp [asStr, em] at e
        subst e
        cases r
        rw [strs_dv t em]
        rfl
    | _ => cases e
def oJoin (a : Str) : D → Option D
  | .list xs => (xs.mapM asStr).bind fun ys => if (ys.map (·.length)).sum + ys.length * a.length ≤ 16777216 then some (.str (Txt.join a ys)) else none
  | .tuple xs => (xs.mapM asStr).bind fun ys => if (ys.map (·.length)).sum + ys.length * a.length ≤ 16777216 then some (.str (Txt.join a ys)) else none
  | _ => none
def dJoin (f g : Env' → M Val) : Env' → M Val := fun ρ => (f ρ).bind fun x S => match rd S x with
  | some (.str a) => (g ρ S).bind (on1 (oJoin a))
  | _ => .st
theorem ed_join (ho : ED X W o f) (he : ED X W e g) (hs : starEach [e] X.env = [(false, eval e X.env)] := by rfl) (hbase : attributeBase o "join" X.env (eval o X.env) = eval o X.env := by rfl) (hline : (apos.endLine == pos.line) = true := by rfl) :
    ED X W (.Call (.Attribute o "join" apos) [e] [] pos) (dJoin f g) := PE.imp (pe_join ho he hs hbase hline) fun σ H Q ⟨α, S, ρ, R, re, q⟩ => by
  refine ⟨α, S, ρ, R, re, After.imp (After.split (rel := RV X.K) q) (fun v H1 ⟨α1, S1, x, e1, R1, r1, q1⟩ => ?_) fun _ _ _ z => z⟩
  split at q1
  · rename_i a ea
    cases R1.str r1 ea
    refine ⟨⟨a, rfl⟩, α1, S1, ρ, R1, re.mono e1, After.imp (After.split (rel := RV X.K) q1) (fun u H2 ⟨α2, S2, y, e2, R2, r2, q2⟩ => ?_) fun _ _ _ z => z⟩
    obtain ⟨w, x, z, da, c, rfl, e3, Rw, rx, ea2, ec, ans⟩ := on1_ok (w := ⟨α2, S2, H2⟩) R2 r2 q2
    cases e3
    unfold oJoin at ec
    split at ec
    · obtain ⟨ys, e4, e5⟩ := Option.bind_eq_some_iff.mp ec
      split at e5
      · rename_i hz
        cases e5
        obtain ⟨p, xs, rfl, h1, g1⟩ := Rw.list rx ea2
        cases strs_dv g1 e4
        exact ⟨a, p, ys, rfl, rfl, .inl h1, hz, ans.here Rw (.str _)⟩
      · cases e5
    · obtain ⟨ys, e4, e5⟩ := Option.bind_eq_some_iff.mp ec
      split at e5
      · rename_i hz
        cases e5
        obtain ⟨p, xs, rfl, h1, g1, _⟩ := Rw.tuple rx ea2
        cases strs_dv g1 e4
        exact ⟨a, p, ys, rfl, rfl, .inr h1, hz, ans.here Rw (.str _)⟩
      · cases e5
    · cases ec
  · exact False.elim q1
/-! ### isinstance of a built-in class -/
def tyD : D → String
  | .none => "NoneType"
  | .bool _ => "bool"
  | .int _ => "int"
  | .str _ => "str"
  | .list _ => "list"
  | .tuple _ => "tuple"
  | .dict _ => "dict"
theorem tyx_dv {K : PySem.W.Frag} {H : Hp} {v : V} {d : D} (h : Dv K H v d) : TyX K H v (.type (tyD d)) := by
  cases h with
  | non => exact .base .non
  | bl b => exact .base (.bl b)
  | int i => exact .base (.int i)
  | str x => exact .base (.str x)
  | lst s _ =>
    rcases s with (s | ⟨o, s⟩) | s
    · exact .base (.lst s)
    · exact .base (.frz s)
    · obtain ⟨o, its, n, s1, s2, _⟩ := s
      exact .kList s1 s2
  | tup s _ =>
    rcases s with ⟨o, s, _⟩ | s
    · exact .fTuple s
    · obtain ⟨o, its, n, s1, _, s2, _⟩ := s
      exact .kTuple s1 s2
  | dct s _ => exact .base (.dK s)
/-- is it of the built-in class T? -/
def isB (T : String) (d : D) : Bool := match d with
  | .none => false
  | .bool _ => T == "bool" || T == "int"
  | .int _ => T == "int"
  | .str _ => T == "str"
  | .list _ => T == "list"
  | .tuple _ => T == "tuple"
  | .dict _ => T == "dict"
/-- the class's own name and the wanted one tell the answer -/
def isN (t T : String) : Bool := t == T || (t == "bool" && T == "int")
theorem kit_isN {t T : String} (ht : t ∈ ["NoneType", "bool", "int", "str", "list", "tuple", "dict"]) (hT : T ∈ ["bool", "int", "str", "list", "tuple", "dict"]) : kitB t T = some (isN t T) := by
  have h : (["NoneType", "bool", "int", "str", "list", "tuple", "dict"].all fun t => ["bool", "int", "str", "list", "tuple", "dict"].all fun T => decide (kitB t T = some (isN t T))) = true := by decide +kernel
  have h1 := List.all_eq_true.mp h t ht
  exact of_decide_eq_true (List.all_eq_true.mp h1 T hT)
theorem tyD_mem (d : D) : tyD d ∈ ["NoneType", "bool", "int", "str", "list", "tuple", "dict"] := by cases d <;> simp [tyD]
theorem isN_isB {T : String} (hT : T ∈ ["bool", "int", "str", "list", "tuple", "dict"]) (d : D) : isN (tyD d) T = isB T d := by
  simp only [List.mem_cons, List.not_mem_nil, or_false] at hT
  rcases hT with rfl | rfl | rfl | rfl | rfl | rfl <;> cases d <;> rfl
theorem kit_isB {T : String} (hT : T ∈ ["bool", "int", "str", "list", "tuple", "dict"]) (d : D) : kitB (tyD d) T = some (isB T d) := by
  rw [kit_isN (tyD_mem d) hT, isN_isB hT]
def oIsB (T : String) : D → Option D := fun d => some (.bool (isB T d))
theorem ed_isB {T : String} {x p2 p3} {xT : Str} (hT : T ∈ ["bool", "int", "str", "list", "tuple", "dict"]) (hm : X.mg "isinstance" = none) (hmT : X.mg xT = none) (hbT : bootBuiltins xT = some (.type T)) (ha : ED X W a f) (hx : x = Str.ofString "isinstance") (hg : Gl X x := by rfl) (hgT : Gl X xT := by rfl)
    (hnT : xT ≠ "__name__" := by decide) (hdT : (xT == ("__debug__" : Str)) = false := by decide)
    (he : starEach [a, .Name xT p3] X.env = (false, eval a X.env) :: starEach [.Name xT p3] X.env := by rfl) (he2 : starEach [.Name xT p3] X.env = (false, eval (.Name xT p3) X.env) :: starEach [] X.env := by rfl) (hpl : (backTo pos (starEach [.Name xT p3] X.env)).any (·.1) = false := by rfl) :
    ED X W (.Call (.Name x p2) [a, .Name xT p3] [] pos) (dFn1 (oIsB T) f) := by
  subst hx
  refine PE.imp (pe_callB (call_isi (X := X)) hg hm boot_isinstance' (pa_cons ha (pa_cons (pe_bltn hgT hmT hbT (v := .ty T) rfl hnT hdT) pa_nil he2) he) (by decide) (by decide) he hpl) fun σ H Q ⟨α, S, ρ, R, re, q⟩ => ⟨α, S, ρ, R, re, After.imp (After.split (rel := RV X.K) q) (fun v H1 ⟨α1, S1, x, e1, R1, r1, q1⟩ => ?_) fun _ _ _ z => z⟩
  obtain ⟨w, y, z, da, c, rfl, e3, Rw, rx, ea2, ec, ans⟩ := on1_ok (w := ⟨α1, S1, H1⟩) R1 r1 q1
  cases e3
  cases ec
  exact ⟨v, .ty T, .type (tyD da), .type T, _, rfl, .ty T, tyx_dv (Rw.any rx ea2), kit_ty (kit_isB hT da), ans.here Rw (.bl _)⟩
where boot_isinstance' : bootBuiltins "isinstance" = some (.builtin "isinstance") := by decide +kernel
end
end Zz
set_option maxRecDepth 100000
set_option maxHeartbeats 4000000
namespace Zz
open PySem PySem.Spec PyProof.Rows L2
/-! ### an except clause's test, whatever its form -/
/-- t, asked of an exception of the class c, answers f c; objects may be laid meanwhile -/
structure Tst (X : Cx) (t : Expr) (f : Value → Option Bool) : Prop where
  run : ∀ (a : Addr) (pn : List (Addr × Obj)) (σ : L2.St) (H : Hp) (s : Shared) (Q : Value → Shared → Prop) (E : Value → Shared → Prop) (c : Value) (b : Bool) (oe : Obj), Inv (X.suite a pn) [] σ H s → s.heap.get? a = some oe → oe.cls = c → f c = some b →
    (∀ u h', (∀ q o, s.heap.get? q = some o → h'.get? q = some o) → PySem.W.Looks (model X.prog X.w) h' (excMatches (.ref a) u) b → Q u { s with heap := h' }) → wpAny (model X.prog X.w) (X.A.mark (some (.ref a))) (eval t X.env) Q E s
section
variable {X : Cx} {x : Str} {c : Value} {p : Pos}
theorem names_run (hc : Names X x c) {a : Addr} {pn : List (Addr × Obj)} {σ : L2.St} {H : Hp} {s : Shared} {Q : Value → Shared → Prop} {E : Value → Shared → Prop} (I : Inv (X.suite a pn) [] σ H s) (q : Q c s) : wpAny (model X.prog X.w) (X.A.mark (some (.ref a))) (eval (.Name x p) X.env) Q E s := by
  obtain ⟨h1, h2, h3 | ⟨h3, h4, h5⟩⟩ := hc
  · exact ld_glob (X := X.suite a pn) I h1 h3 q h2
  · exact ld_blt (X := X.suite a pn) I h1 h3 h4 q h5 h2
theorem looksT {M : Model} {a : Addr} {c : Value} {oe : Obj} {h : Heap} (e : h.get? a = some oe) (ec : oe.cls = c) : PySem.W.Looks M h (typeOf (.ref a)) c := fun A Q E s k q => wpAny_typeOf_ref (k _ _ e) (by rw [ec]; exact q)
theorem tst_name (hc : Names X x c) : Tst X (.Name x p) (fun k => PySem.W.exmOne X.K k c) where
  run := fun a pn σ H s Q E k b oe I ha hk hf hq => names_run hc I (hq c s.heap (fun _ _ z => z) (PySem.W.exm_one I.kIn (looksT ha hk) hf))
variable {x1 x2 x3 : Str} {c1 c2 c3 : Value} {p1 p2 p3 tpos : Pos} {kk : Nat}
theorem tst_two (n1 : Names X x1 c1) (n2 : Names X x2 c2) (hs1 : starEach [.Name x1 p1, .Name x2 p2] X.env = (false, eval (.Name x1 p1) X.env) :: starEach [.Name x2 p2] X.env := by rfl) (hs2 : starEach [.Name x2 p2] X.env = (false, eval (.Name x2 p2) X.env) :: starEach [] X.env := by rfl) :
    Tst X (.Tuple [.Name x1 p1, .Name x2 p2] kk tpos) (fun k => PySem.W.exmAny X.K k [c1, c2]) where
  run := fun a pn σ H s Q E k b oe I ha hk hf hq => by
    refine wpAny_Tuple (wpAny_items_cons (names_run n1 I (wpAny_items_cons (names_run n2 I (wpAny_items_nil ⟨by show _ + 1 ≤ sizeLine; rw [sizeLine_eq]; simp, ?_⟩)) hs2)) hs1)
    have kp : ∀ q o, s.heap.get? q = some o → (s.heap.push { cls := .type "tuple", data := .seq [c1, c2].toArray }).get? q = some o := fun _ _ z => Heap.get?_push_of_some _ z
    exact hq _ _ kp (PySem.W.exm_tup2 (I.kIn.keeps kp) ((looksT ha hk).keeps kp) (Heap.get?_push_size s.heap rfl) hf)
theorem tst_three (n1 : Names X x1 c1) (n2 : Names X x2 c2) (n3 : Names X x3 c3) (hs1 : starEach [.Name x1 p1, .Name x2 p2, .Name x3 p3] X.env = (false, eval (.Name x1 p1) X.env) :: starEach [.Name x2 p2, .Name x3 p3] X.env := by rfl) (hs2 : starEach [.Name x2 p2, .Name x3 p3] X.env = (false, eval (.Name x2 p2) X.env) :: starEach [.Name x3 p3] X.env := by rfl) (hs3 : starEach [.Name x3 p3] X.env = (false, eval (.Name x3 p3) X.env) :: starEach [] X.env := by rfl) :
    Tst X (.Tuple [.Name x1 p1, .Name x2 p2, .Name x3 p3] kk tpos) (fun k => PySem.W.exmAny X.K k [c1, c2, c3]) where
  run := fun a pn σ H s Q E k b oe I ha hk hf hq => by
    refine wpAny_Tuple (wpAny_items_cons (names_run n1 I (wpAny_items_cons (names_run n2 I (wpAny_items_cons (names_run n3 I (wpAny_items_nil ⟨by show _ + 1 ≤ sizeLine; rw [sizeLine_eq]; simp, ?_⟩)) hs3)) hs2)) hs1)
    have kp : ∀ q o, s.heap.get? q = some o → (s.heap.push { cls := .type "tuple", data := .seq [c1, c2, c3].toArray }).get? q = some o := fun _ _ z => Heap.get?_push_of_some _ z
    exact hq _ _ kp (PySem.W.exm_tup3 (I.kIn.keeps kp) ((looksT ha hk).keeps kp) (Heap.get?_push_size s.heap rfl) hf)
end
/-! ### an exception caught and kept -/
theorem excO_ok {P : Program} {w : World} {H : Hp} {h : Heap} {a : Addr} {cls : Value} {d : Option Addr} {oe : Obj} {vs : Array Value} (e : h.get? a = some oe) (z : Zc cls d oe) (q : oe.data = .fields vs) : ObjOk P w H h a (ExcO cls d a) :=
  ⟨⟨oe, vs, e, z, q⟩, ⟨oe, e⟩, fun _ _ ⟨o, v, h1, h2⟩ k => ⟨o, v, k o h1, h2⟩⟩
theorem flying_keep {B h h' : Heap} {l : List Env} {a : Addr} {Z : Obj → Prop} (f : HandSPX.FlyingZ B l a Z h) (k : ∀ q o, h.get? q = some o → h'.get? q = some o) : HandSPX.FlyingZ B l a Z h' := by
  obtain ⟨f1, f2, f3, oe, vs, T, oT, ts, g1, g2, g3, g4, g5, g6, g7, g8, g9⟩ := f
  exact ⟨fun b o e => k b o (f1 b o e), f2, Heap.FunFrames.of_keeps (fun b o e _ => ⟨o, k b o e, rfl⟩) f3, oe, vs, T, oT, ts, k _ _ g1, g2, g3, g4, g5, g6, k _ _ g7, g8, g9⟩
/-- what the clause wishes of an exception of the body: slot i is the clause's name, slot j keeps it -/
def wKeep (f : Value → Option Bool) (i j : Nat) (Wout : WX) (D : Ends) : WX := fun cls d σ H =>
  ∃ b, f cls = some b ∧ (b = true → ∀ a, H a = none → D.nx (((σ.set i (some (.ref a))).set j (some (.ref a))).set i none) (upd H a (ExcO cls d a))) ∧ (b = false → Wout cls d σ H)
/-- an object that no one tracked is tracked -/
theorem Inv.track {X : Cx} {pins : List (Addr × Obj)} {σ : L2.St} {H : Hp} {s : Shared} {a : Addr} {o : HO} (I : Inv X pins σ H s) (na : H a = none) (n0 : X.s_0.heap.get? a = none) (nL : a ≠ X.env.locals) (nc : ∀ x c, X.env.cells.lookup x = some c → c ≠ a) (np : ∀ p ∈ X.pn ++ pins, p.1 ≠ a)
    (new : ObjOk X.prog X.w (upd H a o) s.heap a o) : Inv X pins σ (upd H a o) s where
  ok := I.ok
  os := I.os
  bare := I.bare
  base := by
    have ne : ∀ {b : Addr} {u : Obj}, X.s_0.heap.get? b = some u → b ≠ a := fun {b u} e z => by rw [z, n0] at e; cases e
    refine ⟨I.base.keep, I.base.slot, fun b u e n q => ?_, I.base.there, fun b xs e => ?_, fun b u v e => ?_, fun b ps e => ?_⟩
    · rw [upd_ne (ne e)]; exact I.base.free b u e n q
    · have z := I.base.tups b xs e
      rw [upd_ne (ne_of_none z na)]; exact z
    · have z := I.base.frzs b u v e
      rw [upd_ne (ne_of_none z na)]; exact z
    · obtain ⟨m, z⟩ := I.base.tbls b ps e
      exact ⟨m, by rw [upd_ne (ne_of_none z na)]; exact z⟩
  loc := I.loc
  cell := I.cell
  free := by rw [upd_ne nL.symm]; exact I.free
  freeC := fun x c e => by rw [upd_ne (nc x c e)]; exact I.freeC x c e
  pin := fun p hp => by
    obtain ⟨h1, h2, h3⟩ := I.pin p hp
    exact ⟨h1, by rw [upd_ne (np p hp)]; exact h2, h3⟩
  hok := HOk.laidN I.hok (fun _ _ z => z) na new
  len := I.len
section
variable {X : Cx} {n m : Str} {i j : Nat} {body : List Stmt} {t : Expr} {f : Value → Option Bool} {pm pn' sp pos pos' : Pos} {tb : WX → TS} {Wout : WX}
theorem ps_try_keep (hs : X.stack = X.env :: X.outer) (hf : X.env.frame = some X.env.locals) (hex : X.ex = []) (hN : X.N.Nodup) (hi : X.N[i]? = some n) (hln : X.env.kindOf n = some .local) (hvn : Vis X.env.scope n) (hj : X.N[j]? = some m) (hlm : X.env.kindOf m = some .local) (hij : i ≠ j) (ht : Tst X t f) (tk : Takes X Wout)
    (hdn : (n == ("__debug__" : Str)) = false := by decide) (hcn : (n == ("__classdict__" : Str)) = false := by decide) (hsw : swapsWith (.Name n pn') (some (.Name m pm)) sp.line X.env = pure false := by rfl)
    (hb : ∀ (W : WX) (pn : List (Addr × Obj)) (xe : Value → Shared → Prop), Takes (X.tr pn xe) W → PassesOwn (model X.prog X.w) X.A X.env xe → PSs (X.tr pn xe) body (tb W)) :
    PS X (.Try body [.ExceptHandler (some t) (some n) [.Assign [.Name m pm] (.Name n pn') sp] pos'] [] [] pos) (fun D σ H => tb (wKeep f i j Wout D) D σ H) := by
  refine ⟨fun pins s σ H D I h => wpAny_Try_except ?_⟩
  have hfr : X.A.frames = some (X.env :: X.outer) := by rw [I.ok.frames, hs]
  have out := (hb (wKeep f i j Wout D) (X.pn ++ pins) (fun e s₁ => wpAny (model X.prog X.w) X.A (noteFrame e X.env) (fun _ s₂ => wpAny (model X.prog X.w) X.A (setFlight e none) (fun _ s₃ =>
    wpAny (model X.prog X.w) X.A (handleBy e X.env [.ExceptHandler (some t) (some n) [.Assign [.Name m pm] (.Name n pn') sp] pos']) (SP X pins D) X.xe s₃) X.xe s₂) X.xe s₁) (fun u s1 air => ?_) PassesOwn.looking).run [] s σ H D (I.toTry _) h
  · refine wpAny_mono out (fun fl s1 told => ?_) fun _ _ z => z
    match fl, told with
    | .next, ⟨σ1, H1, J, q⟩ => exact wpAny_execs_nil ⟨σ1, H1, J.ofTry I.ok, q⟩
    | .brk, ⟨σ1, H1, J, q⟩ => exact ⟨σ1, H1, J.ofTry I.ok, q⟩
    | .cont, ⟨σ1, H1, J, q⟩ => exact ⟨σ1, H1, J.ofTry I.ok, q⟩
    | .ret u, ⟨v, σ1, H1, J, r, q⟩ => exact ⟨v, σ1, H1, J.ofTry I.ok, r, q⟩
  -- the body has raised
  obtain ⟨a, B, sI, pins', σ1, H1, cls, d, rfl, J0, nb, up, sky, na, os, ag, b, hb1, hyes, hno⟩ := air
  have J : Inv X pins σ1 H1 sI := J0.ofTry I.ok
  show wpAny (model X.prog X.w) X.A (noteFrame (.ref a) X.env) _ _ _
  refine Sky.land Zc.steady hfr hf (by rw [← hs]; exact sky) fun h3 fl up3 => ?_
  have J3 : Inv X pins σ1 H1 { s1 with heap := h3 } := J.landed nb fl.1 (up.trans up3) os ag
  obtain ⟨oe, vs, hoe, hz, hd⟩ := fl.there
  have nfr : a ∉ frs (X.env :: X.outer) := fun hm => by
    obtain ⟨_, o', e', hnf⟩ := fl.2.2.1.mem hm
    rw [hoe] at e'
    cases e'
    exact hnf _ hd
  have nL : a ≠ X.env.locals := fun z => nfr (List.mem_filterMap.mpr ⟨X.env, List.mem_cons_self, by rw [hf, z]⟩)
  have nF : a ∉ X.fs := fun hm => by
    obtain ⟨e, he, q⟩ := List.mem_filterMap.mp hm
    exact nfr (List.mem_filterMap.mpr ⟨e, List.mem_cons_of_mem _ he, q⟩)
  have nI : sI.heap.get? a = none := by
    cases e : sI.heap.get? a with
    | none => rfl
    | some o =>
      have z := nb a o e (by rw [hs]; exact nfr)
      rw [fl.2.1] at z
      cases z
  refine PySem.W.exc_clause_as (ht.run a ((a, oe) :: (X.pn ++ pins)) σ1 H1 _ _ _ cls b oe (J3.suite hoe hd na nL nF) hoe hz.1 hb1 fun u h4 k4 look => ⟨b, look, ?_⟩)
  have fl4 := flying_keep fl k4
  have up4 : sI.heap.UpToSlots h4 := (up.trans up3).trans (Heap.UpToSlots.of_keeps k4)
  cases b with
  | true =>
    rw [if_pos rfl]
    refine HandSPX.lands_againZ (s := { s1 with heap := h4 }) fl4 fun h5 fl5 up5 => ?_
    have J5 : Inv X pins σ1 H1 { s1 with heap := h5 } := J.landed nb fl5.1 (up4.trans up5) os ag
    obtain ⟨oe5, vs5, hoe5, hz5, hd5⟩ := fl5.there
    have S5 := J5.suite hoe5 hd5 na nL nF
    refine store_ok (X := X.suite a ((a, oe5) :: (X.pn ++ pins))) (v := .ref a) S5 hN hi (.inl hln) rfl (fun s6 S6 => ?_) (.inr hln)
    have suite : PSs (X.suite a ((a, oe5) :: (X.pn ++ pins))) [.Assign [.Name m pm] (.Name n pn') sp] (tAsg (tVar i) (gName j)) := pss_one (ps_set (X := X.suite a ((a, oe5) :: (X.pn ++ pins))) hN hj (.inl hlm) (pe_var (X := X.suite a ((a, oe5) :: (X.pn ++ pins))) hi hvn hdn hcn) hsw (.inr hlm))
    have hlen : i < σ1.length := by rw [J.len]; exact (List.getElem?_eq_some_iff.mp hi).1
    refine wpAny_mono (suite.run [] s6 _ H1 { nx := fun σ2 H2 => σ2 = (σ1.set i (some (.ref a))).set j (some (.ref a)) ∧ H2 = H1, rt := fun _ _ => False } S6 ⟨.ref a, List.getElem?_set_self hlen, rfl, rfl⟩) (fun fl7 s7 told => ?_) fun _ _ z => False.elim z
    match fl7, told with
    | .next, ⟨σ7, H7, S7, e7, e8⟩ =>
      subst e7 e8
      refine gone_ok (X := X.suite a ((a, oe5) :: (X.pn ++ pins))) S7 hN hi hln fun s8 S8 => ?_
      have pa := (S8.pin (a, oe5) (by simp)).1
      have J8 : Inv X pins (((σ1.set i (some (.ref a))).set j (some (.ref a))).set i none) H7 s8 := S8.unsuite I.ok
      refine ⟨_, _, Inv.track J8 na ?_ nL (fun x c e z => ?_) (fun p hp z => ?_) (excO_ok (cls := cls) (d := d) pa hz5 hd5), hyes rfl a na⟩
      · cases e : X.s_0.heap.get? a with
        | none => rfl
        | some o =>
          obtain ⟨o', q⟩ := J.base.there a o e (by rw [hex]; exact fun z => nomatch z)
          rw [nI] at q
          cases q
      · obtain ⟨v, o, ho, hv⟩ := J8.cell x c e
        have pa' : s8.heap.get? a = some oe5 := pa
        rw [z, pa'] at ho
        cases ho
        rw [hd5] at hv
        cases hv
      · have q := (J.pin p hp).1
        rw [z, nI] at q
        cases q
    | .brk, ⟨_, _, _, q⟩ => exact False.elim q
    | .cont, ⟨_, _, _, q⟩ => exact False.elim q
    | .ret u, ⟨_, _, _, _, _, q⟩ => exact False.elim q
  | false =>
    rw [if_neg Bool.false_ne_true]
    refine wpAny_handleBy_nil ?_
    obtain ⟨k1, k2, k3, oe4, vs4, T, oT, ts', he, hz4, hd4, h1, hr⟩ := id fl4
    have fin : wpAny (model X.prog X.w) X.A (setFlight (.ref a) X.env.frame) (fun _ s4 => wpAny (model X.prog X.w) X.A (throw (.ref a) : Sem Flow) (SP X pins D) X.xe s4) X.xe { s1 with heap := h4 } := by
      rw [hf]
      refine HandSPX.setFlight_upZ (s := { s1 with heap := h4 }) fl4 fun h5 held up5 => wpAny_throw (tk _ _ ?_)
      exact ⟨a, B, sI, pins, σ1, H1, cls, d, rfl, J, nb, up4.trans up5, .inr (.inr (by rw [hs]; exact held)), na, os, ag, hno rfl⟩
    unfold PySem.passOn
    refine wpAny_bind (wpAny_field (s := { s1 with heap := h4 }) he hd4 h1 ?_)
    rw [if_neg (show ¬ ((Value.ref T == Value.none) = true) from by simp)]
    first
      | exact wpAny_bind (wpAny_pure (wpAny_bind fin))
      | exact wpAny_bind fin
end
end Zz
set_option maxRecDepth 100000
set_option maxHeartbeats 4000000
namespace Zz
open PySem PySem.Spec PyProof.Rows L2
section
variable {X : Cx} {n : Nat} {W : WX} {pos p p2 p3 : Pos} {a b e : Expr} {es : List Expr} {f g h : Env' → M Val} {x : Str}
/-! ### raise -/
def sRaise (nm : Str) (g : Env' → M (List Val)) : SD := fun ρ S => (g ρ S).then_ ρ fun vs S' => if vs.length ≤ 16777216 then .ex ⟨nm, []⟩ ρ S' else .st
theorem sd_raise {C : Addr} {bmB : List Value} {B newId initId : String} {g : Env' → M (List Val)} (K : CxOk X n) (tk : Takes X W) (F : ExcBaseFacts B newId initId bmB) (q : PySem.W.excIn X.K C bmB newId = true) (gC : X.mg x = some (.ref C)) (kC : PySem.W.keepIn X.K (.ref C) = true) (r : Raises X (.ref C)) (ha : AD X W (e :: es) g) (hg : Gl X x := by rfl) (hdb : (x == ("__debug__" : Str)) = false := by decide)
    (he : starEach (e :: es) X.env = (false, eval e X.env) :: starEach es X.env := by rfl) (hpl : (backTo p2 (starEach es X.env)).any (·.1) = false := by rfl) : StD X W (.Raise (some (.Call (.Name x p) (e :: es) [] p2)) none pos) (sRaise x g) :=
  PS.imp (ps_raise K.hc tk (pmk_ownA F q gC kC r hg ha hdb he hpl)) fun D σ H ⟨α, S, ρ, R, re, q⟩ => ⟨α, S, ρ, R, re, After.imp (AfterS.split (rel := RVs X.K) q re) (fun vs H1 ⟨α1, S1, xs, e1, R1, r1, re1, q1⟩ => by
    split at q1
    · rename_i hz
      exact ⟨by rw [sizeLine_eq, r1.length]; exact hz, q1 α1 H1 σ _ _ (Ext.refl _) R1 re1 ⟨C, gC, rfl, rfl⟩⟩
    · exact False.elim q1) fun _ _ _ z => z⟩
/-! ### try: .. except T as n: m = n -/
def sKeep (body : SD) (f : Str → Option Bool) (i j : Nat) : SD := fun ρ S => match body ρ S with
  | .ex y ρ' S' => (match f y.cls with
    | some true => .nx (((ρ'.set i (some (.c S'.length))).set j (some (.c S'.length))).set i none) (S' ++ [.exc y])
    | some false => .ex y ρ' S'
    | none => .st)
  | .st => .st
  | .nx ρ' S' => .nx ρ' S'
  | .rt v S' => .rt v S'
  | .bk ρ' S' => .bk ρ' S'
  | .ct ρ' S' => .ct ρ' S'
theorem Rep.cellx {K : PySem.W.Frag} {mg : Str → Option Value} {w : Wd} (R : Rep K mg w) {q : Addr} (hp : w.H q = Option.none) {o : HO} {c : Cell} (hc : c.mut = false) (ok : ∀ F, Same w.F F → F q = some o → CellOk K mg F (upd w.H q o) q c) :
    Rep K mg ⟨w.α ++ [q], w.S ++ [c], upd w.H q o⟩ ∧ Ext w ⟨w.α ++ [q], w.S ++ [c], upd w.H q o⟩ := by
  have hm := R.fresh hp
  have hnot : q ∉ w.α := fun z => by
    obtain ⟨o, e⟩ := R.al q z
    rw [hp] at e; cases e
  have em : Wd.muts ⟨w.α ++ [q], w.S ++ [c], upd w.H q o⟩ = w.muts := by
    rw [muts_snoc R.len, hc]; simp; rfl
  have eF : ∀ u, Wd.F ⟨w.α ++ [q], w.S ++ [c], upd w.H q o⟩ u = if u ∈ w.muts then Option.none else upd w.H q o u := fun u => by
    unfold Wd.F
    rw [em]
  have e : Same w.F (Wd.F ⟨w.α ++ [q], w.S ++ [c], upd w.H q o⟩) := fun b u h => by
    rw [eF]
    unfold Wd.F at h
    split at h
    · cases h
    · rename_i hb
      rw [if_neg hb, upd_ne (ne_of_none h hp)]
      exact h
  refine ⟨⟨by simp [R.len], ?_, fun b hb => ?_, fun l b c' h1 h2 => ?_⟩, List.prefix_append _ _, e⟩
  · exact List.nodup_append.mpr ⟨R.nd, by simp, fun b hb b' hb' z => by
      have : b' = q := by simpa using hb'
      subst this; subst z; exact hnot hb⟩
  · rcases List.mem_append.mp hb with hb | hb
    · obtain ⟨u, hu⟩ := R.al b hb
      exact ⟨u, (upd_ne (ne_of_none hu hp)).trans hu⟩
    · have z : b = q := by simpa using hb
      subst z
      exact ⟨o, upd_same⟩
  · by_cases hl : l < w.α.length
    · have h1' : w.α[l]? = some b := by
        have : (w.α ++ [q])[l]? = some b := h1
        rwa [List.getElem?_append_left hl] at this
      have h2' : w.S[l]? = some c' := by
        have : (w.S ++ [c])[l]? = some c' := h2
        rwa [List.getElem?_append_left (by rw [← R.len]; exact hl)] at this
      exact (R.at_ l b c' h1' h2').mono e fun m => upd_ne fun z => hm (by rw [← z]; exact (mem_muts R.len).mpr ⟨l, c', h1', h2', m⟩)
    · have h1' : ([q] : List Addr)[l - w.α.length]? = some b := by
        have : (w.α ++ [q])[l]? = some b := h1
        rwa [List.getElem?_append_right (by omega)] at this
      have h2' : ([c] : List Cell)[l - w.S.length]? = some c' := by
        have : (w.S ++ [c])[l]? = some c' := h2
        rwa [List.getElem?_append_right (by rw [← R.len]; omega)] at this
      obtain ⟨h3, _⟩ := List.getElem?_eq_some_iff.mp h1'
      have hz : l - w.α.length = 0 := by simpa using h3
      have hz2 : l - w.S.length = 0 := by rw [← R.len]; exact hz
      rw [hz] at h1'; rw [hz2] at h2'
      have e1 : q = b := by simpa using h1'
      have e2 : c = c' := by simpa using h2'
      subst e1 e2
      refine ok _ e ?_
      rw [eF, if_neg hm, upd_same]
theorem sd_keep {nn m : Str} {i j : Nat} {body : List Stmt} {t : Expr} {F : Value → Option Bool} {fe : Str → Option Bool} {fb : SD} {pm pn' sp pos' : Pos} (hs : X.stack = X.env :: X.outer) (hf : X.env.frame = some X.env.locals) (hex : X.ex = []) (hN : X.N.Nodup) (tk : Takes X W) (ht : Tst X t F)
    (hF : ∀ y b, fe y = some b → ∀ C, X.mg y = some (.ref C) → F (.ref C) = some b) (hb : ∀ (W : WX) (pn : List (Addr × Obj)) (xe : Value → Shared → Prop), Takes (X.tr pn xe) W → PassesOwn (model X.prog X.w) X.A X.env xe → BkD (X.tr pn xe) W body fb)
    (hi : X.N[i]? = some nn := by rfl) (hln : X.env.kindOf nn = some .local := by rfl) (hvn : Vis X.env.scope nn := by first | exact Or.inl rfl | exact Or.inr (Or.inl rfl) | exact Or.inr (Or.inr rfl)) (hj : X.N[j]? = some m := by rfl) (hlm : X.env.kindOf m = some .local := by rfl) (hij : i ≠ j := by decide)
    (hdn : (nn == ("__debug__" : Str)) = false := by decide) (hcn : (nn == ("__classdict__" : Str)) = false := by decide) (hsw : swapsWith (.Name nn pn') (some (.Name m pm)) sp.line X.env = pure false := by rfl) :
    StD X W (.Try body [.ExceptHandler (some t) (some nn) [.Assign [.Name m pm] (.Name nn pn') sp] pos'] [] [] pos) (sKeep fb fe i j) :=
  PS.imp (ps_try_keep (tb := fun W => tS X.K X.mg W fb) hs hf hex hN hi hln hvn hj hlm hij ht tk hdn hcn hsw hb) fun D σ H ⟨α, S, ρ, R, re, q⟩ => ⟨α, S, ρ, R, re, by
    unfold sKeep at q
    cases er : fb ρ S with
    | st => rw [er] at q; exact q
    | nx ρ' S' => rw [er] at q; exact q
    | bk ρ' S' => rw [er] at q; exact q
    | ct ρ' S' => rw [er] at q; exact q
    | rt v S' => rw [er] at q; exact q
    | ex y ρ' S' =>
      rw [er] at q
      dsimp only at q
      intro α1 H1 σ1 cls d e1 R1 re1 rx
      obtain ⟨C, hC, rfl, hfs⟩ := rx
      cases ef : fe y.cls with
      | none => rw [ef] at q; exact False.elim q
      | some b =>
        rw [ef] at q
        refine ⟨b, hF _ _ ef C hC, fun hbt a na => ?_, fun hbf => ?_⟩
        · subst hbt
          obtain ⟨R2, e2⟩ := R1.cellx na (o := ExcO (.ref C) d a) (c := .exc y) rfl fun F eF h1 => ⟨C, d, hC, h1, hfs.mono eF⟩
          have ra : RV X.K ⟨α1 ++ [a], S' ++ [.exc y], upd H1 a (ExcO (.ref C) d a)⟩ (.ref a) (.c S'.length) := ⟨a, by
            show (α1 ++ [a])[S'.length]? = some a
            rw [List.getElem?_append_right (by rw [R1.len]; exact Nat.le_refl _), R1.len, Nat.sub_self]; rfl, rfl⟩
          exact q _ _ _ (e1.trans e2) R2 ((((re1.mono e2).set ra i).set ra j).del i none)
        · subst hbf
          exact q _ _ _ _ _ e1 R1 re1 ⟨C, hC, rfl, hfs⟩⟩
/-! ### e is None, e an exception or data -/
def noneV (S : List Cell) : Val → Option Bool
  | .d d => some (isNon d)
  | .c l => if l < S.length then some false else none
def dNone (k : Bool) (f : Env' → M Val) : Env' → M Val := fun ρ => (f ρ).bind fun x S => match noneV S x with
  | some b => .ok (.d (.bool (b == k))) S
  | none => .st
theorem noneV_ok {K : PySem.W.Frag} {mg : Str → Option Value} {w : Wd} {v : V} {x : Val} {b : Bool} (R : Rep K mg w) (r : RV K w v x) (h : noneV w.S x = some b) : decide (v = V.non) = b := by
  cases x with
  | d d =>
    cases h
    exact dv_non r
  | c l =>
    obtain ⟨a, _, rfl⟩ := r
    have h' : (if l < w.S.length then some false else none) = some b := h
    by_cases z : l < w.S.length
    · rw [if_pos z] at h'
      cases h'
      simp
    · rw [if_neg z] at h'
      cases h'
theorem noneQ {σ : L2.St} {H : Hp} {Q : VK} (q : tD X.K X.mg W (dNone true f) σ H Q) : tOp (fun x y H Q => y = .non ∧ Q (.bl (decide (x = .non))) H) (tD X.K X.mg W f) (tC .non) σ H Q := by
  obtain ⟨α, S, ρ, R, re, q⟩ := q
  refine ⟨α, S, ρ, R, re, After.imp (After.split (rel := RV X.K) q) (fun v H1 ⟨α1, S1, x, e1, R1, r1, q1⟩ => ?_) fun _ _ _ z => z⟩
  cases en : noneV S1 x with
  | none => rw [en] at q1; exact False.elim q1
  | some b =>
    rw [en] at q1
    refine ⟨rfl, ?_⟩
    rw [noneV_ok (w := ⟨α1, S1, H1⟩) R1 r1 en]
    dsimp only at q1
    have z : (b == true) = b := by cases b <;> rfl
    rw [z] at q1
    exact q1 _ _ _ (Ext.refl _) R1 (.bl b)
theorem nonneQ {σ : L2.St} {H : Hp} {Q : VK} (q : tD X.K X.mg W (dNone false f) σ H Q) : tOp (fun x y H Q => y = .non ∧ Q (.bl (!decide (x = .non))) H) (tD X.K X.mg W f) (tC .non) σ H Q := by
  obtain ⟨α, S, ρ, R, re, q⟩ := q
  refine ⟨α, S, ρ, R, re, After.imp (After.split (rel := RV X.K) q) (fun v H1 ⟨α1, S1, x, e1, R1, r1, q1⟩ => ?_) fun _ _ _ z => z⟩
  cases en : noneV S1 x with
  | none => rw [en] at q1; exact False.elim q1
  | some b =>
    rw [en] at q1
    refine ⟨rfl, ?_⟩
    rw [noneV_ok (w := ⟨α1, S1, H1⟩) R1 r1 en]
    dsimp only at q1
    have z : (b == false) = !b := by cases b <;> rfl
    rw [z] at q1
    exact q1 _ _ _ (Ext.refl _) R1 (.bl _)
theorem ed_isno (ha : ED X W a f) {j} : ED X W (.Compare a [.Is] [.Constant .none j p] pos) (dNone true f) := PE.imp (pe_cmpR op_isN ha pe_non (nomark _)) fun _ _ _ q => noneQ q
theorem ed_isnotno (ha : ED X W a f) {j} : ED X W (.Compare a [.IsNot] [.Constant .none j p] pos) (dNone false f) := PE.imp (pe_cmpR op_notN ha pe_non (nomark _)) fun _ _ _ q => nonneQ q
theorem td_isno (ha : ED X W a f) {j} : TDt X W (.Compare a [.Is] [.Constant .none j p] pos) (toB (dNone true f)) := PT.imp (pt_cmpR op_isN ha pe_non (nomark _)) fun _ _ _ q => noneQ (toBQ q)
theorem td_isnotno (ha : ED X W a f) {j} : TDt X W (.Compare a [.IsNot] [.Constant .none j p] pos) (toB (dNone false f)) := PT.imp (pt_cmpR op_notN ha pe_non (nomark _)) fun _ _ _ q => nonneQ (toBQ q)
/-! ### isinstance of an exception that was caught -/
/-- the classes that are asked for, as they stand in the heap; for one class, or a tuple of them -/
def onX (f : Str → Option Bool) : Val → M Val := fun x S => match x with
  | .c l => (match S[l]? with
    | some (.exc y) => (match f y.cls, y.fs with
      | some b, [] => .ok (.d (.bool b)) S
      | _, _ => .st)
    | _ => .st)
  | .d _ => .st
def clsX (f : Str → Option Bool) (g : Env' → M Val) : Env' → M Val := fun ρ => (g ρ).bind (onX f)
theorem clsXQ {w : Wd} {v : V} {y : Val} {fx : Str → Option Bool} {Q : VK} {E : XK} (R : Rep X.K X.mg w) (r : RV X.K w v y) (q : After X.K X.mg (RV X.K) w (onX fx y w.S) Q E) : ∃ (l : Nat) (yy : Ex) (b : Bool) (C a : Addr), fx yy.cls = some b ∧ X.mg yy.cls = some (.ref C) ∧ v = .ref a ∧ w.F a = some (ExcO (.ref C) none a) ∧ After X.K X.mg (RV X.K) w (.ok (.d (.bool b)) w.S) Q E ∧ y = .c l := by
  unfold onX at q
  cases y with
  | d z => exact False.elim q
  | c l =>
    obtain ⟨a, ha, rfl⟩ := r
    cases es : w.S[l]? with
    | none => simp only [es] at q; exact False.elim q
    | some c =>
      cases c with
      | lst ds => simp only [es] at q; exact False.elim q
      | dct ds => simp only [es] at q; exact False.elim q
      | old ds => simp only [es] at q; exact False.elim q
      | exc yy =>
        simp only [es] at q
        obtain ⟨C, d, h1, h2, h3⟩ := R.at_ l a _ ha es
        cases ef : fx yy.cls with
        | none => simp only [ef] at q; exact False.elim q
        | some b =>
          cases efs : yy.fs with
          | cons u v => simp only [ef, efs] at q; exact False.elim q
          | nil =>
            simp only [ef, efs] at q
            rw [efs] at h3
            cases (show d = none from h3)
            exact ⟨l, yy, b, C, a, ef, h1, rfl, h2, q, rfl⟩
/-- an exception's class, as isinstance asks for it -/
theorem kit_exc {pins : List (Addr × Obj)} {σ : L2.St} {H : Hp} {s : Shared} {C a : Addr} (I : Inv X pins σ H s) (hc : ExcC X.K C) (e : H a = some (ExcO (.ref C) none a)) : ∃ P : Heap → Prop, PySem.W.KitX X.K (.ref a) (.ref C) P ∧ P s.heap := by
  obtain ⟨⟨oe, vs, h1, h2, h3⟩, _⟩ := (show ObjOk X.prog X.w H s.heap a (ExcO (.ref C) none a) from I.hok a _ e)
  refine ⟨_, PySem.W.handS_kitx_exc hc.hg hc.hk hc.hs hc.hd hc.ha hc.hn hc.ht hc.hm (x := a) (ox := oe), ?_⟩
  obtain ⟨oc, od, oda, osl⟩ := oe
  obtain ⟨z1, z2⟩ := h2
  dsimp only at z1 z2 h3
  subst z1 z2 h3
  exact ⟨h1, rfl, rfl, trivial⟩
/-- isinstance(e, C) -/
theorem ed_isX {c : V} {u : Value} {fx : Str → Option Bool} (hm : X.mg "isinstance" = none) (ha : ED X W a f) (hT : PE X b (tC c)) (kc : ClsV c u) (hF : ∀ y k, fx y = some k → ∀ C, X.mg y = some (.ref C) → ExcC X.K C ∧ PySem.W.kitOne X.K (.ref C) u = some k) (hx : x = Str.ofString "isinstance") (hg : Gl X x := by rfl)
    (he : starEach [a, b] X.env = (false, eval a X.env) :: starEach [b] X.env := by rfl) (he2 : starEach [b] X.env = (false, eval b X.env) :: starEach [] X.env := by rfl) (hpl : (backTo pos (starEach [b] X.env)).any (·.1) = false := by rfl) :
    ED X W (.Call (.Name x p2) [a, b] [] pos) (clsX fx f) := by
  subst hx
  have hc : CallR X (.builtin "isinstance") (fun xs H Q => ∃ C a k, xs = [.ref a, c] ∧ ExcC X.K C ∧ PySem.W.kitOne X.K (.ref C) u = some k ∧ H a = some (ExcO (.ref C) none a) ∧ Q (.bl k) H) := by
    intro pins s σ H xs us Q I r h
    obtain ⟨C, a, k, rfl, h1, h2, h3, q⟩ := h
    obtain ⟨u1, u2, rfl, r1, r2⟩ := vals2 r
    have e2 := kc.eq r2
    subst e2
    cases (show u1 = Value.ref a from r1)
    obtain ⟨P, Z, p⟩ := kit_exc I h1 h3
    exact PySem.W.kia_one Z I.kIn p h2 (fun z => nomatch z) fun tk => ⟨.bl k, H, I.tok tk, rfl, q⟩
  refine PE.imp (pe_callB hc hg hm (by decide +kernel) (pa_cons ha (pa_cons hT pa_nil he2) he) (by decide) (by decide) he hpl) fun σ H Q ⟨α, S, ρ, R, re, q⟩ => ⟨α, S, ρ, R, re, After.imp (After.split (rel := RV X.K) q) (fun v H1 ⟨α1, S1, y, e1, R1, r1, q1⟩ => ?_) fun _ _ _ z => z⟩
  obtain ⟨l, yy, k, C, a, h1, h2, rfl, h3, q2, _⟩ := clsXQ (w := ⟨α1, S1, H1⟩) (fx := fx) R1 r1 q1
  obtain ⟨g1, g2⟩ := hF _ _ h1 C h2
  exact ⟨C, a, k, rfl, g1, g2, Wd.F_same _ _ _ h3, q2 _ _ _ (Ext.refl _) R1 (.bl k)⟩
/-- isinstance(e, (C, ..)) -/
theorem ed_isXs {cs : List V} {us : List Value} {fx : Str → Option Bool} {kk : Nat} (hm : X.mg "isinstance" = none) (ha : ED X W a f) (hT : PA X es (fun _ H Q => Q cs H)) (kc : Paired ClsV cs us) (hF : ∀ y k, fx y = some k → ∀ C, X.mg y = some (.ref C) → ExcC X.K C ∧ PySem.W.kitAny X.K (.ref C) us = some k) (hsz : cs.length ≤ 16777216) (hx : x = Str.ofString "isinstance") (hg : Gl X x := by rfl)
    (he : starEach [a, .Tuple es kk p3] X.env = (false, eval a X.env) :: starEach [.Tuple es kk p3] X.env := by rfl) (he2 : starEach [.Tuple es kk p3] X.env = (false, eval (.Tuple es kk p3) X.env) :: starEach [] X.env := by rfl) (hpl : (backTo pos (starEach [.Tuple es kk p3] X.env)).any (·.1) = false := by rfl) :
    ED X W (.Call (.Name x p2) [a, .Tuple es kk p3] [] pos) (clsX fx f) := by
  subst hx
  have hc : CallR X (.builtin "isinstance") (fun xs H Q => ∃ C a k tp, xs = [.ref a, .ref tp] ∧ H tp = some (.tup cs) ∧ ExcC X.K C ∧ PySem.W.kitAny X.K (.ref C) us = some k ∧ H a = some (ExcO (.ref C) none a) ∧ Q (.bl k) H) := by
    intro pins s σ H xs vs Q I r h
    obtain ⟨C, a, k, tp, rfl, h0, h1, h2, h3, q⟩ := h
    obtain ⟨u1, u2, rfl, r1, r2⟩ := vals2 r
    cases (show u1 = Value.ref a from r1)
    cases (show u2 = Value.ref tp from r2)
    obtain ⟨P, Z, p⟩ := kit_exc I h1 h3
    obtain ⟨_, its, rv, o, g1, g2, n, g3⟩ := (show ObjOk X.prog X.w H s.heap tp (.tup cs) from I.hok tp _ h0)
    have e3 := ClsV.all kc rv
    subst e3
    obtain ⟨oc, od, dt, sl⟩ := o
    simp only at g2 g3
    subst g2 g3
    exact PySem.W.kia_tup Z I.kIn p g1 h2 (fun z => nomatch z) fun tk => ⟨.bl k, H, I.tok tk, rfl, q⟩
  refine PE.imp (pe_callB hc hg hm (by decide +kernel) (pa_cons ha (pa_cons (pe_tup hT) pa_nil he2) he) (by decide) (by decide) he hpl) fun σ H Q ⟨α, S, ρ, R, re, q⟩ => ⟨α, S, ρ, R, re, After.imp (After.split (rel := RV X.K) q) (fun v H1 ⟨α1, S1, y, e1, R1, r1, q1⟩ => ?_) fun _ _ _ z => z⟩
  obtain ⟨l, yy, k, C, a, h1, h2, rfl, h3, q2, _⟩ := clsXQ (w := ⟨α1, S1, H1⟩) (fx := fx) R1 r1 q1
  obtain ⟨g1, g2⟩ := hF _ _ h1 C h2
  refine ⟨by rw [sizeLine_eq]; exact hsz, fun tp hp => ?_⟩
  obtain ⟨r3, x3, f3⟩ := R1.new hp (.tup cs)
  have ne : a ≠ tp := ne_of_none (Wd.F_same _ _ _ h3) hp
  exact ⟨C, a, k, tp, rfl, upd_same, g1, g2, by rw [upd_ne ne]; exact Wd.F_same _ _ _ h3, q2 _ _ _ x3 r3 (.bl k)⟩
/-- names of classes, one by one -/
theorem pa_cls {cs : List V} {c : V} (h : PE X e (tC c)) (hr : PA X es (fun _ H Q => Q cs H)) (hs : starEach (e :: es) X.env = (false, eval e X.env) :: starEach es X.env := by rfl) : PA X (e :: es) (fun _ H Q => Q (c :: cs) H) := PA.imp (pa_cons h hr hs) fun _ _ _ q => q
theorem pa_cls0 : PA X [] (fun _ H Q => Q [] H) := pa_nil
end
end Zz
set_option maxRecDepth 100000
set_option maxHeartbeats 4000000
namespace Zz
open PySem PySem.Spec PyProof.Rows L2
/-! ### len(set(texts)) -/
/-- the unlike ones -/
def dist : List Str → List Str := fun xs => xs.foldl (fun acc x => if x ∈ acc then acc else acc ++ [x]) []
theorem dist_snoc (xs : List Str) (x : Str) : dist (xs ++ [x]) = if x ∈ dist xs then dist xs else dist xs ++ [x] := by
  unfold dist
  rw [List.foldl_append]
  rfl
theorem snocInd {P : List Str → Prop} (h0 : P []) (h1 : ∀ xs x, P xs → P (xs ++ [x])) (xs : List Str) : P xs := by
  have h : ∀ ys : List Str, P ys.reverse := fun ys => by
    induction ys with
    | nil => exact h0
    | cons y ys ih => rw [List.reverse_cons]; exact h1 _ _ ih
  have z := h xs.reverse
  rwa [List.reverse_reverse] at z
theorem mem_dist (xs : List Str) : ∀ k, k ∈ dist xs ↔ k ∈ xs := by
  induction xs using snocInd with
  | h0 => intro k; exact Iff.rfl
  | h1 xs x ih =>
    intro k
    rw [dist_snoc]
    split
    · rename_i h
      rw [ih, List.mem_append, List.mem_singleton]
      exact ⟨.inl, fun z => z.elim id fun e => by rw [e]; exact (ih x).mp h⟩
    · rw [List.mem_append, List.mem_append, ih]
theorem dist_le (xs : List Str) : (dist xs).length ≤ xs.length := by
  induction xs using snocInd with
  | h0 => exact Nat.le_refl _
  | h1 xs x ih =>
    rw [dist_snoc]
    split
    · rw [List.length_append]; exact Nat.le_trans ih (Nat.le_add_right _ _)
    · rw [List.length_append, List.length_append]; exact Nat.add_le_add_right ih _
theorem take_next {xs : List Str} {i : Nat} (h : i < xs.length) : xs.take (i + 1) = xs.take i ++ [xs.getD i Str.empty] := by
  rw [List.take_add_one, List.getElem?_eq_getElem h]
  simp [List.getD, h]
section
variable {prog : Program} {w : World} {A : Around} {R : Result → Shared → Prop} {I : Addr} {fp wr : List Addr} {G : Array GenState → Array GenState → Prop} {n : Nat} {P : Nat → Value → Prop} {St : Nat → Shared → Prop}
/-- the texts that were met among the first i -/
abbrev Met (prog : Program) (w : World) (S : Addr) (xs : List Str) (i : Nat) (h : Heap) : Prop := h.SetOf (PySem.strKind prog w) S (fun k => decide (k ∈ xs.take i)) (dist (xs.take i)).length
theorem fill_texts (W : WalksS prog w A.in1 I fp wr G n P St) (S : Addr) (hSf : S ∉ fp) (xs : List Str) (hsz : xs.length = n) (hb : n + 1 < scanBound) (hval : ∀ i v, P i v → ∃ t, v = .str (xs.getD i Str.empty) t) :
    ∀ (m i : Nat) (s : Shared), n - i = m → i ≤ n → St i s → Met prog w S xs i s.heap → (∀ s', Moved (S :: wr) G s s' → Met prog w S xs n s'.heap → R (.ok (.ret .none)) s') →
      codeAny (model prog w) A (.builtin "set.update.loop" ⟨[.ref S, .ref I], []⟩) R s := by
  have outW : S ∉ wr := fun z => hSf (W.sub _ z)
  have more : ∀ b ∈ wr, b ∈ S :: wr := fun b q => List.mem_cons_of_mem _ q
  have moved : ∀ {s s' : Shared} {i : Nat}, Moved wr G s s' → Met prog w S xs i s.heap → Met prog w S xs i s'.heap := fun mv ⟨o, es, ep, t, ho, r⟩ => ⟨o, es, ep, t, mv.heap S _ outW ho, r⟩
  intro m
  induction m with
  | zero =>
    intro i s e1 e2 st met fin
    obtain rfl : i = n := by omega
    refine codeAny_builtin F.entry_set_update_loop ?_
    rw [Around.under_plainId F.plain_set_update_loop _]
    show wpAny _ A.in1 (pyNext (.ref I) >>= _) _ _ s
    refine wpAny_bind (W.done s _ _ st fun s1 mv => ?_)
    show wpAny _ A.in1 (ret Value.none) _ _ s1
    exact wpAny_pure (fin s1 (mv.mono more) (moved mv met))
  | succ m ih =>
    intro i s e1 e2 st met fin
    have lt : i < n := by omega
    refine codeAny_builtin F.entry_set_update_loop ?_
    rw [Around.under_plainId F.plain_set_update_loop _]
    show wpAny _ A.in1 (pyNext (.ref I) >>= _) _ _ s
    refine wpAny_bind (W.item i s _ _ lt st fun v s1 hv st1 mv => ?_)
    obtain ⟨t, rfl⟩ := hval i v hv
    have met1 := moved mv met
    show wpAny _ A.in1 (holding [Value.str (xs.getD i Str.empty) t] (setAdd S (.str (xs.getD i Str.empty) t)) >>= _) _ _ s1
    unfold setAdd
    refine wpAny_bind (wpAny_holding (wpAny_holding (wpAny_bind ((PySem.strKind prog w).pyHash (k := xs.getD i Str.empty) (strKind_is _ _ _ _) ?_))))
    have few : (dist (xs.take i)).length + 1 < scanBound := by
      have z := dist_le (xs.take i)
      rw [List.length_take] at z
      omega
    refine wpAny_setAddHashed_of (knd := PySem.strKind prog w) (s := { s1 with toks := s1.toks + 1 }) (strKind_is _ _ _ _) rfl met1 few fun h' but grown => ?_
    have ltx : i < xs.length := by omega
    have met2 : Met prog w S xs (i + 1) h' := by
      refine SetOf_congr grown (fun k => ?_) ?_
      · rw [take_next ltx, Bool.eq_iff_iff]
        simp only [Bool.or_eq_true, decide_eq_true_eq, List.mem_append, List.mem_singleton]
      · rw [take_next ltx, dist_snoc]
        by_cases z : xs.getD i Str.empty ∈ xs.take i
        · rw [if_pos (decide_eq_true z), if_pos ((mem_dist _ _).mpr z)]
        · rw [if_neg (by simpa using z), if_neg fun q => z ((mem_dist _ _).mp q), List.length_append]; rfl
    refine wpAny_pure ⟨plainId_quiet F.plain_set_update_loop _, ih (i + 1) _ (by omega) lt (W.frame _ s1 _ _ st1 (Nat.le_succ _) fun b q o e => ?_) met2 fun s2 mv2 met3 => ?_⟩
    · rw [but.2 b fun z => hSf (by rw [← z]; exact q)]; exact e
    · refine fin s2 (Moved.trans W.gtrans ((mv.mono more).then_heap (Nat.le_succ _) fun b o q e => ?_) mv2) met3
      rw [but.2 b fun z => q (by rw [z]; exact List.mem_cons_self)]; exact e
end
section
variable {prog : Program} {w : World} {A : Around} {E : Value → Shared → Prop} {s : Shared}
set_option maxHeartbeats 3200000 in
theorem set_of_texts {l : Addr} {items : Array Value} {xs : List Str} {Q : Value → Shared → Prop} (hh : A.handled = none) (hl : s.heap.IsList l items) (hi : StrsAre items.toList xs) (hb : xs.length + 1 < scanBound)
    (h : ∀ (h' : Heap) (tk : Nat), Met prog w s.heap.objs.size xs xs.length h' → (∀ b o, b < s.heap.objs.size → s.heap.get? b = some o → h'.get? b = some o) → Q (.ref s.heap.objs.size) { s with heap := h', toks := tk }) :
    wpAny (model prog w) A (call (.type "set") [.ref l]) Q E s := by
  obtain ⟨c, tl, mro⟩ := PySem.F.called_set.mro
  have made := PySem.F.called_set.made
  have sub := PySem.F.called_set.sub
  refine wpAny_call (codeAny_of_tree ?_)
  show wpAny _ _ (callAny (.type "set") _) _ _ _
  refine wpAny_pure ⟨Code.quiet_builtin _ (by decide +kernel), codeAny_builtin PySem.F.entry_type_call ?_⟩
  rw [Around.under_plain (weight_type_call_type "set" [.ref l] []) rfl]
  have f1 := PySem.F.called_set.notType
  have f2 := PySem.F.called_set.canCreate
  have f3 := PySem.F.typeCall_set_1 (.ref l)
  repeat (any_goals (first | assumption | wp_step))
  refine codeAny_mono (code_set_new_1 (.ref l) (E := E) (Q₁ := fun obj s₁ => ∃ led : Bool, obj = .ref s.heap.objs.size ∧ s₁ = { s with heap := s.heap.push { cls := .type "set", dict := none, data := .set #[] 0 (.fresh 0 0 led) } }) fun led => ⟨led, rfl, rfl⟩) fun r s1 hr => ?_
  cases r with
  | error e => exact hr
  | ok fl =>
    cases fl with
    | brk => exact hr
    | cont => exact hr
    | next => exact hr
    | ret obj =>
      obtain ⟨led, rfl, rfl⟩ := hr
      have here : (s.heap.push { cls := .type "set", dict := none, data := .set #[] 0 (.fresh 0 0 led) }).get? s.heap.objs.size = some { cls := .type "set", dict := none, data := .set #[] 0 (.fresh 0 0 led) } := Heap.get?_push_size _ rfl
      have ty : Shared.TypeIs { s with heap := s.heap.push { cls := .type "set", dict := none, data := .set #[] 0 (.fresh 0 0 led) } } (.ref s.heap.objs.size) "set" := ⟨_, here, rfl⟩
      have g1 := PySem.F.called_set.init.lookup
      have g2 := PySem.F.called_set.init.bind (.ref s.heap.objs.size)
      repeat (any_goals (first | assumption | wp_step))
      refine codeAny_mono (codeAny_call_builtin (R := wants (fun r s2 => r = .none ∧ ∃ h' tk, s2 = { s with heap := h', toks := tk } ∧ Met prog w s.heap.objs.size xs xs.length h' ∧ (∀ b o, b < s.heap.objs.size → s.heap.get? b = some o → h'.get? b = some o)) E)
        PySem.F.called_set.init.plain PySem.F.entry_set_init (check_set_init_1 ty ?_)) fun r2 s2 hr2 => ?_
      · obtain ⟨⟨oc, od, ot, os⟩, hol, hcl, nl, hdl⟩ := hl
        simp only at hcl hdl
        subst hcl hdl
        have hol' : (s.heap.push { cls := .type "set", dict := none, data := .set #[] 0 (.fresh 0 0 led) }).get? l = some { cls := .type "list", dict := od, data := .seq items nl, slots := os } := Heap.get?_push_of_some _ hol
        have k1 := PySem.F.sub_list_set
        have k2 := PySem.F.sub_list_frozenset
        have k3 : (Value.type "list" == Value.type "dict") = false := by decide
        have lst : (s.heap.push { cls := .type "set", dict := none, data := .set #[] 0 (.fresh 0 0 led) }).IsList l items := ⟨_, hol', rfl, nl, rfl⟩
        unfold Builtin.«set.__init__» noKeywords Builtin.Frozenset.updateFrom
        generalize hPI : pyIter = PI
        wp_walk
        subst hPI
        refine wpAny_pyIter_list lst ?_
        refine wpAny_bind (wpAny_runValue ?_)
        have lt : l < s.heap.objs.size := Heap.lt_size hol
        have sz1 : (s.heap.push { cls := .type "set", dict := none, data := .set #[] 0 (.fresh 0 0 led) }).objs.size = s.heap.objs.size + 1 := Heap.size_push ..
        have eq1 : xs.length = items.size := by rw [← StrsAre.len_eq hi, Array.length_toList]
        refine fill_texts ((Walks.list (show A.in1.in1.in1.handled = none by simp [hh]) _ l (by rw [sz1]; exact Nat.ne_of_lt (Nat.lt_succ_of_lt lt)) items).toS) s.heap.objs.size
          (by rw [sz1]; simp only [List.mem_cons, List.not_mem_nil, or_false, not_or]; exact ⟨Nat.ne_of_lt (Nat.lt_succ_self _), Nat.ne_of_gt lt⟩) xs eq1 (by rw [← eq1]; exact hb) (fun i v hv => SS.strs_at hi i v (by rw [Array.getElem?_toList]; exact hv)) (items.size - 0) 0 _ (by omega) (Nat.zero_le _)
          ⟨⟨_, Heap.get?_push_size _ rfl, rfl, rfl⟩, lst.push _⟩ ?start ?fin
        case start =>
          have q : ((s.heap.push { cls := .type "set", dict := none, data := .set #[] 0 (.fresh 0 0 led) }).push { cls := .type "list_iterator", data := .fields #[.ref l, .int 0 0] }).get? s.heap.objs.size = some { cls := .type "set", dict := none, data := .set #[] 0 (.fresh 0 0 led) } := Heap.get?_push_of_some _ here
          exact SetOf_congr ((setObjOf_fresh (knd := PySem.strKind prog w) led).setOf q (by unfold scanBound; omega)) (fun _ => by simp) rfl
        case fin =>
          intro ⟨h', g', d', tk', os'⟩ mv met
          have e1 : g' = s.gens := mv.gens
          have e2 : d' = s.drawn := mv.drawn
          have e3 : os' = s.os := mv.os
          subst e1 e2 e3
          show wpAny _ _ _ _ _ _
          refine wpAny_pure ?_
          show wpAny _ _ (ret Value.none) _ _ _
          rw [← eq1] at met
          refine wpAny_pure ⟨rfl, h', tk', rfl, met, fun b o q e => ?_⟩
          exact mv.heap b o (by simp only [List.mem_cons, List.not_mem_nil, or_false, not_or]; exact ⟨Nat.ne_of_lt q, by rw [sz1]; exact Nat.ne_of_lt (Nat.lt_succ_of_lt q)⟩) (Heap.get?_push_of_some _ (Heap.get?_push_of_some _ e))
      · cases r2 with
        | error e => exact hr2
        | ok fl2 =>
          cases fl2 with
          | brk => exact hr2
          | cont => exact hr2
          | next => exact hr2
          | ret r =>
            obtain ⟨rfl, h', tk, rfl, met, kk⟩ := hr2
            repeat (any_goals (first | assumption | wp_step))
            exact h _ _ met kk
end
section
variable {X : Cx} {n : Nat} {W : WX} {a : Expr} {f : Env' → M Val} {p p2 q pos : Pos}
/-- how many unlike texts -/
def oLenSet : D → Option D
  | .list xs => (xs.mapM asStr).bind fun ys => if ys.length < 4000 then some (.int (dist ys).length) else none
  | _ => none
theorem ed_lenSet (C : CxOk X n) (hm : X.mg "len" = none) (hm2 : X.mg "set" = none) (ha : ED X W a f) (hg : Gl X "len" := by rfl) (hg2 : Gl X "set" := by rfl) (na : starEach [a] X.env = (false, eval a X.env) :: starEach [] X.env := by rfl) :
    ED X W (.Call (.Name "len" p) [.Call (.Name "set" p2) [a] [] q] [] pos) (dFn1 oLenSet f) := by
  have core : PE X (.Call (.Name "len" p) [.Call (.Name "set" p2) [a] [] q] [] pos) (fun σ H Q => tD X.K X.mg W f σ H fun x H1 => ∃ (l : Addr) (xs : List Str), x = .ref l ∧ SqL X.K H1 l (xs.map V.str) ∧ xs.length < 4000 ∧ Q (.int (dist xs).length) H1) := by
    refine ⟨fun pins s σ H Q I h => Call_ (ld_blt I hg hm boot_len ?_)⟩
    refine PyProof.Rows.callWith_builtin1 (PyProof.Rows.args_cons (Call_ (ld_blt I hg2 hm2 boot_set ?_)) rfl) rfl rfl
    refine PyProof.Rows.callWith_type1 (PyProof.Rows.args_cons (thn (ha.run pins s σ H _ I h) fun v s1 ⟨x, H1, I1, r1, q1⟩ => PyProof.Rows.args_nil ?_) na) na rfl
    obtain ⟨l, xs, rfl, hq, hz, q1⟩ := q1
    cases r1
    obtain ⟨its, r, pl, _⟩ := I1.list hq
    refine set_of_texts (I1.ok.hd C.hc) pl.isList (by simpa using strsAre_of r) (by unfold scanBound; omega) fun h' tk met kk => PyProof.Rows.args_nil ?_
    rw [Met, List.take_length] at met
    obtain ⟨o, es, ep, t, ho, hx, hd, _, _, _, hf, hn⟩ := met
    have I2 : Inv X pins σ H1 { s1 with heap := h', toks := tk } := I1.kept fun b o e => kk b o (Heap.lt_size e) e
    have le := dist_le xs
    refine call_len_set ho hx hd hf (by rw [hn] <;> omega) ⟨.int (dist xs).length, H1, I2.tok _, ⟨_, by rw [hn]⟩, q1⟩
  refine PE.imp core fun σ H Q ⟨α, S, ρ, R, re, q⟩ => ⟨α, S, ρ, R, re, After.imp (After.split (rel := RV X.K) q) (fun v H1 ⟨α1, S1, x, e1, R1, r1, q1⟩ => ?_) fun _ _ _ z => z⟩
  obtain ⟨w, y, z, da, c, rfl, e3, Rw, rx, ea2, ec, ans⟩ := on1_ok (w := ⟨α1, S1, H1⟩) R1 r1 q1
  cases e3
  unfold oLenSet at ec
  split at ec
  · obtain ⟨ys, e4, e5⟩ := Option.bind_eq_some_iff.mp ec
    split at e5
    · rename_i hz
      cases e5
      obtain ⟨l, vs, rfl, h1, g1⟩ := Rw.list rx ea2
      cases strs_dv g1 e4
      exact ⟨l, ys, rfl, h1, hz, ans.here Rw (.int _)⟩
    · cases e5
  · cases ec
end
end Zz
set_option maxRecDepth 100000
set_option maxHeartbeats 4000000
namespace Zz
open PySem PySem.Spec PyProof.Rows L2
/-! ### the law's own call -/
/-- a script's whole numbers as data -/
def intsD (ns : List Int) : List D := ns.map .int
theorem dv_ints {K : PySem.W.Frag} {F : Hp} : ∀ ns : List Int, DvAll K F (ns.map V.int) (intsD ns)
  | [] => .nil
  | n :: r => .cons (.int n) (dv_ints r)
section
variable {P : Program} {w : World} {K : PySem.W.Frag} {mg mb : Str → Option Value} {k : Nat} {fa a : Addr} {fd : FuncData} {x : Str} {F : Fn} {s : Shared} {vs : List Value} {ns : List Int}
/-- the abstract heap: the script alone, if anything -/
structure Seen (P : Program) (w : World) (K : PySem.W.Frag) (s : Shared) (a : Addr) (ns : List Int) (H : Hp) : Prop where
  only : L2.Only H
  seq : SqL K H a (ns.map V.int)
  ok : HOk P w H s.heap
  at_ : ∀ b, H b ≠ none → b = a
  out : H a ≠ none → K.lookup a = none
theorem seenAt (KX : K.In s.heap) (ha : s.heap.get? a = some { cls := .type "list", data := .seq vs.toArray }) (hi : IntsAre vs ns) (hl : ns.length ≤ sizeLine) : ∃ H, Seen P w K s a ns H := by
  have rv := vals_ints hi
  have hlen : vs.length = ns.length := hi.length
  cases hk : K.lookup a with
  | some o =>
    have e := KX a o hk
    rw [ha] at e
    cases e
    exact ⟨fun _ => none, fun _ => .inl rfl, .inr ⟨_, vs.toArray, _, hk, rfl, rfl, rfl, by rw [List.size_toArray, hlen]; exact hl, by simpa using rv⟩, fun b u z => (by have z' : (none : Option HO) = some u := z; cases z'), fun b z => absurd rfl z, fun z => absurd rfl z⟩
  | none =>
    let o : Obj := { cls := .type "list", data := .seq vs.toArray }
    have yes : ∀ {b : Addr}, b = a → (fun b => if b = a then some (HO.frz o (.lst (ns.map V.int))) else none : Hp) b = some (.frz o (.lst (ns.map V.int))) := fun e => if_pos e
    have no : ∀ {b : Addr}, b ≠ a → (fun b => if b = a then some (HO.frz o (.lst (ns.map V.int))) else none : Hp) b = none := fun e => if_neg e
    refine ⟨fun b => if b = a then some (.frz o (.lst (ns.map V.int))) else none, fun b => ?_, .inl (.inr ⟨o, yes rfl⟩), fun b u z => ?_, fun b z => ?_, fun _ => hk⟩
    · by_cases e : b = a
      · exact .inr ⟨_, _, yes e⟩
      · exact .inl (no e)
    · by_cases e : b = a
      · have q := (yes e).symm.trans z
        cases q
        subst e
        exact ⟨ha, by rw [List.length_map]; exact hl, vs, _, rv, ha⟩
      · have q := (no e).symm.trans z
        cases q
    · by_cases e : b = a
      · exact e
      · exact absurd (no e) z
theorem law_run (KX : K.In s.heap) (hns : s.heap.Ns mainGlobals mg) (hb : s.heap.Ns builtinsNs mb) (hbb : ∀ x : Str, x ≠ "__name__" → mb x = bootBuiltins x) (hlim : s.heap.NoLimit) (hg : s.gens = #[])
    (ha : s.heap.get? a = some { cls := .type "list", data := .seq vs.toArray }) (hi : IntsAre vs ns) (hl : ns.length ≤ sizeLine) (hr : Room k callerA)
    (hF : ∀ base : Heap, K.In base → base.Ns mainGlobals mg → FnG P w K mg base k fa fd [x] F) (hbind : ∀ (s : Shared) (u : Value), BindsTo s fd ⟨[u], []⟩ [(x, u)])
    (told : ∃ S, F [.d (.list (intsD ns))] [] = .ok (.d (.bool true)) S) :
    codeAny (model P w) callerA (.call (.ref fa) ⟨[.ref a], []⟩) (fun r s' => r = .ok (.ret (.bool true)) ∧ OldK s.heap s'.heap ∧ s'.os = s.os ∧ AllBare s'.gens) s := by
  obtain ⟨H, sn⟩ := seenAt (P := P) (w := w) KX ha hi hl
  -- what is no script stands in the base
  have free : ∀ {b : Addr} {o : Obj}, s.heap.get? b = some o → (∀ its n, o.data ≠ .seq its n) → H b = none := fun {b o} e ne => by
    cases q : H b with
    | none => rfl
    | some u =>
      obtain rfl := sn.at_ b (by rw [q]; simp)
      rw [ha] at e
      cases e
      exact absurd rfl (ne _ _)
  have ns' : ∀ {b : Addr} {m : Str → Option Value}, s.heap.Ns b m → (hidT s.heap H).Ns b m := fun ⟨o, es, ep, e, d, r⟩ => ⟨o, es, ep, hidT_get e (free e fun _ _ z => by rw [d] at z; cases z), d, r⟩
  have hK : K.In (hidT s.heap H) := fun b o e => hidT_get (KX b o e) (by
    cases q : H b with
    | none => rfl
    | some u =>
      obtain rfl := sn.at_ b (by rw [q]; simp)
      rw [sn.out (by rw [q]; simp)] at e
      cases e)
  have e0 : Env0 P w K mg (hidT s.heap H) callerA [] s H :=
    ⟨rfl, ⟨hK, ns' hns, ⟨mb, ns' hb, hbb⟩, let ⟨mc, h1, h2⟩ := hlim; ⟨mc, ns' h1, h2⟩⟩, fun b o e => of_hidT e, Nat.le_of_eq (hidT_size _ _), trivial, fun b hb => absurd (show b ∈ ([] : List Addr) from hb) (by simp), sn.ok, .of_eq hg⟩
  obtain ⟨S, told⟩ := told
  have rep : Rep K mg ⟨[], [], H⟩ := ⟨rfl, List.nodup_nil, fun a ha => (by cases ha), fun l a c h => (by simp at h)⟩
  have eF : Wd.F ⟨[], [], H⟩ = H := funext fun b => by
    unfold Wd.F Wd.muts
    simp
  have arg : RVs K ⟨[], [], H⟩ [.ref a] [.d (.list (intsD ns))] := .cons (by
    show Dv K (Wd.F ⟨[], [], H⟩) (.ref a) (.list (intsD ns))
    rw [eF]
    exact .lst sn.seq (dv_ints ns)) .nil
  refine codeAny_mono ((hF _ hK (ns' hns)).run callerA [] s H ⟨[.ref a], []⟩ [.ref a] [.ref a] (fun v _ => v = .bl true) (fun _ _ _ => False) rfl hr e0 (hbind s (.ref a)) (.cons rfl .nil) rfl ⟨[], [], _, rep, arg, ?_⟩) fun r s' h => ?_
  · rw [told]
    intro α H' b _ _ rb
    cases (show Dv K _ b (.bool true) from rb)
    rfl
  · cases r with
    | error e =>
      obtain ⟨_, _, _, _, _, _, _, _, _, _, _, _, z⟩ := (show L2.CX P w [] H s (fun _ _ _ => False) e s' from h)
      exact z.elim
    | ok fl =>
      cases fl with
      | next => exact False.elim h
      | brk => exact False.elim h
      | cont => exact False.elim h
      | ret u =>
        obtain ⟨v, H', os, bare, un, hok, r', q⟩ := h
        have q' : v = .bl true := q
        subst q'
        obtain rfl : u = Value.bool true := r'
        refine ⟨rfl, OldK.of_keep fun b o e => ?_, os, bare⟩
        cases q : H b with
        | none => exact un.keep b o e q (by intro z; exact absurd (show b ∈ ([] : List Addr) from z) (by simp)) (by simp)
        | some u =>
          rcases sn.only b with z | ⟨ob, xs, z⟩
          · rw [q] at z; cases z
          · obtain ⟨e1, _⟩ := sn.ok b _ z
            obtain ⟨e2, _⟩ := hok b _ (un.frzs b ob _ z)
            rw [e] at e1; cases e1
            exact e2
end
/-- the goal that the head leaves -/
theorem walkG {l : PySem.W.OpenLaw} {n k : Nat} {q : Program} {loose : List Str} {XP : (Str → Option Value) → Heap → Prop} {YP : World → Heap → Prop} {d : DefRec} {K : Params → PySem.W.Frag} {x : Str} {F : Fn}
    (hn : l.most = some n) (hn2 : n ≤ sizeLine) (hdf : d.params.defaults = []) (hr : Room k callerA) (hY : ∀ (w : World) (h : Heap), YP w h → (K w.params).In h)
    (hF : ∀ (w : World) (mg : Str → Option Value) (fa : Addr) (h : Heap), (K w.params).In h → h.Ns mainGlobals mg → mg d.name = some (.ref fa) →
      ∃ fd : FuncData, (∀ (s : Shared) (u : Value), BindsTo s fd ⟨[u], []⟩ [(x, u)]) ∧ ∀ base : Heap, (K w.params).In base → base.Ns mainGlobals mg → FnG l.prog w (K w.params) mg base k fa fd [x] F)
    (told : ∀ ns : List Int, ns.length ≤ n → (∀ z ∈ ns, Builtin.Int.intBits z ≤ 1048576) → ∃ S, F [.d (.list (intsD ns))] [] = .ok (.d (.bool true)) S) :
    PySem.W.WalkO q loose XP YP l.row.toRowW d [] (fun f vs => PySem.call f vs) := by
  refine Att.attach_callB hn hdf fun w s₀ s₁ mg mb fa o pm cd doc a vs ns G Y ho hd hcd hmg hobj hints hlen hbits hg => ?_
  have KX := hY w _ Y
  obtain ⟨fd, hb, hF⟩ := hF w mg fa _ KX G.T.g hmg
  exact law_run KX G.T.g G.T.b G.T.builtins G.T.nolimit hg hobj hints (Nat.le_trans hlen hn2) hr hF hb (told ns hlen hbits)
end Zz
set_option maxRecDepth 100000
set_option maxHeartbeats 4000000
namespace Zz
open PySem PySem.Spec PyProof.Rows L2
/-! ### dict displays -/
/-- in its place, or at the end -/
def putD (kds : List (D × D)) (k : Key) (d : D) : List (D × D) :=
  if (kds.any fun p => decide (toKey p.1 = some k)) = true then kds.map (fun p => if toKey p.1 = some k then (p.1, d) else p) else kds ++ [(keyD k, d)]
def mergeD (kds : List (D × D)) (more : List (Key × D)) : List (D × D) := more.foldl (fun acc p => putD acc p.1 p.2) kds
theorem toKey_keyD (k : Key) : toKey (keyD k) = some k := by cases k <;> rfl
section
variable {K : PySem.W.Frag} {F : Hp}
theorem DvKV.any (k : Key) : ∀ {ks : List (Key × V)} {kds : List (D × D)}, DvKV K F ks kds → (ks.any fun p => decide (p.1 = k)) = (kds.any fun p => decide (toKey p.1 = some k))
  | _, _, .nil => rfl
  | _, _, .cons (k := k') _ t => by
    rw [List.any_cons, List.any_cons, DvKV.any k t, toKey_keyD]
    congr 1
    exact decide_eq_decide.mpr ⟨fun e => (by have e' : k' = k := e; rw [e']), fun e => Option.some.inj e⟩
theorem DvKV.over (k : Key) {v : V} {d : D} (h : Dv K F v d) : ∀ {ks : List (Key × V)} {kds : List (D × D)}, DvKV K F ks kds → DvKV K F (ks.map fun p => if p.1 = k then (p.1, v) else p) (kds.map fun p => if toKey p.1 = some k then (p.1, d) else p)
  | _, _, .nil => .nil
  | _, _, .cons (k := k') (v := v') (d := d') r t => by
    rw [List.map_cons, List.map_cons]
    show DvKV K F ((if k' = k then (k', v) else (k', v')) :: _) ((if toKey (keyD k') = some k then (keyD k', d) else (keyD k', d')) :: _)
    rw [toKey_keyD]
    by_cases e : k' = k
    · rw [if_pos e, if_pos (by rw [e])]
      exact .cons h (DvKV.over k h t)
    · rw [if_neg e, if_neg fun z => e (Option.some.inj z)]
      exact .cons r (DvKV.over k h t)
theorem DvKV.snoc {k : Key} {v : V} {d : D} (h : Dv K F v d) : ∀ {ks : List (Key × V)} {kds : List (D × D)}, DvKV K F ks kds → DvKV K F (ks ++ [(k, v)]) (kds ++ [(keyD k, d)])
  | _, _, .nil => .cons h .nil
  | _, _, .cons r t => .cons r (DvKV.snoc h t)
theorem DvKV.put (k : Key) {v : V} {d : D} (h : Dv K F v d) {ks : List (Key × V)} {kds : List (D × D)} (t : DvKV K F ks kds) : DvKV K F (putK ks k v) (putD kds k d) := by
  unfold putK putD
  rw [DvKV.any k t]
  split
  · exact DvKV.over k h t
  · exact DvKV.snoc h t
/-- pairs of values and their data -/
abbrev RP (K : PySem.W.Frag) (F : Hp) : List (V × V) → List (Key × D) → Prop := Paired fun a b => a.1 = kV b.1 ∧ Dv K F a.2 b.2
theorem RP.keys : ∀ {ps : List (V × V)} {kds : List (Key × D)}, RP K F ps kds → ∃ kvs : List (Key × V), ps = kvs.map (fun kv => (kV kv.1, kv.2)) ∧ kvs.length = kds.length ∧ Paired (fun (a : Key × V) (b : Key × D) => a.1 = b.1 ∧ Dv K F a.2 b.2) kvs kds
  | _, _, .nil => ⟨[], rfl, rfl, .nil⟩
  | _, _, .cons (a := a) (b := b) h t => by
    obtain ⟨kvs, e1, e2, e3⟩ := RP.keys t
    obtain ⟨a1, a2⟩ := a
    obtain ⟨h1, h2⟩ := h
    have h1' : a1 = kV b.1 := h1
    subst h1'
    exact ⟨(b.1, a2) :: kvs, by rw [e1]; rfl, by rw [List.length_cons, List.length_cons, e2], .cons ⟨rfl, h2⟩ e3⟩
theorem merge_dv : ∀ {kvs : List (Key × V)} {kds : List (Key × D)} {ks : List (Key × V)} {ds : List (D × D)}, Paired (fun (a : Key × V) (b : Key × D) => a.1 = b.1 ∧ Dv K F a.2 b.2) kvs kds → DvKV K F ks ds → DvKV K F (mergeK ks kvs) (mergeD ds kds)
  | _, _, _, _, .nil, t => t
  | _, _, ks, ds, .cons (a := a) (b := b) h r, t => by
    obtain ⟨a1, a2⟩ := a
    obtain ⟨b1, b2⟩ := b
    obtain ⟨h1, h2⟩ := h
    have h1' : a1 = b1 := h1
    subst h1'
    exact merge_dv (ks := putK ks a1 a2) (ds := putD ds a1 b2) r (DvKV.put a1 h2 t)
end
def dPairs : List ((Env' → M Val) × (Env' → M Val)) → Env' → M (List (Key × D))
  | [], _ => M.ret []
  | (f, g) :: r, ρ => (f ρ).bind fun x S => match (rd S x).bind toKey with
    | some k => ((g ρ S).bind frz).bind fun d => (dPairs r ρ).bind fun ps => M.ret ((k, d) :: ps)
    | none => .st
def dDict (ps : List ((Env' → M Val) × (Env' → M Val))) : Env' → M Val := fun ρ S => (dPairs ps ρ (S ++ [.dct []])).bind fun kds S' => match S'[S.length]? with
  | some (.dct []) => if kds.length ≤ 15 then .ok (.d (.dict (mergeD [] kds))) (S'.take S.length) else .st
  | _ => .st
def dDict0 : Env' → M Val := fun _ S => .ok (.d (.dict [])) S
section
variable {X : Cx} {n : Nat} {W : WX} {pos : Pos} {k v : Expr} {f g : Env' → M Val}
theorem ed_dict0 : ED X W (.Dict [] [] pos) dDict0 := PE.imp pe_dnewK fun σ H Q ⟨α, S, ρ, R, re, q⟩ => fun p hp => by
  obtain ⟨r3, x3, f3⟩ := R.new hp (.dK [])
  exact q _ _ _ x3 r3 (.dct f3 .nil)
abbrev trsD (X : Cx) (W : WX) (ps : List ((Env' → M Val) × (Env' → M Val))) : List (TE × TE) := ps.map fun p => (tD X.K X.mg W p.1, tD X.K X.mg W p.2)
theorem pairsQ {σ : L2.St} : ∀ (ps : List ((Env' → M Val) × (Env' → M Val))) {α : List Addr} {S : List Cell} {H : Hp} {ρ : Env'} {Q : List (V × V) → Hp → Prop}, Rep X.K X.mg ⟨α, S, H⟩ → RE X.K ⟨α, S, H⟩ σ ρ →
    After X.K X.mg (fun w a b => RP X.K w.F a b) ⟨α, S, H⟩ (dPairs ps ρ S) Q (fun c d H' => W c d σ H') → tPairs (trsD X W ps) σ H Q
  | [], α, S, H, ρ, Q, R, re, q => q α H [] (Ext.refl _) R .nil
  | (f, g) :: r, α, S, H, ρ, Q, R, re, q => by
    unfold dPairs at q
    refine ⟨α, S, ρ, R, re, After.imp (After.split (rel := RV X.K) q) (fun x H1 ⟨α1, S1, xa, e1, R1, r1, q1⟩ => ?_) fun _ _ _ z => z⟩
    cases ek : (rd S1 xa).bind toKey with
    | none => rw [ek] at q1; exact False.elim q1
    | some kk =>
      rw [ek] at q1
      dsimp only at q1
      obtain ⟨da, ed, et⟩ := Option.bind_eq_some_iff.mp ek
      have hx : x = kV kk := dv_key (R1.any r1 ed) et
      rw [Res.bind_assoc] at q1
      refine ⟨α1, S1, ρ, R1, re.mono e1, After.imp (After.split (rel := RV X.K) q1) (fun y H2 ⟨α2, S2, ya, e2, R2, r2, q2⟩ => ?_) fun _ _ _ z => z⟩
      obtain ⟨S3, d, e3, R3, dv, q3⟩ := frz_ok (w := ⟨α2, S2, H2⟩) R2 r2 q2
      refine pairsQ r (α := α2) (S := S3) (ρ := ρ) R3 ((re.mono e1).mono (e2.trans e3)) (After.imp (After.split (rel := fun w a b => RP X.K w.F a b) q3) (fun ps H4 ⟨α4, S4, kds, e4, R4, r4, q4⟩ => ?_) fun _ _ _ z => z)
      exact q4 α4 H4 _ (Ext.refl _) R4 (.cons ⟨hx, dv.mono e4.same⟩ r4)
/-- as After.split, the second part still told of the first world -/
theorem After.split0 {K : PySem.W.Frag} {mg : Str → Option Value} {A A' B B' : Type} {rel : Wd → B → A → Prop} {rel' : Wd → B' → A' → Prop} {w w1 : Wd} {r : Res A} {k : A → M A'} {Q : B' → Hp → Prop} {E : XK} (h : After K mg rel' w (r.bind k) Q E) (e : Ext w w1) :
    After K mg rel w1 r (fun b H => ∃ α S a, Ext w1 ⟨α, S, H⟩ ∧ Rep K mg ⟨α, S, H⟩ ∧ rel ⟨α, S, H⟩ b a ∧ After K mg rel' w (k a S) Q E) E := by
  cases r with
  | st => exact h
  | ok a S => exact fun α H b e1 e2 e3 => ⟨α, S, a, e1, e2, e3, h⟩
  | ex x S => exact After.later (r := Res.ex x S) (rel := rel) h e
theorem ed_dict {keys : List (Option Expr)} {values : List Expr} {ps : List ((Env' → M Val) × (Env' → M Val))} (h : PPs X pos keys values (trsD X W ps)) (hall : keys.all (·.isSome) = true := by rfl) (hl : keys.length = values.length := by rfl) (h0 : keys ≠ [] := by exact fun z => nomatch z) (h15 : keys.length ≤ 15 := by decide) :
    ED X W (.Dict keys values pos) (dDict ps) := PE.imp (pe_disp h hall hl h0 h15) fun σ H Q ⟨α, S, ρ, R, re, q⟩ => fun p hp => by
  obtain ⟨Rc, ec⟩ := R.cell hp (c := .dct []) (o := .dK []) rfl ⟨[], upd_same, .nil⟩
  have ha : ((α ++ [p]) : List Addr)[S.length]? = some p := by
    have z : α.length = S.length := R.len
    rw [List.getElem?_append_right (by rw [z]; exact Nat.le_refl _), z, Nat.sub_self]; rfl
  refine pairsQ ps Rc (re.mono ec) (After.imp (After.split0 (rel := fun w a b => RP X.K w.F a b) q ec) (fun pv H1 ⟨α1, S1, kds, e1, R1, r1, q1⟩ => ?_) fun _ _ _ z => z)
  have ha1 := e1.at_ ha
  split at q1
  · rename_i hs
    split at q1
    · rename_i hz
      obtain ⟨ks, h1, h2⟩ := R1.at_ S.length p _ ha1 hs
      cases h2
      obtain ⟨kvs, g1, g2, g3⟩ := RP.keys r1
      refine ⟨h1, kvs, g1, by rw [g2]; exact hz, ?_⟩
      have dm : DvKV X.K (Wd.F ⟨α1, S1, H1⟩) (mergeK [] kvs) (mergeD [] kds) := merge_dv g3 .nil
      obtain ⟨R4, e4⟩ := R1.write (c' := .dct (mergeD [] kds)) (o := .dK (mergeK [] kvs)) ha1 hs rfl rfl ⟨_, upd_same, dm⟩
      have hs4 : (S1.set S.length (.dct (mergeD [] kds)))[S.length]? = some (.dct (mergeD [] kds)) := List.getElem?_set_self (List.getElem?_eq_some_iff.mp hs).1
      obtain ⟨R5, e5, d5⟩ := R4.seal (d := .dict (mergeD [] kds)) ha1 hs4 rfl upd_same fun F eF h => .dct h (dm.mono (e4.same.trans eF))
      have cut := Ext.cut R R5 (((ec.trans e1).trans e4).trans e5)
      have st : ((S1.set S.length (.dct (mergeD [] kds))).set S.length (.old (.dict (mergeD [] kds)))).take S.length = S1.take S.length := by
        rw [List.take_set_of_le (Nat.le_refl _), List.take_set_of_le (Nat.le_refl _)]
      have R6 := (R5.cut S.length).1
      have d6 := Dv.mono (R5.cut S.length).2 d5
      dsimp only at cut R6 d6
      rw [st] at cut R6 d6
      exact q1 _ _ _ cut R6 d6
    · exact False.elim q1
  · exact False.elim q1
theorem dd_nil : PPs X pos [] [] (trsD X W []) := pps_nil
theorem dd_cons {ks : List (Option Expr)} {vs : List Expr} {ps : List ((Env' → M Val) × (Env' → M Val))} (hk : ED X W k f) (hv : ED X W v g) (hr : PPs X pos ks vs (trsD X W ps)) : PPs X pos (some k :: ks) (v :: vs) (trsD X W ((f, g) :: ps)) := pps_cons hk hv hr
end
end Zz
set_option maxRecDepth 100000
set_option maxHeartbeats 4000000
namespace Zz
open PySem PySem.Spec PyProof.Rows L2
/-! ### any iterable of ours -/
/-- what one walks of a value -/
def itemsD : D → Option (List D)
  | .list ds => some ds
  | .tuple ds => some ds
  | .str x => some (x.cps.toList.map fun c => .str ⟨#[c]⟩)
  | _ => none
def itAny (f : Env' → M Val) : Env' → M (List D) := fun ρ => (f ρ).bind fun x => (frz x).bind fun d => match itemsD d with
  | some ds => M.ret ds
  | none => M.st
section
variable {X : Cx} {n : Nat} {W : WX} {pos p : Pos} {tg e a b : Expr} {f : Env' → M Val}
theorem PI.or {t t' : TI} (h : PI X tg e t) (h' : PI X tg e t') : PI X tg e (fun σ H R => t σ H R ∨ t' σ H R) := ⟨fun pins s σ H R I q => q.elim (h.run pins s σ H R I) (h'.run pins s σ H R I)⟩
theorem id_any (he : ED X W e f) : ID X W tg e (itAny f) := PI.imp (Zz.PI.or (id_seq (W := W) he) (Zz.PI.or (id_tup (W := W) he) (id_str (W := W) he))) fun σ H R ⟨α, S, ρ, h1, h2, q⟩ => by
  have z : (f ρ S).bind (fun x => (frz x).bind fun d => match itemsD d with | some ds => M.ret ds | none => M.st) = itAny f ρ S := rfl
  rw [← z] at q
  cases ef : f ρ S with
  | st => rw [ef] at q; exact False.elim q
  | ex x S1 =>
    refine .inl ⟨α, S, ρ, h1, h2, ?_⟩
    rw [ef] at q
    show After X.K X.mg (Yields X.K X.mg) ⟨α, S, H⟩ ((f ρ S).bind _) _ _
    rw [ef]
    exact q
  | ok x S1 =>
    rw [ef] at q
    have q' : After X.K X.mg (Yields X.K X.mg) ⟨α, S, H⟩ ((frz x S1).bind fun d => match itemsD d with | some ds => M.ret ds | none => M.st) R (fun c d H' => W c d σ H') := q
    cases ez : frz x S1 with
    | st => rw [ez] at q'; exact False.elim q'
    | ex y S2 => exact absurd ez (frz_noex _ _ _ _)
    | ok d S2 =>
      rw [ez] at q'
      cases d with
      | list ds =>
        refine .inl ⟨α, S, ρ, h1, h2, ?_⟩
        show After X.K X.mg (Yields X.K X.mg) ⟨α, S, H⟩ ((f ρ S).bind _) _ _
        rw [ef]
        show After X.K X.mg (Yields X.K X.mg) ⟨α, S, H⟩ ((frz x S1).bind _) _ _
        rw [ez]
        exact q'
      | tuple ds =>
        refine .inr (.inl ⟨α, S, ρ, h1, h2, ?_⟩)
        show After X.K X.mg (Yields X.K X.mg) ⟨α, S, H⟩ ((f ρ S).bind _) _ _
        rw [ef]
        show After X.K X.mg (Yields X.K X.mg) ⟨α, S, H⟩ ((frz x S1).bind _) _ _
        rw [ez]
        exact q'
      | str x =>
        refine .inr (.inr ⟨α, S, ρ, h1, h2, ?_⟩)
        show After X.K X.mg (Yields X.K X.mg) ⟨α, S, H⟩ ((f ρ S).bind _) _ _
        rw [ef]
        show After X.K X.mg (Yields X.K X.mg) ⟨α, S, H⟩ ((frz _ S1).bind _) _ _
        rw [ez]
        exact q'
      | none => exact False.elim q'
      | bool b => exact False.elim q'
      | int i => exact False.elim q'
      | dict ds => exact False.elim q'
end
/-! ### built-ins of two arguments -/
section
variable {X : Cx} {n : Nat} {W : WX} {pos : Pos} {a b : Expr} {f g : Env' → M Val}
theorem ed_fn2 {id : String} {x : Str} {p : Pos} {o : O2} (hc : CallR X (.builtin id) (fun xs H Q => ∃ u v, xs = [u, v] ∧ r2D X.K X.mg o u v H Q)) (hm : X.mg x = none) (hv : bootBuiltins x = some (.builtin id)) (ha : ED X W a f) (hb : ED X W b g) (hg : Gl X x := by rfl) (hn : x ≠ "__name__" := by decide) (hdb : (x == ("__debug__" : Str)) = false := by decide)
    (he : starEach [a, b] X.env = (false, eval a X.env) :: starEach [b] X.env := by rfl) (he2 : starEach [b] X.env = (false, eval b X.env) :: starEach [] X.env := by rfl) (hpl : (backTo pos (starEach [b] X.env)).any (·.1) = false := by rfl) : ED X W (.Call (.Name x p) [a, b] [] pos) (dBin o f g) :=
  PE.imp (pe_callB hc hg hm hv (pa_cons ha (pa_cons hb pa_nil he2) he) hn hdb he hpl) fun σ H Q q => by
    obtain ⟨α, S, ρ, R, re, q⟩ := binQ q
    refine ⟨α, S, ρ, R, re, After.imp q (fun v H1 q1 => ?_) fun _ _ _ z => z⟩
    obtain ⟨α1, S1, ρ1, R1, re1, q2⟩ := q1
    exact ⟨α1, S1, ρ1, R1, re1, After.imp q2 (fun u H2 q3 => ⟨v, u, rfl, q3⟩) fun _ _ _ z => z⟩
def oMin : O2 := fun a b => match a, b with
  | .int i, .int j => some (.int (if j < i then j else i))
  | _, _ => none
def oMax : O2 := fun a b => match a, b with
  | .int i, .int j => some (.int (if j > i then j else i))
  | _, _ => none
theorem cd_min (C : CxOk X n) : CallR X (.builtin "min") (fun xs H Q => ∃ u v, xs = [u, v] ∧ r2D X.K X.mg oMin u v H Q) := by
  refine CallR.imp (call_min2 C.hc) fun xs H Q h => ?_
  obtain ⟨u, v, rfl, w, a, b, da, db, c, rfl, R, ra, rb, ea, eb, ec, q⟩ := h
  unfold oMin at ec
  split at ec
  · cases ec
    cases R.int ra ea
    cases R.int rb eb
    exact ⟨_, _, rfl, q.here R (.int _)⟩
  · cases ec
theorem cd_max (C : CxOk X n) : CallR X (.builtin "max") (fun xs H Q => ∃ u v, xs = [u, v] ∧ r2D X.K X.mg oMax u v H Q) := by
  refine CallR.imp (call_max2 C.hc) fun xs H Q h => ?_
  obtain ⟨u, v, rfl, w, a, b, da, db, c, rfl, R, ra, rb, ea, eb, ec, q⟩ := h
  unfold oMax at ec
  split at ec
  · cases ec
    cases R.int ra ea
    cases R.int rb eb
    exact ⟨_, _, rfl, q.here R (.int _)⟩
  · cases ec
end
/-! ### classes asked of classes -/
section
variable {K : PySem.W.Frag} {C D : Addr} {b d : Bool} {T : String} {t c : Value} {r : List Value}
theorem kit_ref (hne : D ≠ C) (hd : PySem.W.hasDictIn K C = true) (ht : PySem.W.typeIn K (.ref C) = some (.type "type")) (h : PySem.W.subIn K (.ref D) (.ref C) = some b) : PySem.W.kitOne K (.ref D) (.ref C) = some b := by
  obtain ⟨cd, hc, _⟩ := PySem.W.any_some hd
  have e1 : (Value.ref D == Value.ref C) = false := beq_eq_false_iff_ne.mpr fun z => hne (Value.ref.inj z)
  have e2 : ((PySem.W.clsIn K C).isSome && PySem.W.typeIn K (.ref C) == some (.type "type")) = true := by rw [hc, ht] <;> rfl
  unfold PySem.W.kitOne
  rw [e1, if_neg Bool.false_ne_true]
  show (if ((PySem.W.clsIn K C).isSome && PySem.W.typeIn K (.ref C) == some (.type "type")) = true then PySem.W.subIn K (.ref D) (.ref C) else none) = some b
  rw [if_pos e2]
  exact h
theorem kit_same : PySem.W.kitOne K t t = some true := by
  unfold PySem.W.kitOne
  rw [if_pos (beq_self_eq_true t)]
theorem kit_typ (hm : PySem.W.kitMeta T = true) (h : PySem.W.subIn K (.ref D) (.type T) = some b) : PySem.W.kitOne K (.ref D) (.type T) = some b := by
  have e1 : (Value.ref D == Value.type T) = false := rfl
  unfold PySem.W.kitOne
  rw [e1, if_neg Bool.false_ne_true]
  show (if PySem.W.kitMeta T = true then PySem.W.subIn K (.ref D) (.type T) else none) = some b
  rw [if_pos hm]
  exact h
theorem exms_nil : PySem.W.exmAny K t [] = some false := rfl
theorem exms_cons (h : PySem.W.exmOne K t c = some b) (hr : PySem.W.exmAny K t r = some d) : PySem.W.exmAny K t (c :: r) = some (b || d) := by
  unfold PySem.W.exmAny
  rw [h, hr]
theorem kits_nil : PySem.W.kitAny K t [] = some false := rfl
theorem kits_no (h : PySem.W.kitOne K t c = some false) (hr : PySem.W.kitAny K t r = some d) : PySem.W.kitAny K t (c :: r) = some d := by
  unfold PySem.W.kitAny
  rw [h]
  exact hr
theorem kits_yes (h : PySem.W.kitOne K t c = some true) : PySem.W.kitAny K t (c :: r) = some true := by
  unfold PySem.W.kitAny
  rw [h]
end
/-! ### keywords in another order -/
def swap2 {T : Type} : List T → List T
  | [x, y] => [y, x]
  | l => l
theorem swap2_p {T U : Type} {r : T → U → Prop} : ∀ {a : List T} {b : List U}, Paired r a b → Paired r (swap2 a) (swap2 b)
  | _, _, .nil => .nil
  | _, _, .cons h .nil => .cons h .nil
  | _, _, .cons h (.cons k .nil) => .cons k (.cons h .nil)
  | _, _, .cons h (.cons k (.cons m t)) => .cons h (.cons k (.cons m t))
theorem swap2_l {T : Type} : ∀ a : List T, (swap2 a).length = a.length
  | [] => rfl
  | [_] => rfl
  | [_, _] => rfl
  | _ :: _ :: _ :: _ => rfl
/-- the same order -/
def same2 {T : Type} (a : List T) : List T := a
end Zz
set_option maxRecDepth 100000
set_option maxHeartbeats 4000000
namespace Zz
open PySem PySem.Spec PyProof.Rows L2
/-! ### reckoning with readings -/
@[simp] theorem rd_d (S : List Cell) (x : D) : rd S (.d x) = some x := rfl
@[simp] theorem frz_d (x : D) (S : List Cell) : frz (.d x) S = .ok x S := rfl
@[simp] theorem Res.bind_ok {A B : Type} (a : A) (S : List Cell) (k : A → M B) : (Res.ok a S).bind k = k a S := rfl
@[simp] theorem Res.bind_st {A B : Type} (k : A → M B) : (Res.st : Res A).bind k = .st := rfl
@[simp] theorem Res.bind_ex {A B : Type} (x : Ex) (S : List Cell) (k : A → M B) : (Res.ex x S : Res A).bind k = .ex x S := rfl
@[simp] theorem Res.then_ok {A : Type} (a : A) (S : List Cell) (ρ : Env') (k : A → List Cell → SRes) : (Res.ok a S).then_ ρ k = k a S := rfl
@[simp] theorem Res.then_ex {A : Type} (x : Ex) (S : List Cell) (ρ : Env') (k : A → List Cell → SRes) : (Res.ex x S : Res A).then_ ρ k = .ex x ρ S := rfl
@[simp] theorem M.bind_at {A B : Type} (m : M A) (k : A → M B) (S : List Cell) : M.bind m k S = (m S).bind k := rfl
@[simp] theorem M.ret_at {A : Type} (a : A) (S : List Cell) : M.ret a S = .ok a S := rfl
@[simp] theorem dC_at (d : D) (ρ : Env') (S : List Cell) : dC d ρ S = .ok (.d d) S := rfl
theorem dVar_at {i : Nat} {ρ : Env'} {S : List Cell} {x : Val} (h : ρ[i]? = some (some x)) : dVar i ρ S = .ok x S := by unfold dVar; rw [h]
@[simp] theorem on1_d (o : D → Option D) (x c : D) (S : List Cell) (h : o x = some c) : on1 o (.d x) S = .ok (.d c) S := by unfold on1; simp [h]
theorem dFn1_at {o : D → Option D} {f : Env' → M Val} {ρ : Env'} {S S' : List Cell} {v : Val} {x c : D} (h : f ρ S = .ok v S') (hr : rd S' v = some x) (e : o x = some c) : dFn1 o f ρ S = .ok (.d c) S' := by
  show (f ρ S).bind (on1 o) = _
  rw [h]
  show on1 o v S' = _
  unfold on1
  rw [hr]
  simp [e]
theorem dBin_at {o : O2} {f g : Env' → M Val} {ρ : Env'} {S S1 S2 : List Cell} {v u : Val} {x y c : D} (h : f ρ S = .ok v S1) (h2 : g ρ S1 = .ok u S2) (hr : rd S2 v = some x) (hr2 : rd S2 u = some y) (e : o x y = some c) : dBin o f g ρ S = .ok (.d c) S2 := by
  show (f ρ S).bind (fun x => (g ρ).bind fun y => on2 o x y) = _
  rw [h]
  show (g ρ S1).bind (fun y => on2 o v y) = _
  rw [h2]
  show on2 o v u S2 = _
  unfold on2
  rw [hr, hr2]
  simp [e]
/-! ### comprehensions that only tell -/
theorem lcGo_pure {g : Tg} {ts : Env' → M Bool} {f : Env' → M Val} {ρ0 : Env'} {S : List Cell} {ρ1 : D → Env'} {p : D → Bool} {v : D → D} : ∀ (ds acc : List D), acc.length + ds.length ≤ 16777216 →
    (∀ d ∈ ds, g (.d d) ρ0 = some (ρ1 d)) → (∀ d ∈ ds, ∀ R, ts (ρ1 d) (S ++ R) = .ok (p d) (S ++ R)) → (∀ d ∈ ds, p d = true → ∀ R, f (ρ1 d) (S ++ R) = .ok (.d (v d)) (S ++ R)) →
    lcGo g (kTest ts (kPush S.length f)) ρ0 ds (S ++ [.lst acc]) = some (S ++ [.lst (acc ++ (ds.filter p).map v)])
  | [], acc, _, _, _, _ => by simp [lcGo]
  | d :: ds, acc, hl, h1, h2, h3 => by
    have hl' : acc.length + (ds.length + 1) ≤ 16777216 := hl
    unfold lcGo
    rw [h1 d List.mem_cons_self]
    show (kTest ts (kPush S.length f) (ρ1 d) (S ++ [.lst acc])).bind _ = _
    have get : (S ++ [Cell.lst acc])[S.length]? = some (.lst acc) := by rw [List.getElem?_append_right (Nat.le_refl _), Nat.sub_self]; rfl
    unfold kTest
    rw [h2 d List.mem_cons_self]
    dsimp only
    by_cases hp : p d = true
    · rw [if_pos hp]
      unfold kPush
      rw [h3 d List.mem_cons_self hp]
      show (push S.length (v d) (S ++ [.lst acc])).bind _ = _
      unfold push
      rw [get]
      dsimp only
      rw [if_pos (by omega)]
      have st : (S ++ [Cell.lst acc]).set S.length (.lst (acc ++ [v d])) = S ++ [.lst (acc ++ [v d])] := by
        rw [List.set_append_right _ _ (Nat.le_refl _), Nat.sub_self]; rfl
      rw [st]
      show lcGo g (kTest ts (kPush S.length f)) ρ0 ds (S ++ [.lst (acc ++ [v d])]) = _
      rw [lcGo_pure ds (acc ++ [v d]) (by simp; omega) (fun e he => h1 e (List.mem_cons_of_mem _ he)) (fun e he => h2 e (List.mem_cons_of_mem _ he)) (fun e he => h3 e (List.mem_cons_of_mem _ he)), List.filter_cons_of_pos hp, List.map_cons, List.append_assoc]
      rfl
    · rw [if_neg hp]
      show lcGo g (kTest ts (kPush S.length f)) ρ0 ds (S ++ [.lst acc]) = _
      rw [lcGo_pure ds acc (by omega) (fun e he => h1 e (List.mem_cons_of_mem _ he)) (fun e he => h2 e (List.mem_cons_of_mem _ he)) (fun e he => h3 e (List.mem_cons_of_mem _ he)), List.filter_cons_of_neg hp]
theorem lcEnd_at (S : List Cell) (es : List D) : lcEnd S.length (some (S ++ [.lst es])) = .ok (.d (.list es)) S := by
  unfold lcEnd
  have get : (S ++ [Cell.lst es])[S.length]? = some (.lst es) := by rw [List.getElem?_append_right (Nat.le_refl _), Nat.sub_self]; rfl
  have z : frz (.c S.length) (S ++ [Cell.lst es]) = .ok (.list es) ((S ++ [Cell.lst es]).set S.length (.old (.list es))) := by
    unfold frz
    simp only [get]
  show (frz (.c S.length) (S ++ [Cell.lst es])).bind (fun d T' => Res.ok (Val.d d) (T'.take S.length)) = _
  rw [z]
  show Res.ok _ (((S ++ [Cell.lst es]).set S.length (.old (.list es))).take S.length) = _
  rw [List.take_set_of_le (Nat.le_refl _), List.take_left']
  rfl
theorem dLc_pure {it : Env' → M (List D)} {g : Tg} {ts : Env' → M Bool} {f : Env' → M Val} {vs : List Nat} {ρ : Env'} {S S1 : List Cell} {ds : List D} {ρ1 : D → Env'} {p : D → Bool} {v : D → D} (hi : it ρ S = .ok ds S1) (hl : ds.length ≤ 16777216)
    (h1 : ∀ d ∈ ds, g (.d d) (wipeE ρ vs) = some (ρ1 d)) (h2 : ∀ d ∈ ds, ∀ R, ts (ρ1 d) (S1 ++ R) = .ok (p d) (S1 ++ R)) (h3 : ∀ d ∈ ds, p d = true → ∀ R, f (ρ1 d) (S1 ++ R) = .ok (.d (v d)) (S1 ++ R)) :
    dLc it g (fun l => kTest ts (kPush l f)) vs ρ S = .ok (.d (.list ((ds.filter p).map v))) S1 := by
  show (it ρ S).bind _ = _
  rw [hi]
  show lcEnd S1.length (lcGo g (kTest ts (kPush S1.length f)) (wipeE ρ vs) ds (S1 ++ [.lst []])) = _
  rw [lcGo_pure ds [] (by simpa using hl) h1 h2 h3, List.nil_append, lcEnd_at]
/-- the signs of a text, each a text -/
def signs (x : Str) : List D := x.cps.toList.map fun c => .str ⟨#[c]⟩
theorem itAny_at {f : Env' → M Val} {ρ : Env'} {S S1 : List Cell} {d : D} {ds : List D} (h : f ρ S = .ok (.d d) S1) (e : itemsD d = some ds) : itAny f ρ S = .ok ds S1 := by
  show (f ρ S).bind _ = _
  rw [h]
  show (match itemsD d with | some ds => M.ret ds | none => M.st) S1 = _
  rw [e]
  rfl
theorem itRng_at {f : Env' → M Val} {ρ : Env'} {S S1 : List Cell} {j : Int} (h : f ρ S = .ok (.d (.int j)) S1) (hz : -(2 ^ 62) ≤ j ∧ j < 2 ^ 62) : itRng f ρ S = .ok ((List.range j.toNat).map fun i : Nat => .int (0 + i)) S1 := by
  show (f ρ S).bind _ = _
  rw [h]
  show (if -(2 ^ 62) ≤ j ∧ j < 2 ^ 62 then M.ret ((List.range j.toNat).map fun i : Nat => PyData.int (0 + i)) else M.st) S1 = _
  rw [if_pos hz]
  rfl
theorem iteA {A B : Type} {c : Prop} [Decidable c] (f g : A → B) (a : A) : (if c then f else g) a = if c then f a else g a := by split <;> rfl
theorem size_len (x : Str) : x.cps.toList.length = x.length := by simp [Str.length]
theorem filter_yes {A : Type} (l : List A) : l.filter (fun _ => true) = l := by induction l with | nil => rfl | cons a l ih => rw [List.filter_cons_of_pos rfl, ih]
theorem at0 {A : Type} (a : A) (r : List A) : atI (a :: r) 0 = some a := atI_nat (j := 0) rfl
end Zz
set_option maxRecDepth 100000
set_option maxHeartbeats 4000000
namespace Zz
open PySem PySem.Spec PyProof.Rows L2
/-! ### reckoning step by step -/
section
variable {ρ ρ' : Env'} {S S' S1 S2 : List Cell}
theorem sSeq_nx {f g : SD} (h : f ρ S = .nx ρ' S') : sSeq f g ρ S = g ρ' S' := by unfold sSeq; rw [h]
theorem sSeq_rt {f g : SD} {v : Val} (h : f ρ S = .rt v S') : sSeq f g ρ S = .rt v S' := by unfold sSeq; rw [h]
theorem sSet_at {i : Nat} {f : Env' → M Val} {v : Val} (h : f ρ S = .ok v S') : sSet i f ρ S = .nx (ρ.set i (some v)) S' := by unfold sSet; rw [h]; rfl
theorem sRet_at {f : Env' → M Val} {v : Val} (h : f ρ S = .ok v S') : sRet f ρ S = .rt v S' := by unfold sRet; rw [h]; rfl
theorem sExpr_at {f : Env' → M Val} {v : Val} (h : f ρ S = .ok v S') : sExpr f ρ S = .nx ρ S' := by unfold sExpr; rw [h]; rfl
theorem sIf_at {t : Env' → M Bool} {f g : SD} {b : Bool} (h : t ρ S = .ok b S') : sIf t f g ρ S = if b = true then f ρ S' else g ρ S' := by unfold sIf; rw [h]; rfl
theorem sIf_t {t : Env' → M Bool} {f g : SD} (h : t ρ S = .ok true S') : sIf t f g ρ S = f ρ S' := by rw [sIf_at h, if_pos rfl]
theorem sIf_f {t : Env' → M Bool} {f g : SD} (h : t ρ S = .ok false S') : sIf t f g ρ S = g ρ S' := by rw [sIf_at h, if_neg Bool.false_ne_true]
theorem sIf_skip {t : Env' → M Bool} {f : SD} (h : t ρ S = .ok false S') : sIf t f sNil ρ S = .nx ρ S' := sIf_f h
theorem toB_at {f : Env' → M Val} {b : Bool} (h : f ρ S = .ok (.d (.bool b)) S') : toB f ρ S = .ok b S' := by unfold toB; rw [h]; rfl
theorem toT_at {f : Env' → M Val} {v : Val} {d : D} {b : Bool} (h : f ρ S = .ok v S') (hr : rd S' v = some d) (e : truD d = some b) : toT f ρ S = .ok b S' := by
  show (f ρ S).bind _ = _
  rw [h]
  show (match rd S' v with | some d => (match truD d with | some b => Res.ok b S' | none => .st) | none => .st) = _
  rw [hr]
  show (match truD d with | some b => Res.ok b S' | none => .st) = _
  rw [e]
theorem tNotD_at {t : Env' → M Bool} {b : Bool} (h : t ρ S = .ok b S') : tNotD t ρ S = .ok (!b) S' := by
  show (t ρ S).bind _ = _
  rw [h]; rfl
theorem tAndD_t {t u : Env' → M Bool} {b : Bool} (h : t ρ S = .ok true S') (h2 : u ρ S' = .ok b S2) : tAndD t u ρ S = .ok b S2 := by
  show (t ρ S).bind _ = _
  rw [h]; exact h2
theorem tAndD_f {t u : Env' → M Bool} (h : t ρ S = .ok false S') : tAndD t u ρ S = .ok false S' := by
  show (t ρ S).bind _ = _
  rw [h]; rfl
theorem tOrD_t {t u : Env' → M Bool} (h : t ρ S = .ok true S') : tOrD t u ρ S = .ok true S' := by
  show (t ρ S).bind _ = _
  rw [h]; rfl
theorem tOrD_f {t u : Env' → M Bool} {b : Bool} (h : t ρ S = .ok false S') (h2 : u ρ S' = .ok b S2) : tOrD t u ρ S = .ok b S2 := by
  show (t ρ S).bind _ = _
  rw [h]; exact h2
theorem dIf_t {t : Env' → M Bool} {f g : Env' → M Val} (h : t ρ S = .ok true S') : dIf t f g ρ S = f ρ S' := by
  show (t ρ S).bind _ = _
  rw [h]; rfl
theorem dIf_f {t : Env' → M Bool} {f g : Env' → M Val} (h : t ρ S = .ok false S') : dIf t f g ρ S = g ρ S' := by
  show (t ρ S).bind _ = _
  rw [h]; rfl
theorem dNil_at : dNil ρ S = .ok [] S := rfl
theorem dCons_at {f : Env' → M Val} {g : Env' → M (List Val)} {x : Val} {xs : List Val} (h : f ρ S = .ok x S1) (h2 : g ρ S1 = .ok xs S2) : dCons f g ρ S = .ok (x :: xs) S2 := by
  show (f ρ S).bind _ = _
  rw [h]
  show (g ρ S1).bind _ = _
  rw [h2]; rfl
theorem dCall_at {F : Fn} {g : Env' → M (List Val)} {xs : List Val} (h : g ρ S = .ok xs S1) : dCall F g ρ S = F xs S1 := by
  show (g ρ S).bind _ = _
  rw [h]; rfl
theorem dTup_at {g : Env' → M (List Val)} {xs : List Val} {ds : List D} (h : g ρ S = .ok xs S1) (h2 : frzs xs S1 = .ok ds S2) (hz : ds.length ≤ 16777216) : dTup g ρ S = .ok (.d (.tuple ds)) S2 := by
  show (g ρ S).bind _ = _
  rw [h]
  show (frzs xs S1).bind _ = _
  rw [h2]
  show (if ds.length ≤ 16777216 then M.ret (Val.d (.tuple ds)) else M.st) S2 = _
  rw [if_pos hz]; rfl
theorem dLst_at {g : Env' → M (List Val)} {xs : List Val} {ds : List D} (h : g ρ S = .ok xs S1) (h2 : frzs xs S1 = .ok ds S2) (hz : ds.length ≤ 16777216) : dLst g ρ S = .ok (.d (.list ds)) S2 := by
  show (g ρ S).bind _ = _
  rw [h]
  show (frzs xs S1).bind _ = _
  rw [h2]
  show (if ds.length ≤ 16777216 then M.ret (Val.d (.list ds)) else M.st) S2 = _
  rw [if_pos hz]; rfl
theorem frzs_d : ∀ (ms : List D) (S : List Cell), frzs (ms.map .d) S = .ok ms S
  | [], S => rfl
  | d :: ms, S => by
    show ((frzs (ms.map .d) S).bind fun ds => M.ret (d :: ds)) = _
    rw [frzs_d ms S]; rfl
theorem body_rt {np nl : Nat} {b : SD} {as : List Val} {d : D} {R : List Cell} (ha : as.length = np) (h : b (as.map some ++ List.replicate (nl - as.length) none) S = .rt (.d d) R) : bodyFn np nl b as S = .ok (.d d) (R.take S.length) := by
  unfold bodyFn
  rw [if_pos ha, h]; rfl
/-- an index within -/
theorem atI_in {A : Type} (l : List A) (i : Int) (h0 : 0 ≤ i) (h1 : i < l.length) : ∃ a, a ∈ l ∧ atI l i = some a := by
  obtain ⟨j, rfl⟩ := Int.eq_ofNat_of_zero_le h0
  have hj : j < l.length := by omega
  exact ⟨l[j], List.getElem_mem hj, atI_nat (j := j) (List.getElem?_eq_getElem hj)⟩
theorem fmod_in (i : Int) (n : Int) (h : 0 < n) : 0 ≤ i.fmod n ∧ i.fmod n < n := ⟨Int.fmod_nonneg_of_pos i h, Int.fmod_lt_of_pos i h⟩
end
end Zz
set_option maxRecDepth 100000
set_option maxHeartbeats 4000000
namespace Zz
open PySem PySem.Spec PyProof.Rows L2
section
variable {X : Cx} {n : Nat} {W : WX} {pos : Pos} {a b : Expr} {f g : Env' → M Val}
/-! ### -n -/
def oNeg : D → Option D
  | .int i => some (.int (-i))
  | _ => none
theorem ed_neg (ha : ED X W a f) : ED X W (.UnaryOp .USub a pos) (dFn1 oNeg f) := PE.imp (pe_un un_neg ha) fun σ H Q ⟨α, S, ρ, R, re, q⟩ => ⟨α, S, ρ, R, re, After.imp (After.split (rel := RV X.K) q) (fun v H1 ⟨α1, S1, x, e1, R1, r1, q1⟩ => by
  obtain ⟨w, y, z, da, c, rfl, e3, Rw, rx, ea2, ec, ans⟩ := on1_ok (w := ⟨α1, S1, H1⟩) R1 r1 q1
  cases e3
  unfold oNeg at ec
  split at ec
  · cases ec
    cases Rw.int rx ea2
    exact ⟨_, rfl, ans.here Rw (.int _)⟩
  · cases ec) fun _ _ _ z => z⟩
/-! ### str(x) -/
def oStr : D → Option D
  | .int i => if i.natAbs.log2 < 1920 then some (.str (toString i)) else none
  | .str x => some (.str x)
  | .bool b => some (.str (if b then "True" else "False"))
  | _ => none
theorem call_str_bl : CallR X (.type "str") (fun xs H Q => ∃ b, xs = [.bl b] ∧ Q (.str (if b then "True" else "False")) H) := by
  intro pins s σ H xs us Q I r h
  obtain ⟨b, rfl, q⟩ := h
  obtain ⟨u, rfl, e⟩ := vals1 r
  cases e
  exact PySem.P.str_of_bool ⟨.str _, H, I.tok _, ⟨_, rfl⟩, q⟩
theorem CallR.or {v : Value} {r r' : List V → Hp → VK → Prop} (h : CallR X v r) (h' : CallR X v r') : CallR X v (fun xs H Q => r xs H Q ∨ r' xs H Q) := fun pins s σ H xs us Q I rr q => q.elim (h pins s σ H xs us Q I rr) (h' pins s σ H xs us Q I rr)
theorem cd_str : CallR X (.type "str") (r1D X.K X.mg oStr) := by
  refine CallR.imp (Zz.CallR.or (call_str_int (X := X)) (Zz.CallR.or (SkE.call_str_str (X := X)) (call_str_bl (X := X)))) fun xs H Q h => ?_
  obtain ⟨w, x, a, da, c, rfl, rfl, R, ra, ea, ec, q⟩ := h
  unfold oStr at ec
  split at ec
  · split at ec
    · rename_i hz
      cases ec
      cases R.int ra ea
      exact .inl ⟨_, rfl, hz, q.here R (.str _)⟩
    · cases ec
  · cases ec
    cases R.str ra ea
    exact .inr (.inl ⟨_, rfl, q.here R (.str _)⟩)
  · cases ec
    cases R.bool ra ea
    exact .inr (.inr ⟨_, rfl, q.here R (.str _)⟩)
  · cases ec
/-! ### list(range(n)), tuple(range(n)) -/
def rgD (j : Int) : List D := (List.range j.toNat).map fun i : Nat => .int (0 + i)
theorem dv_rg {K : PySem.W.Frag} {F : Hp} (j : Int) : DvAll K F (rgV 0 j) (rgD j) := by
  unfold rgV rgD
  rw [Int.sub_zero]
  induction List.range j.toNat with
  | nil => exact .nil
  | cons a l ih => exact .cons (.int _) ih
def onRg (k : List D → D) : Val → M Val := fun x S => match rd S x with
  | some (.int j) => if 0 ≤ j ∧ j ≤ 16777216 then .ok (.d (k (rgD j))) S else .st
  | _ => .st
def dLstRg (f : Env' → M Val) : Env' → M Val := fun ρ => (f ρ).bind (onRg .list)
def dTupRg (f : Env' → M Val) : Env' → M Val := fun ρ => (f ρ).bind (onRg .tuple)
theorem rgQ {k : List D → D} {w : Wd} {v : V} {x : Val} {Q : VK} {E : XK} (R : Rep X.K X.mg w) (r : RV X.K w v x) (q : After X.K X.mg (RV X.K) w (onRg k x w.S) Q E) : ∃ j, v = .int j ∧ 0 ≤ j ∧ j ≤ 16777216 ∧ ∀ H' u, Ext w (w.at H') → Rep X.K X.mg (w.at H') → Dv X.K (w.at H').F u (k (rgD j)) → Q u H' := by
  unfold onRg at q
  cases e : rd w.S x with
  | none => rw [e] at q; exact False.elim q
  | some d =>
    cases d <;> first | (rw [e] at q; exact False.elim q) | skip
    rename_i j
    rw [e] at q
    dsimp only at q
    split at q
    · rename_i hz
      exact ⟨j, R.int r e, hz.1, hz.2, fun H' u e1 R1 d1 => q w.α H' u e1 R1 d1⟩
    · exact False.elim q
theorem ed_listRg {p p2 pos2 : Pos} (C : CxOk X n) (hm : X.mg "list" = none) (hm2 : X.mg "range" = none) (ha : ED X W a f) (hg : Gl X "list" := by rfl) (hg2 : Gl X "range" := by rfl) (na : starEach [a] X.env = (false, eval a X.env) :: starEach [] X.env := by rfl)
    (na2 : starEach [.Call (.Name "range" p2) [a] [] pos2] X.env = (false, eval (.Call (.Name "range" p2) [a] [] pos2) X.env) :: starEach [] X.env := by rfl) : ED X W (.Call (.Name "list" p) [.Call (.Name "range" p2) [a] [] pos2] [] pos) (dLstRg f) :=
  PE.imp (pe_listRg C.hc hg hm (prg_1 hg2 hm2 ha na) na2) fun σ H Q ⟨α, S, ρ, R, re, q⟩ => ⟨α, S, ρ, R, re, After.imp (After.split (rel := RV X.K) q) (fun v H1 ⟨α1, S1, x, e1, R1, r1, q1⟩ => by
    obtain ⟨j, rfl, h0, h1, q2⟩ := rgQ (w := ⟨α1, S1, H1⟩) R1 r1 q1
    refine ⟨j, rfl, RgOk.of_le (by decide) h1 (by decide) h0, fun p hp => ?_⟩
    obtain ⟨r3, x3, f3⟩ := R1.new hp (.lst (rgV 0 j))
    exact q2 _ _ x3 r3 (.lst (SqL.of f3) (dv_rg j))) fun _ _ _ z => z⟩
theorem ed_tupRg {p p2 pos2 : Pos} (C : CxOk X n) (hm : X.mg "tuple" = none) (hm2 : X.mg "range" = none) (ha : ED X W a f) (hg : Gl X "tuple" := by rfl) (hg2 : Gl X "range" := by rfl) (na : starEach [a] X.env = (false, eval a X.env) :: starEach [] X.env := by rfl)
    (na2 : starEach [.Call (.Name "range" p2) [a] [] pos2] X.env = (false, eval (.Call (.Name "range" p2) [a] [] pos2) X.env) :: starEach [] X.env := by rfl) : ED X W (.Call (.Name "tuple" p) [.Call (.Name "range" p2) [a] [] pos2] [] pos) (dTupRg f) :=
  PE.imp (pe_tupRgP C.hc hg hm (prg_1 hg2 hm2 ha na) na2) fun σ H Q ⟨α, S, ρ, R, re, q⟩ => ⟨α, S, ρ, R, re, After.imp (After.split (rel := RV X.K) q) (fun v H1 ⟨α1, S1, x, e1, R1, r1, q1⟩ => by
    obtain ⟨j, rfl, h0, h1, q2⟩ := rgQ (w := ⟨α1, S1, H1⟩) R1 r1 q1
    refine ⟨j, rfl, RgOk.of_le (by decide) h1 (by decide) h0, fun p ob hp hd => ?_⟩
    obtain ⟨r3, x3, f3⟩ := R1.new hp (.frz ob (.tup (rgV 0 j)))
    exact q2 _ _ x3 r3 (.tup (.inl ⟨ob, f3, hd⟩) (dv_rg j))) fun _ _ _ z => z⟩
end
/-- nothing is promised -/
theorem fnG_st {P : Program} {w : World} {K : PySem.W.Frag} {mg : Str → Option Value} {base : Heap} {k : Nat} {f : Addr} {fd : FuncData} {ps : List Str} : FnG P w K mg base k f fd ps (fun _ _ => .st) :=
  ⟨fun _ _ _ _ _ _ _ _ _ _ _ _ _ _ _ h => by obtain ⟨_, _, _, _, _, q⟩ := h; exact False.elim q⟩
end Zz
set_option maxRecDepth 100000
set_option maxHeartbeats 4000000
namespace Zz
open PySem PySem.Spec PyProof.Rows L2
/-! ### dict(pairs), x[::-1] -/
def pairD : D → Option (Key × D)
  | .tuple [k, v] => (toKey k).map fun j => (j, v)
  | _ => none
def oDictOf : D → Option D
  | .list ps => (ps.mapM pairD).map fun kds => .dict (mergeD [] kds)
  | .tuple ps => (ps.mapM pairD).map fun kds => .dict (mergeD [] kds)
  | _ => none
theorem pairs_dv {K : PySem.W.Frag} {F H : Hp} (e : Same F H) : ∀ {ps : List D} {xs : List V} {kds : List (Key × D)}, DvAll K F xs ps → ps.mapM pairD = some kds →
    ∃ (as : List Addr) (kvs : List (Key × V)), xs = as.map V.ref ∧ Paired (fun p kv => SqT K H p [kV kv.1, kv.2]) as kvs ∧ Paired (fun (a : Key × V) (b : Key × D) => a.1 = b.1 ∧ Dv K F a.2 b.2) kvs kds
  | [], _, kds, h, m => by
    cases h
    cases (Option.some.inj m : [] = kds)
    exact ⟨[], [], rfl, .nil, .nil⟩
  | p :: ps, _, kds, h, m => by
    cases h with | cons h t =>
    rw [List.mapM_cons] at m
    cases e1 : pairD p with
    | none => rw [e1] at m; cases m
    | some kd =>
      rw [e1] at m
      cases e2 : ps.mapM pairD with
      | none => rw [e2] at m; cases m
      | some r =>
        rw [e2] at m
        cases (Option.some.inj m : kd :: r = kds)
        obtain ⟨as, kvs, ex, p1, p2⟩ := pairs_dv e t e2
        unfold pairD at e1
        split at e1
        · rename_i k d
          cases h with | tup h1 h2 =>
          cases h2 with | cons h3 h4 =>
          cases h4 with | cons h5 h6 =>
          cases h6
          cases ek : toKey k with
          | none => rw [ek] at e1; cases e1
          | some j =>
            rw [ek] at e1
            cases e1
            cases dv_key h3 ek
            exact ⟨_ :: as, (j, _) :: kvs, by rw [ex]; rfl, .cons (plT e h1).sq p1, .cons ⟨rfl, h5⟩ p2⟩
        · cases e1
section
variable {X : Cx} {W : WX} {n : Nat} {e : Expr} {f : Env' → M Val} {pos : Pos}
theorem cd_dict (C : CxOk X n) : CallR X (.type "dict") (r1D X.K X.mg oDictOf) := by
  refine CallR.imp (CallR.or (call_dictP C.hc) (call_dictTP C.hc)) fun xs H Q h => ?_
  obtain ⟨w, x, a, da, c, rfl, rfl, R, ra, ea, ec, q⟩ := h
  unfold oDictOf at ec
  split at ec
  · obtain ⟨p, xs, rfl, h1, g1⟩ := R.list ra ea
    rename_i ps
    cases em : ps.mapM pairD with
    | none => rw [em] at ec; cases ec
    | some kds =>
      rw [em] at ec
      cases ec
      obtain ⟨as, kvs, rfl, p1, p2⟩ := pairs_dv w.F_same g1 em
      exact .inl ⟨p, as, kvs, rfl, h1, p1, fun b hb => q.new R hb fun F e f => .dct f ((merge_dv p2 .nil).mono e)⟩
  · obtain ⟨p, xs, rfl, h1, g1⟩ := R.tupleP ra ea
    rename_i ps
    cases em : ps.mapM pairD with
    | none => rw [em] at ec; cases ec
    | some kds =>
      rw [em] at ec
      cases ec
      obtain ⟨as, kvs, rfl, p1, p2⟩ := pairs_dv w.F_same g1 em
      exact .inr ⟨p, as, kvs, rfl, h1, p1, fun b hb => q.new R hb fun F e f => .dct f ((merge_dv p2 .nil).mono e)⟩
  · cases ec
def oRev : D → Option D
  | .list xs => some (.list xs.reverse)
  | .tuple xs => some (.tuple xs.reverse)
  | _ => none
theorem ed_rev {k : Nat} {p1 p2 p3 : Pos} (he : ED X W e f) : ED X W (.Subscript e (.Slice none none (some (.UnaryOp .USub (.Constant (.int 1) k p1) p2)) p3) pos) (dFn1 oRev f) :=
  PE.imp (pe_rev he) fun σ H Q ⟨α, S, ρ, R, re, q⟩ => ⟨α, S, ρ, R, re, After.imp (After.split (rel := RV X.K) q) (fun v H1 ⟨α1, S1, x, e1, R1, r1, q1⟩ => by
    obtain ⟨w, y, a, da, c, eH, ex, R2, ra, ea, ec, q2⟩ := on1_ok (w := ⟨α1, S1, H1⟩) R1 r1 q1
    cases ex
    cases eH
    unfold oRev at ec
    split at ec
    · cases ec
      obtain ⟨p, xs, rfl, h1, g1⟩ := R2.list ra ea
      exact .inr ⟨p, xs, rfl, h1, fun b hb => q2.lst R2 g1.reverse hb⟩
    · cases ec
      obtain ⟨p, xs, rfl, h1, g1, _⟩ := R2.tuple ra ea
      exact .inl ⟨p, xs, rfl, h1, q2.tup R2 g1.reverse⟩
    · cases ec) fun _ _ _ z => z⟩
/-! ### list + list, as a cell -/
def catM (x y : Val) : M Val := fun S => match rd S x, rd S y with
  | some (.list xs), some (.list ys) => if xs.length + ys.length ≤ 16777216 then newCell (xs ++ ys) S else .st
  | _, _ => .st
def dAddC (f g : Env' → M Val) : Env' → M Val := fun ρ => (f ρ).bind fun x => (g ρ).bind fun y => catM x y
theorem ed_addC {a b : Expr} {f g : Env' → M Val} (ha : ED X W a f) (hb : ED X W b g) : ED X W (.BinOp a .Add b pos) (dAddC f g) :=
  PE.imp (pe_op op_catL ha hb) fun σ H Q ⟨α, S, ρ, R, re, q⟩ => ⟨α, S, ρ, R, re, After.imp (After.split (rel := RV X.K) q) (fun v H1 ⟨α1, S1, x, e1, R1, r1, q1⟩ =>
    ⟨α1, S1, ρ, R1, re.mono e1, After.imp (After.split (rel := RV X.K) q1) (fun u H2 ⟨α2, S2, y, e2, R2, r2, q2⟩ => by
      unfold catM at q2
      cases h1 : rd S2 x with
      | none => simp only [h1] at q2; exact False.elim q2
      | some da =>
        cases h2 : rd S2 y with
        | none => cases da <;> simp only [h1, h2] at q2 <;> exact False.elim q2
        | some db =>
          cases da <;> cases db <;> simp only [h1, h2] at q2 <;> first | exact False.elim q2 | skip
          rename_i xs ys
          split at q2
          · rename_i hz
            obtain ⟨p1, vs, rfl, g1, d1⟩ := R2.list (r1.mono e2) h1
            obtain ⟨p2, us, rfl, g2, d2⟩ := R2.list r2 h2
            exact ⟨p1, p2, vs, us, rfl, rfl, g1, g2, by rw [sizeLine_eq, d1.length, d2.length]; exact hz, fun p hp => cell_new (w := ⟨α2, S2, H2⟩) R2 (d1.append d2) q2 hp⟩
          · exact False.elim q2) fun _ _ _ z => z⟩) fun _ _ _ z => z⟩
end
end Zz
set_option maxRecDepth 100000
set_option maxHeartbeats 4000000
namespace K02
open PySem PySem.Spec PyProof.Rows L2 Zz
def topS (i : Nat) : Stmt := PySem.Challenge.pw_stairwright_k02_types_and_values.main.body.getD i (.Pass ⟨0, 0, 0, 0⟩)
abbrev s_u_law_sets : Stmt := topS 21
abbrev N_u_law_sets : List Str := ["n", "rows", "found", "k"]
theorem sc_u_law_sets : FnScope N_u_law_sets ["n"] (defScope s_u_law_sets) := ⟨rfl, rfl, rfl, by decide +kernel, rfl, by decide +kernel, by decide +kernel⟩
abbrev s_word_of : Stmt := topS 10
abbrev N_word_of : List Str := ["thing"]
theorem sc_word_of : FnScope N_word_of ["thing"] (defScope s_word_of) := ⟨rfl, rfl, rfl, by decide +kernel, rfl, by decide +kernel, by decide +kernel⟩
abbrev s_is_whole : Stmt := topS 9
abbrev N_is_whole : List Str := ["thing"]
theorem sc_is_whole : FnScope N_is_whole ["thing"] (defScope s_is_whole) := ⟨rfl, rfl, rfl, by decide +kernel, rfl, by decide +kernel, by decide +kernel⟩
abbrev s_has_set : Stmt := topS 11
abbrev N_has_set : List Str := ["carriers", "thing", "name", "_"]
theorem sc_has_set : FnScope N_has_set ["carriers", "thing"] (defScope s_has_set) := ⟨rfl, rfl, rfl, by decide +kernel, rfl, by decide +kernel, by decide +kernel⟩
abbrev s_is_small : Stmt := topS 13
abbrev N_is_small : List Str := ["carriers", "thing", "word"]
theorem sc_is_small : FnScope N_is_small ["carriers", "thing"] (defScope s_is_small) := ⟨rfl, rfl, rfl, by decide +kernel, rfl, by decide +kernel, by decide +kernel⟩
abbrev s_is_type : Stmt := topS 14
abbrev N_is_type : List Str := ["carriers", "thing", "word"]
theorem sc_is_type : FnScope N_is_type ["carriers", "thing"] (defScope s_is_type) := ⟨rfl, rfl, rfl, by decide +kernel, rfl, by decide +kernel, by decide +kernel⟩
abbrev s_u_law_cell : Stmt := topS 20
abbrev N_u_law_cell : List Str := ["cells", "spot", "k", "base", "own", "turn"]
theorem sc_u_law_cell : FnScope N_u_law_cell ["cells", "spot"] (defScope s_u_law_cell) := ⟨rfl, rfl, rfl, by decide +kernel, rfl, by decide +kernel, by decide +kernel⟩
abbrev s_u_law_kind : Stmt := topS 27
abbrev N_u_law_kind : List Str := ["n", "sets", "home", "small", "some"]
theorem sc_u_law_kind : FnScope N_u_law_kind ["n", "sets"] (defScope s_u_law_kind) := ⟨rfl, rfl, rfl, by decide +kernel, rfl, by decide +kernel, by decide +kernel⟩
abbrev s_u_law_values : Stmt := topS 22
abbrev N_u_law_values : List Str := ["sets", "kind"]
theorem sc_u_law_values : FnScope N_u_law_values ["sets", "kind"] (defScope s_u_law_values) := ⟨rfl, rfl, rfl, by decide +kernel, rfl, by decide +kernel, by decide +kernel⟩
abbrev s_u_law_all_values : Stmt := topS 23
abbrev N_u_law_all_values : List Str := ["sets", "kind", "found", "name", "rows", "one", "row"]
theorem sc_u_law_all_values : FnScope N_u_law_all_values ["sets", "kind"] (defScope s_u_law_all_values) := ⟨rfl, rfl, rfl, by decide +kernel, rfl, by decide +kernel, by decide +kernel⟩
abbrev s_elements_of : Stmt := topS 12
abbrev N_elements_of : List Str := ["carriers", "name", "word", "members"]
theorem sc_elements_of : FnScope N_elements_of ["carriers", "name"] (defScope s_elements_of) := ⟨rfl, rfl, rfl, by decide +kernel, rfl, by decide +kernel, by decide +kernel⟩
abbrev s_cells_of : Stmt := topS 18
abbrev N_cells_of : List Str := ["carriers", "name", "kind", "small", "member"]
theorem sc_cells_of : FnScope N_cells_of ["carriers", "name", "kind"] (defScope s_cells_of) := ⟨rfl, rfl, rfl, by decide +kernel, rfl, by decide +kernel, by decide +kernel⟩
abbrev s_u_law_cells_right : Stmt := topS 32
abbrev N_u_law_cells_right : List Str := ["sets", "kind", "due", "small", "one"]
theorem sc_u_law_cells_right : FnScope N_u_law_cells_right ["sets", "kind"] (defScope s_u_law_cells_right) := ⟨rfl, rfl, rfl, by decide +kernel, rfl, by decide +kernel, by decide +kernel⟩
abbrev s_u_law_odd_kind : Stmt := topS 28
abbrev N_u_law_odd_kind : List Str := ["n", "sets", "kind", "odd", "some"]
theorem sc_u_law_odd_kind : FnScope N_u_law_odd_kind ["n", "sets", "kind"] (defScope s_u_law_odd_kind) := ⟨rfl, rfl, rfl, by decide +kernel, rfl, by decide +kernel, by decide +kernel⟩
abbrev s_u_law_odd_value : Stmt := topS 29
abbrev N_u_law_odd_value : List Str := ["n", "one", "odd", "at", "some"]
theorem sc_u_law_odd_value : FnScope N_u_law_odd_value ["n", "one"] (defScope s_u_law_odd_value) := ⟨rfl, rfl, rfl, by decide +kernel, rfl, by decide +kernel, by decide +kernel⟩
abbrev s_u_law_is_small : Stmt := topS 24
abbrev N_u_law_is_small : List Str := ["sets", "item"]
theorem sc_u_law_is_small : FnScope N_u_law_is_small ["sets", "item"] (defScope s_u_law_is_small) := ⟨rfl, rfl, rfl, by decide +kernel, rfl, by decide +kernel, by decide +kernel⟩
abbrev s_u_law_is_type : Stmt := topS 25
abbrev N_u_law_is_type : List Str := ["sets", "item"]
theorem sc_u_law_is_type : FnScope N_u_law_is_type ["sets", "item"] (defScope s_u_law_is_type) := ⟨rfl, rfl, rfl, by decide +kernel, rfl, by decide +kernel, by decide +kernel⟩
abbrev s_u_is_part : Stmt := topS 16
abbrev N_u_is_part : List Str := ["members", "thing", "part", "member"]
theorem sc_u_is_part : FnScope N_u_is_part ["members", "thing"] (defScope s_u_is_part) := ⟨rfl, rfl, rfl, by decide +kernel, rfl, by decide +kernel, by decide +kernel⟩
abbrev s_is_value : Stmt := topS 15
abbrev N_is_value : List Str := ["carriers", "kind", "thing", "word", "members", "part"]
theorem sc_is_value : FnScope N_is_value ["carriers", "kind", "thing"] (defScope s_is_value) := ⟨rfl, rfl, rfl, by decide +kernel, rfl, by decide +kernel, by decide +kernel⟩
abbrev s_u_law_is_value : Stmt := topS 26
abbrev N_u_law_is_value : List Str := ["sets", "kind", "item", "one"]
theorem sc_u_law_is_value : FnScope N_u_law_is_value ["sets", "kind", "item"] (defScope s_u_law_is_value) := ⟨rfl, rfl, rfl, by decide +kernel, rfl, by decide +kernel, by decide +kernel⟩
abbrev s_values_of : Stmt := topS 17
abbrev N_values_of : List Str := ["carriers", "kind"]
theorem sc_values_of : FnScope N_values_of ["carriers", "kind"] (defScope s_values_of) := ⟨rfl, rfl, rfl, by decide +kernel, rfl, by decide +kernel, by decide +kernel⟩
abbrev s_u_law_told : Stmt := topS 30
abbrev N_u_law_told : List Str := ["sets", "item", "e", "found", "error", "is_due"]
theorem sc_u_law_told : FnScope N_u_law_told ["sets", "item"] (defScope s_u_law_told) := ⟨rfl, rfl, rfl, by decide +kernel, rfl, by decide +kernel, by decide +kernel⟩
abbrev s_u_law_right : Stmt := topS 31
abbrev N_u_law_right : List Str := ["sets", "n", "m", "kind", "item", "kept", "told", "due", "every", "one"]
theorem sc_u_law_right : FnScope N_u_law_right ["sets", "n", "m"] (defScope s_u_law_right) := ⟨rfl, rfl, rfl, by decide +kernel, rfl, by decide +kernel, by decide +kernel⟩
abbrev s_law : Stmt := topS 33
abbrev N_law : List Str := ["script", "spot", "turn", "sets"]
theorem sc_law : FnScope N_law ["script"] (defScope s_law) := ⟨rfl, rfl, rfl, by decide +kernel, rfl, by decide +kernel, by decide +kernel⟩
def ex_0 : Str → Option Bool := fun y => if y = "BadType" then some true else none
def ix_BadType : Str → Option Bool := fun y => if y = "BadType" then some true else none
def ix_ValueError : Str → Option Bool := fun y => if y = "BadType" then some true else none
def ix_BadCarriers_BadExpression_MissError : Str → Option Bool := fun y => if y = "BadType" then some false else none
/-- what the top has written -/
structure Fx (K : PySem.W.Frag) (mg : Str → Option Value) where
  A_StairError : Addr
  g_StairError : mg "StairError" = some (.ref A_StairError)
  A_BadCarriers : Addr
  g_BadCarriers : mg "BadCarriers" = some (.ref A_BadCarriers)
  A_BadType : Addr
  g_BadType : mg "BadType" = some (.ref A_BadType)
  A_BadExpression : Addr
  g_BadExpression : mg "BadExpression" = some (.ref A_BadExpression)
  A_GreatError : Addr
  g_GreatError : mg "GreatError" = some (.ref A_GreatError)
  A_MissError : Addr
  g_MissError : mg "MissError" = some (.ref A_MissError)
  x_BadType : PySem.W.excIn K A_BadType [.type "ValueError", .type "Exception", .type "BaseException", .type "object"] "ValueError.__new__" = true
  k_BadType : PySem.W.keepIn K (.ref A_BadType) = true
  b_BadType : PySem.W.subIn K (.ref A_BadType) (.type "BaseException") = some true
  t_BadType : PySem.W.typeIn K (.ref A_BadType) = some (.type "type")
  ex_0 : ∀ (y : Str) (b : Bool), K02.ex_0 y = some b → ∀ C, mg y = some (.ref C) → PySem.W.exmAny K (.ref C) [.ref A_StairError, .ref A_GreatError, .ref A_MissError] = some b
  ix_BadType : ∀ (y : Str) (b : Bool), K02.ix_BadType y = some b → ∀ C, mg y = some (.ref C) → ExcC K C ∧ PySem.W.kitOne K (.ref C) (.ref A_BadType) = some b
  ix_ValueError : ∀ (y : Str) (b : Bool), K02.ix_ValueError y = some b → ∀ C, mg y = some (.ref C) → ExcC K C ∧ PySem.W.kitOne K (.ref C) (.type "ValueError") = some b
  ix_BadCarriers_BadExpression_MissError : ∀ (y : Str) (b : Bool), K02.ix_BadCarriers_BadExpression_MissError y = some b → ∀ C, mg y = some (.ref C) → ExcC K C ∧ PySem.W.kitAny K (.ref C) [.ref A_BadCarriers, .ref A_BadExpression, .ref A_MissError] = some b
  a_u_law_sets : Addr
  d_u_law_sets : FuncData
  F_u_law_sets : Fun K "_law_sets" "_law_sets" s_u_law_sets a_u_law_sets d_u_law_sets
  g_u_law_sets : mg "_law_sets" = some (.ref a_u_law_sets)
  a_word_of : Addr
  d_word_of : FuncData
  F_word_of : Fun K "word_of" "word_of" s_word_of a_word_of d_word_of
  g_word_of : mg "word_of" = some (.ref a_word_of)
  a_is_whole : Addr
  d_is_whole : FuncData
  F_is_whole : Fun K "is_whole" "is_whole" s_is_whole a_is_whole d_is_whole
  g_is_whole : mg "is_whole" = some (.ref a_is_whole)
  a_has_set : Addr
  d_has_set : FuncData
  F_has_set : Fun K "has_set" "has_set" s_has_set a_has_set d_has_set
  g_has_set : mg "has_set" = some (.ref a_has_set)
  a_is_small : Addr
  d_is_small : FuncData
  F_is_small : Fun K "is_small" "is_small" s_is_small a_is_small d_is_small
  g_is_small : mg "is_small" = some (.ref a_is_small)
  a_is_type : Addr
  d_is_type : FuncData
  F_is_type : Fun K "is_type" "is_type" s_is_type a_is_type d_is_type
  g_is_type : mg "is_type" = some (.ref a_is_type)
  a_u_law_cell : Addr
  d_u_law_cell : FuncData
  F_u_law_cell : Fun K "_law_cell" "_law_cell" s_u_law_cell a_u_law_cell d_u_law_cell
  g_u_law_cell : mg "_law_cell" = some (.ref a_u_law_cell)
  a_u_law_kind : Addr
  d_u_law_kind : FuncData
  F_u_law_kind : Fun K "_law_kind" "_law_kind" s_u_law_kind a_u_law_kind d_u_law_kind
  g_u_law_kind : mg "_law_kind" = some (.ref a_u_law_kind)
  a_u_law_values : Addr
  d_u_law_values : FuncData
  F_u_law_values : Fun K "_law_values" "_law_values" s_u_law_values a_u_law_values d_u_law_values
  g_u_law_values : mg "_law_values" = some (.ref a_u_law_values)
  a_u_law_all_values : Addr
  d_u_law_all_values : FuncData
  F_u_law_all_values : Fun K "_law_all_values" "_law_all_values" s_u_law_all_values a_u_law_all_values d_u_law_all_values
  g_u_law_all_values : mg "_law_all_values" = some (.ref a_u_law_all_values)
  a_elements_of : Addr
  d_elements_of : FuncData
  F_elements_of : Fun K "elements_of" "elements_of" s_elements_of a_elements_of d_elements_of
  g_elements_of : mg "elements_of" = some (.ref a_elements_of)
  a_cells_of : Addr
  d_cells_of : FuncData
  F_cells_of : Fun K "cells_of" "cells_of" s_cells_of a_cells_of d_cells_of
  g_cells_of : mg "cells_of" = some (.ref a_cells_of)
  a_u_law_cells_right : Addr
  d_u_law_cells_right : FuncData
  F_u_law_cells_right : Fun K "_law_cells_right" "_law_cells_right" s_u_law_cells_right a_u_law_cells_right d_u_law_cells_right
  g_u_law_cells_right : mg "_law_cells_right" = some (.ref a_u_law_cells_right)
  a_u_law_odd_kind : Addr
  d_u_law_odd_kind : FuncData
  F_u_law_odd_kind : Fun K "_law_odd_kind" "_law_odd_kind" s_u_law_odd_kind a_u_law_odd_kind d_u_law_odd_kind
  g_u_law_odd_kind : mg "_law_odd_kind" = some (.ref a_u_law_odd_kind)
  a_u_law_odd_value : Addr
  d_u_law_odd_value : FuncData
  F_u_law_odd_value : Fun K "_law_odd_value" "_law_odd_value" s_u_law_odd_value a_u_law_odd_value d_u_law_odd_value
  g_u_law_odd_value : mg "_law_odd_value" = some (.ref a_u_law_odd_value)
  a_u_law_is_small : Addr
  d_u_law_is_small : FuncData
  F_u_law_is_small : Fun K "_law_is_small" "_law_is_small" s_u_law_is_small a_u_law_is_small d_u_law_is_small
  g_u_law_is_small : mg "_law_is_small" = some (.ref a_u_law_is_small)
  a_u_law_is_type : Addr
  d_u_law_is_type : FuncData
  F_u_law_is_type : Fun K "_law_is_type" "_law_is_type" s_u_law_is_type a_u_law_is_type d_u_law_is_type
  g_u_law_is_type : mg "_law_is_type" = some (.ref a_u_law_is_type)
  a_u_is_part : Addr
  d_u_is_part : FuncData
  F_u_is_part : Fun K "_is_part" "_is_part" s_u_is_part a_u_is_part d_u_is_part
  g_u_is_part : mg "_is_part" = some (.ref a_u_is_part)
  a_is_value : Addr
  d_is_value : FuncData
  F_is_value : Fun K "is_value" "is_value" s_is_value a_is_value d_is_value
  g_is_value : mg "is_value" = some (.ref a_is_value)
  a_u_law_is_value : Addr
  d_u_law_is_value : FuncData
  F_u_law_is_value : Fun K "_law_is_value" "_law_is_value" s_u_law_is_value a_u_law_is_value d_u_law_is_value
  g_u_law_is_value : mg "_law_is_value" = some (.ref a_u_law_is_value)
  a_values_of : Addr
  d_values_of : FuncData
  F_values_of : Fun K "values_of" "values_of" s_values_of a_values_of d_values_of
  g_values_of : mg "values_of" = some (.ref a_values_of)
  a_u_law_told : Addr
  d_u_law_told : FuncData
  F_u_law_told : Fun K "_law_told" "_law_told" s_u_law_told a_u_law_told d_u_law_told
  g_u_law_told : mg "_law_told" = some (.ref a_u_law_told)
  a_u_law_right : Addr
  d_u_law_right : FuncData
  F_u_law_right : Fun K "_law_right" "_law_right" s_u_law_right a_u_law_right d_u_law_right
  g_u_law_right : mg "_law_right" = some (.ref a_u_law_right)
  a_law : Addr
  d_law : FuncData
  F_law : Fun K "law" "law" s_law a_law d_law
  n_ValueError : mg "ValueError" = none
  n_all : mg "all" = none
  n_bool : mg "bool" = none
  n_dict : mg "dict" = none
  n_int : mg "int" = none
  n_isinstance : mg "isinstance" = none
  n_len : mg "len" = none
  n_list : mg "list" = none
  n_max : mg "max" = none
  n_min : mg "min" = none
  n_range : mg "range" = none
  n_repr : mg "repr" = none
  n_str : mg "str" = none
  n_tuple : mg "tuple" = none
  v_MOST_NUM : Value
  c_MOST_NUM : mg "MOST_NUM" = some v_MOST_NUM
  r_MOST_NUM : RelV (.int 15) v_MOST_NUM
/-! ### _law_sets -/
def body_u_law_sets : SD := (sSeq (sSet 1 (dLstC (dCons (dTup (dCons (dC (.str "jobs")) (dCons (dTup (dCons (dC (.str "e1")) (dCons (dC (.str "e2")) (dCons (dC (.str "deed")) (dCons (dC (.str "x")) dNil))))) dNil))) (dCons (dTup (dCons (dC (.str "hands")) (dCons (dTup (dCons (dC (.str "red")) (dCons (dC (.str "blue")) (dCons (dC (.str "one")) (dCons (dC (.str "z9")) dNil))))) dNil))) dNil)))) (sSeq (sExpr (dApp (dVar 1) (dTup (dCons (dC (.str "a")) (dCons (dTup (dCons (dC (.str "kept")) (dCons (dC (.str "p")) (dCons (dC (.str "q9")) (dCons (dC (.str "goal")) dNil))))) dNil))))) (sSeq (sPar 1 2 (dCons (dAddC (dSl (dVar 1) (pSome (dBin oMod (dVar 0) (dC (.int 3)))) pNone) (dSl (dVar 1) pNone (pSome (dBin oMod (dVar 0) (dC (.int 3)))))) (dCons (dLstC dNil) dNil))) (sSeq (sFor (itRng (dBin oAdd (dC (.int 1)) (dBin oMod (dBin oDiv (dVar 0) (dC (.int 648))) (dC (.int 3))))) (toName 3) (sExpr (dApp (dVar 2) (dTup (dCons (dBin oIx (dBin oIx (dVar 1) (dVar 3)) (dC (.int 0))) (dCons (dSl (dBin oIx (dBin oIx (dVar 1) (dVar 3)) (dC (.int 1))) pNone (pSome (dBin oIx (dLst (dCons (dC (.int 2)) (dCons (dC (.int 3)) (dCons (dC (.int 1)) (dCons (dC (.int 2)) (dCons (dC (.int 4)) (dCons (dC (.int 2)) dNil))))))) (dBin oMod (dBin oDiv (dBin oDiv (dVar 0) (dC (.int 3))) (dBin oIx (dLst (dCons (dC (.int 1)) (dCons (dC (.int 6)) (dCons (dC (.int 36)) dNil)))) (dVar 3))) (dC (.int 6)))))) dNil)))))) (sRet (dFn1 oTuple (dVar 2)))))))
def fn_u_law_sets : Fn := bodyFn (["n"] : List Str).length N_u_law_sets.length body_u_law_sets
theorem ar_u_law_sets : Arity (["n"] : List Str).length fn_u_law_sets := bodyFn_arity _ _ _
theorem bi_u_law_sets {K : PySem.W.Frag} {mg : Str → Option Value} (T : Fx K mg) : Binds K T.d_u_law_sets ["n"] [] := T.F_u_law_sets.binds (ps := ["n"]) fun _ _ _ _ _ _ us hl => match us, hl with | [_], _ => rfl
theorem ok_u_law_sets {P : Program} {w : World} {K : PySem.W.Frag} {mg : Str → Option Value} {base : Heap} (T : Fx K mg) : FnG P w K mg base 1 T.a_u_law_sets T.d_u_law_sets ["n"] fn_u_law_sets :=
  fn_body (b := body_u_law_sets) (k := 0) T.F_u_law_sets sc_u_law_sets fun cdv A outer s H E C tk pass => (bd_cons (sd_set (i := 1) C.hN (ed_lstC (ad_cons (ed_tup (ad_cons ed_str (ad_cons (ed_tup (ad_cons ed_str (ad_cons ed_str (ad_cons ed_str (ad_cons ed_str ad_nil))))) ad_nil))) (ad_cons (ed_tup (ad_cons ed_str (ad_cons (ed_tup (ad_cons ed_str (ad_cons ed_str (ad_cons ed_str (ad_cons ed_str ad_nil))))) ad_nil))) ad_nil)))) (bd_cons (sd_expr (ed_append (ed_var 1) (ed_tup (ad_cons ed_str (ad_cons (ed_tup (ad_cons ed_str (ad_cons ed_str (ad_cons ed_str (ad_cons ed_str ad_nil))))) ad_nil))))) (bd_cons (sd_par (i := 1) (j := 2) C.hc C.hN (ad_cons (ed_addC (ed_sl (ed_var 1) (pd_some (ed_op od_mod (ed_var 0) ed_int)) pd_none) (ed_sl (ed_var 1) pd_none (pd_some (ed_op od_mod (ed_var 0) ed_int)))) (ad_cons (ed_lstC ad_nil) ad_nil)) rfl) (bd_cons (sd_for C pass (id_rng T.n_range (ed_op od_add ed_int (ed_op od_mod (ed_op od_div (ed_var 0) ed_int) ed_int))) (gd_name (i := 3) C.hN) (bd_one (sd_expr (ed_append (ed_var 2) (ed_tup (ad_cons (ed_ix C (ed_ix C (ed_var 1) (ed_var 3)) ed_int) (ad_cons (ed_sl (ed_ix C (ed_ix C (ed_var 1) (ed_var 3)) ed_int) pd_none (pd_some (ed_ix C (ed_lst (ad_cons ed_int (ad_cons ed_int (ad_cons ed_int (ad_cons ed_int (ad_cons ed_int (ad_cons ed_int ad_nil))))))) (ed_op od_mod (ed_op od_div (ed_op od_div (ed_var 0) ed_int) (ed_ix C (ed_lst (ad_cons ed_int (ad_cons ed_int (ad_cons ed_int ad_nil)))) (ed_var 3))) ed_int)))) ad_nil))))))) (bd_one (sd_ret (ed_ty1 cd_tuple T.n_tuple (by decide +kernel) (ed_var 2))))))))
/-! ### word_of -/
def body_word_of : SD := (sSeq (sIf (tAndD (toB (dFn1 (oIsB "tuple") (dVar 0))) (tAndD (toB (dBin oGt (dFn1 oLen (dVar 0)) (dC (.int 0)))) (toB (dFn1 (oIsB "str") (dBin oIx (dVar 0) (dC (.int 0))))))) (sRet (dBin oIx (dVar 0) (dC (.int 0)))) sNil) (sRet (dC (.str ""))))
def fn_word_of : Fn := bodyFn (["thing"] : List Str).length N_word_of.length body_word_of
theorem ar_word_of : Arity (["thing"] : List Str).length fn_word_of := bodyFn_arity _ _ _
theorem bi_word_of {K : PySem.W.Frag} {mg : Str → Option Value} (T : Fx K mg) : Binds K T.d_word_of ["thing"] [] := T.F_word_of.binds (ps := ["thing"]) fun _ _ _ _ _ _ us hl => match us, hl with | [_], _ => rfl
theorem ok_word_of {P : Program} {w : World} {K : PySem.W.Frag} {mg : Str → Option Value} {base : Heap} (T : Fx K mg) : FnG P w K mg base 1 T.a_word_of T.d_word_of ["thing"] fn_word_of :=
  fn_body (b := body_word_of) (k := 0) T.F_word_of sc_word_of fun cdv A outer s H E C tk pass => (bd_cons (sd_if (td_w (wd_and (td_val (ed_isB (T := "tuple") (by decide) T.n_isinstance T.n_tuple (by decide +kernel) (ed_var 0) rfl)) (wd_and (td_cmp od_gt (ed_fn1 cd_len T.n_len (by decide +kernel) (ed_var 0)) ed_int) (wd_and1 (td_val (ed_isB (T := "str") (by decide) T.n_isinstance T.n_str (by decide +kernel) (ed_ix C (ed_var 0) ed_int) rfl)))))) (bd_one (sd_ret (ed_ix C (ed_var 0) ed_int))) bd_nil) (bd_one (sd_ret ed_str)))
/-! ### is_whole -/
def body_is_whole : SD := (sRet (dAnd (dFn1 (oIsB "int") (dVar 0)) (dNot (dFn1 (oIsB "bool") (dVar 0)))))
def fn_is_whole : Fn := bodyFn (["thing"] : List Str).length N_is_whole.length body_is_whole
theorem ar_is_whole : Arity (["thing"] : List Str).length fn_is_whole := bodyFn_arity _ _ _
theorem bi_is_whole {K : PySem.W.Frag} {mg : Str → Option Value} (T : Fx K mg) : Binds K T.d_is_whole ["thing"] [] := T.F_is_whole.binds (ps := ["thing"]) fun _ _ _ _ _ _ us hl => match us, hl with | [_], _ => rfl
theorem ok_is_whole {P : Program} {w : World} {K : PySem.W.Frag} {mg : Str → Option Value} {base : Heap} (T : Fx K mg) : FnG P w K mg base 1 T.a_is_whole T.d_is_whole ["thing"] fn_is_whole :=
  fn_body (b := body_is_whole) (k := 0) T.F_is_whole sc_is_whole fun cdv A outer s H E C tk pass => (bd_one (sd_ret (ed_and (ed_isB (T := "int") (by decide) T.n_isinstance T.n_int (by decide +kernel) (ed_var 0) rfl) (ed_one (ed_not (ed_isB (T := "bool") (by decide) T.n_isinstance T.n_bool (by decide +kernel) (ed_var 0) rfl))))))
/-! ### has_set -/
def body_has_set : SD := (sRet (dAnd (dFn1 (oIsB "str") (dVar 1)) (dBin oIn (dVar 1) (dLc (itAny (dVar 0)) (toTup (toCons (toName 2) (toCons (toName 3) toNil))) (fun l => kTest (fun _ => M.ret true) (kPush l (dVar 2))) [2, 3]))))
def fn_has_set : Fn := bodyFn (["carriers", "thing"] : List Str).length N_has_set.length body_has_set
theorem ar_has_set : Arity (["carriers", "thing"] : List Str).length fn_has_set := bodyFn_arity _ _ _
theorem bi_has_set {K : PySem.W.Frag} {mg : Str → Option Value} (T : Fx K mg) : Binds K T.d_has_set ["carriers", "thing"] [] := T.F_has_set.binds (ps := ["carriers", "thing"]) fun _ _ _ _ _ _ us hl => match us, hl with | [_, _], _ => rfl
theorem ok_has_set {P : Program} {w : World} {K : PySem.W.Frag} {mg : Str → Option Value} {base : Heap} (T : Fx K mg) : FnG P w K mg base 1 T.a_has_set T.d_has_set ["carriers", "thing"] fn_has_set :=
  fn_body (b := body_has_set) (k := 0) T.F_has_set sc_has_set fun cdv A outer s H E C tk pass => (bd_one (sd_ret (ed_and (ed_isB (T := "str") (by decide) T.n_isinstance T.n_str (by decide +kernel) (ed_var 1) rfl) (ed_one (ed_cmp (od_in C.u65) (ed_var 1) (ed_lc C (id_any (ed_var 0)) (blkOk_by (N := N_has_set) (sc := defScope s_has_set) (own := [("name", 2), ("_", 3)]) (by decide +kernel)) (by decide) (fun _ _ _ _ _ => (gd_tup C.blk.hc (gs_cons (gd_name (i := 2) C.blk.hN) (gs_cons (gd_name (i := 3) C.blk.hN) gs_nil)) (arCons (arCons arNil)))) (fun _ _ _ _ _ => td_nil) (fun _ _ _ _ _ => (ed_var 2))))))))
/-! ### is_small -/
def body_is_small : SD := (sSeq (sSet 2 (dCall fn_word_of (dCons (dVar 1) dNil))) (sSeq (sIf (toB (dBin oEq (dVar 2) (dC (.str "num")))) (sRet (dAnd (dBin oEq (dFn1 oLen (dVar 1)) (dC (.int 2))) (dAnd (dCall fn_is_whole (dCons (dBin oIx (dVar 1) (dC (.int 1))) dNil)) (dChain oLe oLe (dC (.int 1)) (dBin oIx (dVar 1) (dC (.int 1))) (dC (.int 15)))))) sNil) (sSeq (sIf (toB (dBin oEq (dVar 2) (dC (.str "one")))) (sRet (dAnd (dBin oEq (dFn1 oLen (dVar 1)) (dC (.int 2))) (dCall fn_has_set (dCons (dVar 0) (dCons (dBin oIx (dVar 1) (dC (.int 1))) dNil))))) sNil) (sRet (dAnd (dBin oEq (dVar 2) (dC (.str "truth"))) (dBin oEq (dFn1 oLen (dVar 1)) (dC (.int 1))))))))
def fn_is_small : Fn := bodyFn (["carriers", "thing"] : List Str).length N_is_small.length body_is_small
theorem ar_is_small : Arity (["carriers", "thing"] : List Str).length fn_is_small := bodyFn_arity _ _ _
theorem bi_is_small {K : PySem.W.Frag} {mg : Str → Option Value} (T : Fx K mg) : Binds K T.d_is_small ["carriers", "thing"] [] := T.F_is_small.binds (ps := ["carriers", "thing"]) fun _ _ _ _ _ _ us hl => match us, hl with | [_, _], _ => rfl
theorem ok_is_small {P : Program} {w : World} {K : PySem.W.Frag} {mg : Str → Option Value} {base : Heap} (T : Fx K mg) : FnG P w K mg base 2 T.a_is_small T.d_is_small ["carriers", "thing"] fn_is_small :=
  fn_body (b := body_is_small) (k := 1) T.F_is_small sc_is_small fun cdv A outer s H E C tk pass => (bd_cons (sd_set (i := 2) C.hN (ed_call (ok_word_of T) ar_word_of C (by decide) tk T.g_word_of T.F_word_of.kp (bi_word_of T) (ad_cons (ed_var 1) ad_nil))) (bd_cons (sd_if (td_cmp (od_eq C.u64) (ed_var 2) ed_str) (bd_one (sd_ret (ed_and (ed_cmp (od_eq C.u64) (ed_fn1 cd_len T.n_len (by decide +kernel) (ed_var 1)) ed_int) (ed_and (ed_call (ok_is_whole T) ar_is_whole C (by decide) tk T.g_is_whole T.F_is_whole.kp (bi_is_whole T) (ad_cons (ed_ix C (ed_var 1) ed_int) ad_nil)) (ed_one (ed_chain od_le od_le ed_int (ed_ix C (ed_var 1) ed_int) (ed_glob T.c_MOST_NUM T.r_MOST_NUM (fun _ => .int _)))))))) bd_nil) (bd_cons (sd_if (td_cmp (od_eq C.u64) (ed_var 2) ed_str) (bd_one (sd_ret (ed_and (ed_cmp (od_eq C.u64) (ed_fn1 cd_len T.n_len (by decide +kernel) (ed_var 1)) ed_int) (ed_one (ed_call (ok_has_set T) ar_has_set C (by decide) tk T.g_has_set T.F_has_set.kp (bi_has_set T) (ad_cons (ed_var 0) (ad_cons (ed_ix C (ed_var 1) ed_int) ad_nil))))))) bd_nil) (bd_one (sd_ret (ed_and (ed_cmp (od_eq C.u64) (ed_var 2) ed_str) (ed_one (ed_cmp (od_eq C.u64) (ed_fn1 cd_len T.n_len (by decide +kernel) (ed_var 1)) ed_int))))))))
/-! ### is_type -/
def body_is_type : SD := (sSeq (sSet 2 (dCall fn_word_of (dCons (dVar 1) dNil))) (sSeq (sIf (toB (dBin oEq (dVar 2) (dC (.str "some")))) (sRet (dAnd (dBin oEq (dFn1 oLen (dVar 1)) (dC (.int 2))) (dCall fn_has_set (dCons (dVar 0) (dCons (dBin oIx (dVar 1) (dC (.int 1))) dNil))))) sNil) (sSeq (sIf (toB (dBin oEq (dVar 2) (dC (.str "map")))) (sRet (dAnd (dBin oEq (dFn1 oLen (dVar 1)) (dC (.int 3))) (dAnd (dCall fn_has_set (dCons (dVar 0) (dCons (dBin oIx (dVar 1) (dC (.int 1))) dNil))) (dCall fn_is_small (dCons (dVar 0) (dCons (dBin oIx (dVar 1) (dC (.int 2))) dNil)))))) sNil) (sRet (dCall fn_is_small (dCons (dVar 0) (dCons (dVar 1) dNil)))))))
def fn_is_type : Fn := bodyFn (["carriers", "thing"] : List Str).length N_is_type.length body_is_type
theorem ar_is_type : Arity (["carriers", "thing"] : List Str).length fn_is_type := bodyFn_arity _ _ _
theorem bi_is_type {K : PySem.W.Frag} {mg : Str → Option Value} (T : Fx K mg) : Binds K T.d_is_type ["carriers", "thing"] [] := T.F_is_type.binds (ps := ["carriers", "thing"]) fun _ _ _ _ _ _ us hl => match us, hl with | [_, _], _ => rfl
theorem ok_is_type {P : Program} {w : World} {K : PySem.W.Frag} {mg : Str → Option Value} {base : Heap} (T : Fx K mg) : FnG P w K mg base 3 T.a_is_type T.d_is_type ["carriers", "thing"] fn_is_type :=
  fn_body (b := body_is_type) (k := 2) T.F_is_type sc_is_type fun cdv A outer s H E C tk pass => (bd_cons (sd_set (i := 2) C.hN (ed_call (ok_word_of T) ar_word_of C (by decide) tk T.g_word_of T.F_word_of.kp (bi_word_of T) (ad_cons (ed_var 1) ad_nil))) (bd_cons (sd_if (td_cmp (od_eq C.u64) (ed_var 2) ed_str) (bd_one (sd_ret (ed_and (ed_cmp (od_eq C.u64) (ed_fn1 cd_len T.n_len (by decide +kernel) (ed_var 1)) ed_int) (ed_one (ed_call (ok_has_set T) ar_has_set C (by decide) tk T.g_has_set T.F_has_set.kp (bi_has_set T) (ad_cons (ed_var 0) (ad_cons (ed_ix C (ed_var 1) ed_int) ad_nil))))))) bd_nil) (bd_cons (sd_if (td_cmp (od_eq C.u64) (ed_var 2) ed_str) (bd_one (sd_ret (ed_and (ed_cmp (od_eq C.u64) (ed_fn1 cd_len T.n_len (by decide +kernel) (ed_var 1)) ed_int) (ed_and (ed_call (ok_has_set T) ar_has_set C (by decide) tk T.g_has_set T.F_has_set.kp (bi_has_set T) (ad_cons (ed_var 0) (ad_cons (ed_ix C (ed_var 1) ed_int) ad_nil))) (ed_one (ed_call (ok_is_small T) ar_is_small C (by decide) tk T.g_is_small T.F_is_small.kp (bi_is_small T) (ad_cons (ed_var 0) (ad_cons (ed_ix C (ed_var 1) ed_int) ad_nil)))))))) bd_nil) (bd_one (sd_ret (ed_call (ok_is_small T) ar_is_small C (by decide) tk T.g_is_small T.F_is_small.kp (bi_is_small T) (ad_cons (ed_var 0) (ad_cons (ed_var 1) ad_nil))))))))
/-! ### _law_cell -/
def body_u_law_cell : SD := (sSeq (sPut (dBin oAdd (dBin oIx (dVar 1) (dC (.int 0))) (dC (.int 1))) (dVar 1) (dC (.int 0))) (sSeq (sSet 2 (dBin oIx (dVar 1) (dC (.int 0)))) (sSeq (sSet 3 (dBin oAdd (dBin oMul (dBin oMul (dC (.int 31)) (dVar 2)) (dVar 2)) (dBin oMul (dC (.int 7919)) (dVar 2)))) (sSeq (sIf (tAndD (toB (dBin oGt (dFn1 oLen (dVar 0)) (dC (.int 0)))) (tAndD (toB (dBin oGe (dBin oIx (dVar 0) (dBin oMod (dVar 2) (dFn1 oLen (dVar 0)))) (dBin oPow (dC (.int 10)) (dC (.int 18))))) (toB (dBin oLt (dBin oDiv (dVar 2) (dFn1 oLen (dVar 0))) (dC (.int 60)))))) (sSeq (sSet 4 (dBin oIx (dVar 0) (dBin oMod (dVar 2) (dFn1 oLen (dVar 0))))) (sSeq (sFor (itRng (dBin oDiv (dVar 2) (dFn1 oLen (dVar 0)))) (toName 5) (sSet 4 (dBin oDiv (dVar 4) (dC (.int 306783379))))) (sIf (toB (dBin oGt (dVar 4) (dC (.int 0)))) (sRet (dBin oMod (dVar 4) (dC (.int 306783379)))) sNil))) sNil) (sSeq (sIf (toB (dBin oGt (dFn1 oLen (dVar 0)) (dC (.int 0)))) (sSet 3 (dBin oAdd (dVar 3) (dBin oMul (dBin oMod (dBin oIx (dVar 0) (dBin oMod (dVar 2) (dFn1 oLen (dVar 0)))) (dC (.int 2147483629))) (dBin oAdd (dC (.int 1)) (dBin oDiv (dVar 2) (dFn1 oLen (dVar 0))))))) sNil) (sRet (dBin oDiv (dBin oMod (dBin oPow (dBin oMod (dVar 3) (dC (.int 2147483647))) (dC (.int 5))) (dC (.int 2147483647))) (dC (.int 7)))))))))
def fn_u_law_cell : Fn := bodyFn (["cells", "spot"] : List Str).length N_u_law_cell.length body_u_law_cell
theorem ar_u_law_cell : Arity (["cells", "spot"] : List Str).length fn_u_law_cell := bodyFn_arity _ _ _
theorem bi_u_law_cell {K : PySem.W.Frag} {mg : Str → Option Value} (T : Fx K mg) : Binds K T.d_u_law_cell ["cells", "spot"] [] := T.F_u_law_cell.binds (ps := ["cells", "spot"]) fun _ _ _ _ _ _ us hl => match us, hl with | [_, _], _ => rfl
theorem ok_u_law_cell {P : Program} {w : World} {K : PySem.W.Frag} {mg : Str → Option Value} {base : Heap} (T : Fx K mg) : FnG P w K mg base 1 T.a_u_law_cell T.d_u_law_cell ["cells", "spot"] fn_u_law_cell :=
  fn_body (b := body_u_law_cell) (k := 0) T.F_u_law_cell sc_u_law_cell fun cdv A outer s H E C tk pass => (bd_cons (sd_put (ed_op od_add (ed_ix C (ed_var 1) ed_int) ed_int) (ed_var 1) ed_int) (bd_cons (sd_set (i := 2) C.hN (ed_ix C (ed_var 1) ed_int)) (bd_cons (sd_set (i := 3) C.hN (ed_op od_add (ed_op od_mul (ed_op od_mul ed_int (ed_var 2)) (ed_var 2)) (ed_op od_mul ed_int (ed_var 2)))) (bd_cons (sd_if (td_w (wd_and (td_cmp od_gt (ed_fn1 cd_len T.n_len (by decide +kernel) (ed_var 0)) ed_int) (wd_and (td_cmp od_ge (ed_ix C (ed_var 0) (ed_op od_mod (ed_var 2) (ed_fn1 cd_len T.n_len (by decide +kernel) (ed_var 0)))) (ed_op od_pow ed_int ed_int)) (wd_and1 (td_cmp od_lt (ed_op od_div (ed_var 2) (ed_fn1 cd_len T.n_len (by decide +kernel) (ed_var 0))) ed_int))))) (bd_cons (sd_set (i := 4) C.hN (ed_ix C (ed_var 0) (ed_op od_mod (ed_var 2) (ed_fn1 cd_len T.n_len (by decide +kernel) (ed_var 0))))) (bd_cons (sd_for C pass (id_rng T.n_range (ed_op od_div (ed_var 2) (ed_fn1 cd_len T.n_len (by decide +kernel) (ed_var 0)))) (gd_name (i := 5) C.hN) (bd_one (sd_set (i := 4) C.hN (ed_op od_div (ed_var 4) ed_int)))) (bd_one (sd_if (td_cmp od_gt (ed_var 4) ed_int) (bd_one (sd_ret (ed_op od_mod (ed_var 4) ed_int))) bd_nil)))) bd_nil) (bd_cons (sd_if (td_cmp od_gt (ed_fn1 cd_len T.n_len (by decide +kernel) (ed_var 0)) ed_int) (bd_one (sd_set (i := 3) C.hN (ed_op od_add (ed_var 3) (ed_op od_mul (ed_op od_mod (ed_ix C (ed_var 0) (ed_op od_mod (ed_var 2) (ed_fn1 cd_len T.n_len (by decide +kernel) (ed_var 0)))) ed_int) (ed_op od_add ed_int (ed_op od_div (ed_var 2) (ed_fn1 cd_len T.n_len (by decide +kernel) (ed_var 0)))))))) bd_nil) (bd_one (sd_ret (ed_op od_div (ed_op od_mod (ed_op od_pow (ed_op od_mod (ed_var 3) ed_int) ed_int) ed_int) ed_int))))))))
/-! ### _law_kind -/
def body_u_law_kind : SD := (sSeq (sSet 2 (dBin oIx (dBin oIx (dVar 1) (dBin oMod (dVar 0) (dFn1 oLen (dVar 1)))) (dC (.int 0)))) (sSeq (sSet 3 (dLst (dCons (dTup (dCons (dC (.str "num")) (dCons (dBin oAdd (dC (.int 1)) (dBin oMod (dBin oDiv (dVar 0) (dC (.int 3))) (dC (.int 15)))) dNil))) (dCons (dTup (dCons (dC (.str "truth")) dNil)) (dCons (dTup (dCons (dC (.str "one")) (dCons (dVar 2) dNil))) (dCons (dTup (dCons (dC (.str "num")) (dCons (dBin oAdd (dC (.int 1)) (dBin oMod (dBin oDiv (dVar 0) (dC (.int 3))) (dC (.int 3)))) dNil))) dNil)))))) (sSeq (sSet 4 (dBin oAdd (dVar 3) (dLst (dCons (dTup (dCons (dC (.str "some")) (dCons (dVar 2) dNil))) (dCons (dTup (dCons (dC (.str "map")) (dCons (dVar 2) (dCons (dBin oIx (dVar 3) (dBin oAdd (dC (.int 1)) (dBin oMod (dBin oDiv (dVar 0) (dC (.int 45))) (dC (.int 3))))) dNil)))) (dCons (dTup (dCons (dC (.str "map")) (dCons (dVar 2) (dCons (dTup (dCons (dC (.str "num")) (dCons (dBin oAdd (dC (.int 1)) (dBin oMod (dBin oDiv (dVar 0) (dC (.int 3))) (dC (.int 2)))) dNil))) dNil)))) dNil)))))) (sRet (dBin oIx (dVar 4) (dBin oMod (dBin oDiv (dVar 0) (dC (.int 135))) (dC (.int 7))))))))
def fn_u_law_kind : Fn := bodyFn (["n", "sets"] : List Str).length N_u_law_kind.length body_u_law_kind
theorem ar_u_law_kind : Arity (["n", "sets"] : List Str).length fn_u_law_kind := bodyFn_arity _ _ _
theorem bi_u_law_kind {K : PySem.W.Frag} {mg : Str → Option Value} (T : Fx K mg) : Binds K T.d_u_law_kind ["n", "sets"] [] := T.F_u_law_kind.binds (ps := ["n", "sets"]) fun _ _ _ _ _ _ us hl => match us, hl with | [_, _], _ => rfl
theorem ok_u_law_kind {P : Program} {w : World} {K : PySem.W.Frag} {mg : Str → Option Value} {base : Heap} (T : Fx K mg) : FnG P w K mg base 1 T.a_u_law_kind T.d_u_law_kind ["n", "sets"] fn_u_law_kind :=
  fn_body (b := body_u_law_kind) (k := 0) T.F_u_law_kind sc_u_law_kind fun cdv A outer s H E C tk pass => (bd_cons (sd_set (i := 2) C.hN (ed_ix C (ed_ix C (ed_var 1) (ed_op od_mod (ed_var 0) (ed_fn1 cd_len T.n_len (by decide +kernel) (ed_var 1)))) ed_int)) (bd_cons (sd_set (i := 3) C.hN (ed_lst (ad_cons (ed_tup (ad_cons ed_str (ad_cons (ed_op od_add ed_int (ed_op od_mod (ed_op od_div (ed_var 0) ed_int) ed_int)) ad_nil))) (ad_cons (ed_tup (ad_cons ed_str ad_nil)) (ad_cons (ed_tup (ad_cons ed_str (ad_cons (ed_var 2) ad_nil))) (ad_cons (ed_tup (ad_cons ed_str (ad_cons (ed_op od_add ed_int (ed_op od_mod (ed_op od_div (ed_var 0) ed_int) ed_int)) ad_nil))) ad_nil)))))) (bd_cons (sd_set (i := 4) C.hN (ed_op od_add (ed_var 3) (ed_lst (ad_cons (ed_tup (ad_cons ed_str (ad_cons (ed_var 2) ad_nil))) (ad_cons (ed_tup (ad_cons ed_str (ad_cons (ed_var 2) (ad_cons (ed_ix C (ed_var 3) (ed_op od_add ed_int (ed_op od_mod (ed_op od_div (ed_var 0) ed_int) ed_int))) ad_nil)))) (ad_cons (ed_tup (ad_cons ed_str (ad_cons (ed_var 2) (ad_cons (ed_tup (ad_cons ed_str (ad_cons (ed_op od_add ed_int (ed_op od_mod (ed_op od_div (ed_var 0) ed_int) ed_int)) ad_nil))) ad_nil)))) ad_nil)))))) (bd_one (sd_ret (ed_ix C (ed_var 4) (ed_op od_mod (ed_op od_div (ed_var 0) ed_int) ed_int)))))))
/-! ### _law_values -/
def body_u_law_values : SD := (sSeq (sIf (toB (dBin oEq (dBin oIx (dVar 1) (dC (.int 0))) (dC (.str "num")))) (sRet (dLstRg (dBin oAdd (dBin oIx (dVar 1) (dC (.int 1))) (dC (.int 1))))) sNil) (sRet (dIf (toB (dBin oEq (dBin oIx (dVar 1) (dC (.int 0))) (dC (.str "truth")))) (dLst (dCons (dC (.bool false)) (dCons (dC (.bool true)) dNil))) (dFn1 oList (dBin oIx (dFn1 oDictOf (dVar 0)) (dBin oIx (dVar 1) (dC (.int 1))))))))
def fn_u_law_values : Fn := bodyFn (["sets", "kind"] : List Str).length N_u_law_values.length body_u_law_values
theorem ar_u_law_values : Arity (["sets", "kind"] : List Str).length fn_u_law_values := bodyFn_arity _ _ _
theorem bi_u_law_values {K : PySem.W.Frag} {mg : Str → Option Value} (T : Fx K mg) : Binds K T.d_u_law_values ["sets", "kind"] [] := T.F_u_law_values.binds (ps := ["sets", "kind"]) fun _ _ _ _ _ _ us hl => match us, hl with | [_, _], _ => rfl
theorem ok_u_law_values {P : Program} {w : World} {K : PySem.W.Frag} {mg : Str → Option Value} {base : Heap} (T : Fx K mg) : FnG P w K mg base 1 T.a_u_law_values T.d_u_law_values ["sets", "kind"] fn_u_law_values :=
  fn_body (b := body_u_law_values) (k := 0) T.F_u_law_values sc_u_law_values fun cdv A outer s H E C tk pass => (bd_cons (sd_if (td_cmp (od_eq C.u64) (ed_ix C (ed_var 1) ed_int) ed_str) (bd_one (sd_ret (ed_listRg C T.n_list T.n_range (ed_op od_add (ed_ix C (ed_var 1) ed_int) ed_int)))) bd_nil) (bd_one (sd_ret (ed_if (td_cmp (od_eq C.u64) (ed_ix C (ed_var 1) ed_int) ed_str) (ed_lst (ad_cons ed_bl (ad_cons ed_bl ad_nil))) (ed_ty1 cd_list T.n_list (by decide +kernel) (ed_ix C (ed_ty1 (cd_dict C) T.n_dict (by decide +kernel) (ed_var 0)) (ed_ix C (ed_var 1) ed_int)))))))
/-! ### _law_all_values -/
def body_u_law_all_values : SD := (sSeq (sIf (toB (dBin oNotIn (dBin oIx (dVar 1) (dC (.int 0))) (dTup (dCons (dC (.str "some")) (dCons (dC (.str "map")) dNil))))) (sRet (dCall fn_u_law_values (dCons (dVar 0) (dCons (dVar 1) dNil)))) sNil) (sSeq (sSet 2 (dLst (dCons (dTup dNil) dNil))) (sSeq (sFor (itAny (dBin oIx (dFn1 oDictOf (dVar 0)) (dBin oIx (dVar 1) (dC (.int 1))))) (toName 3) (sSeq (sPar 4 2 (dCons (dVar 2) (dCons (dIf (toB (dBin oEq (dBin oIx (dVar 1) (dC (.int 0))) (dC (.str "some")))) (dFn1 oList (dVar 2)) (dLst dNil)) dNil))) (sFor (itAny (dIf (toB (dBin oEq (dBin oIx (dVar 1) (dC (.int 0))) (dC (.str "some")))) (dLst (dCons (dVar 3) dNil)) (dCall fn_u_law_values (dCons (dVar 0) (dCons (dBin oIx (dVar 1) (dC (.int 2))) dNil))))) (toName 5) (sSet 2 (dBin oAdd (dVar 2) (dLc (itAny (dVar 4)) (toName 6) (fun l => kTest (fun _ => M.ret true) (kPush l (dBin oAdd (dVar 6) (dTup (dCons (dVar 5) dNil))))) [6])))))) (sRet (dVar 2)))))
def fn_u_law_all_values : Fn := bodyFn (["sets", "kind"] : List Str).length N_u_law_all_values.length body_u_law_all_values
theorem ar_u_law_all_values : Arity (["sets", "kind"] : List Str).length fn_u_law_all_values := bodyFn_arity _ _ _
theorem bi_u_law_all_values {K : PySem.W.Frag} {mg : Str → Option Value} (T : Fx K mg) : Binds K T.d_u_law_all_values ["sets", "kind"] [] := T.F_u_law_all_values.binds (ps := ["sets", "kind"]) fun _ _ _ _ _ _ us hl => match us, hl with | [_, _], _ => rfl
theorem ok_u_law_all_values {P : Program} {w : World} {K : PySem.W.Frag} {mg : Str → Option Value} {base : Heap} (T : Fx K mg) : FnG P w K mg base 2 T.a_u_law_all_values T.d_u_law_all_values ["sets", "kind"] fn_u_law_all_values :=
  fn_body (b := body_u_law_all_values) (k := 1) T.F_u_law_all_values sc_u_law_all_values fun cdv A outer s H E C tk pass => (bd_cons (sd_if (td_cmp (od_notIn C.u65) (ed_ix C (ed_var 1) ed_int) (ed_tup (ad_cons ed_str (ad_cons ed_str ad_nil)))) (bd_one (sd_ret (ed_call (ok_u_law_values T) ar_u_law_values C (by decide) tk T.g_u_law_values T.F_u_law_values.kp (bi_u_law_values T) (ad_cons (ed_var 0) (ad_cons (ed_var 1) ad_nil))))) bd_nil) (bd_cons (sd_set (i := 2) C.hN (ed_lst (ad_cons (ed_tup ad_nil) ad_nil))) (bd_cons (sd_for C pass (id_any (ed_ix C (ed_ty1 (cd_dict C) T.n_dict (by decide +kernel) (ed_var 0)) (ed_ix C (ed_var 1) ed_int))) (gd_name (i := 3) C.hN) (bd_cons (sd_par (i := 4) (j := 2) C.hc C.hN (ad_cons (ed_var 2) (ad_cons (ed_if (td_cmp (od_eq C.u64) (ed_ix C (ed_var 1) ed_int) ed_str) (ed_ty1 cd_list T.n_list (by decide +kernel) (ed_var 2)) (ed_lst ad_nil)) ad_nil)) rfl) (bd_one (sd_for C pass (id_any (ed_if (td_cmp (od_eq C.u64) (ed_ix C (ed_var 1) ed_int) ed_str) (ed_lst (ad_cons (ed_var 3) ad_nil)) (ed_call (ok_u_law_values T) ar_u_law_values C (by decide) tk T.g_u_law_values T.F_u_law_values.kp (bi_u_law_values T) (ad_cons (ed_var 0) (ad_cons (ed_ix C (ed_var 1) ed_int) ad_nil))))) (gd_name (i := 5) C.hN) (bd_one (sd_set (i := 2) C.hN (ed_op od_add (ed_var 2) (ed_lc C (id_any (ed_var 4)) (blkOk_by (N := N_u_law_all_values) (sc := defScope s_u_law_all_values) (own := [("row", 6)]) (by decide +kernel)) (by decide) (fun _ _ _ _ _ => (gd_name (i := 6) C.blk.hN)) (fun _ _ _ _ _ => td_nil) (fun _ _ _ _ _ => (ed_op od_add (ed_var 6) (ed_tup (ad_cons (ed_var 5) ad_nil)))))))))))) (bd_one (sd_ret (ed_var 2))))))
/-! ### elements_of -/
def body_elements_of : SD := (sSeq (sFor (itAny (dVar 0)) (toTup (toCons (toName 2) (toCons (toName 3) toNil))) (sIf (toB (dBin oEq (dVar 2) (dVar 1))) (sRet (dVar 3)) sNil)) (sRaise "BadType" (dCons (dC (.str "no set is called so")) dNil)))
def fn_elements_of : Fn := bodyFn (["carriers", "name"] : List Str).length N_elements_of.length body_elements_of
theorem ar_elements_of : Arity (["carriers", "name"] : List Str).length fn_elements_of := bodyFn_arity _ _ _
theorem bi_elements_of {K : PySem.W.Frag} {mg : Str → Option Value} (T : Fx K mg) : Binds K T.d_elements_of ["carriers", "name"] [] := T.F_elements_of.binds (ps := ["carriers", "name"]) fun _ _ _ _ _ _ us hl => match us, hl with | [_, _], _ => rfl
theorem ok_elements_of {P : Program} {w : World} {K : PySem.W.Frag} {mg : Str → Option Value} {base : Heap} (T : Fx K mg) : FnG P w K mg base 1 T.a_elements_of T.d_elements_of ["carriers", "name"] fn_elements_of :=
  fn_body (b := body_elements_of) (k := 0) T.F_elements_of sc_elements_of fun cdv A outer s H E C tk pass => (bd_cons (sd_for C pass (id_any (ed_var 0)) (gd_tup C.hc (gs_cons (gd_name (i := 2) C.hN) (gs_cons (gd_name (i := 3) C.hN) gs_nil)) (arCons (arCons arNil))) (bd_one (sd_if (td_cmp (od_eq C.u64) (ed_var 2) (ed_var 1)) (bd_one (sd_ret (ed_var 3))) bd_nil))) (bd_one (sd_raise C tk PySem.F.excBase_ValueError T.x_BadType T.g_BadType T.k_BadType (raises_own T.b_BadType T.t_BadType) (ad_cons ed_str ad_nil))))
/-! ### cells_of -/
def body_cells_of : SD := (sSeq (sIf (toB (dBin oNotIn (dBin oIx (dVar 2) (dC (.int 0))) (dTup (dCons (dC (.str "some")) (dCons (dC (.str "map")) dNil))))) (sRet (dTup (dCons (dTup (dCons (dTup (dCons (dVar 1) (dCons (dC (.none)) dNil))) (dCons (dVar 2) dNil))) dNil))) sNil) (sSeq (sSet 3 (dIf (toB (dBin oEq (dBin oIx (dVar 2) (dC (.int 0))) (dC (.str "some")))) (dTup (dCons (dC (.str "truth")) dNil)) (dBin oIx (dVar 2) (dC (.int 2))))) (sRet (dFn1 oTuple (dLc (itAny (dCall fn_elements_of (dCons (dVar 0) (dCons (dBin oIx (dVar 2) (dC (.int 1))) dNil)))) (toName 4) (fun l => kTest (fun _ => M.ret true) (kPush l (dTup (dCons (dTup (dCons (dVar 1) (dCons (dVar 4) dNil))) (dCons (dVar 3) dNil))))) [4])))))
def fn_cells_of : Fn := bodyFn (["carriers", "name", "kind"] : List Str).length N_cells_of.length body_cells_of
theorem ar_cells_of : Arity (["carriers", "name", "kind"] : List Str).length fn_cells_of := bodyFn_arity _ _ _
theorem bi_cells_of {K : PySem.W.Frag} {mg : Str → Option Value} (T : Fx K mg) : Binds K T.d_cells_of ["carriers", "name", "kind"] [] := T.F_cells_of.binds (ps := ["carriers", "name", "kind"]) fun _ _ _ _ _ _ us hl => match us, hl with | [_, _, _], _ => rfl
theorem ok_cells_of {P : Program} {w : World} {K : PySem.W.Frag} {mg : Str → Option Value} {base : Heap} (T : Fx K mg) : FnG P w K mg base 2 T.a_cells_of T.d_cells_of ["carriers", "name", "kind"] fn_cells_of :=
  fn_body (b := body_cells_of) (k := 1) T.F_cells_of sc_cells_of fun cdv A outer s H E C tk pass => (bd_cons (sd_if (td_cmp (od_notIn C.u65) (ed_ix C (ed_var 2) ed_int) (ed_tup (ad_cons ed_str (ad_cons ed_str ad_nil)))) (bd_one (sd_ret (ed_tup (ad_cons (ed_tup (ad_cons (ed_tup (ad_cons (ed_var 1) (ad_cons ed_non ad_nil))) (ad_cons (ed_var 2) ad_nil))) ad_nil)))) bd_nil) (bd_cons (sd_set (i := 3) C.hN (ed_if (td_cmp (od_eq C.u64) (ed_ix C (ed_var 2) ed_int) ed_str) (ed_tup (ad_cons ed_str ad_nil)) (ed_ix C (ed_var 2) ed_int))) (bd_one (sd_ret (ed_ty1 cd_tuple T.n_tuple (by decide +kernel) (ed_lc C (id_any (ed_call (ok_elements_of T) ar_elements_of C (by decide) tk T.g_elements_of T.F_elements_of.kp (bi_elements_of T) (ad_cons (ed_var 0) (ad_cons (ed_ix C (ed_var 2) ed_int) ad_nil)))) (blkOk_by (N := N_cells_of) (sc := defScope s_cells_of) (own := [("member", 4)]) (by decide +kernel)) (by decide) (fun _ _ _ _ _ => (gd_name (i := 4) C.blk.hN)) (fun _ _ _ _ _ => td_nil) (fun _ _ _ _ _ => (ed_tup (ad_cons (ed_tup (ad_cons (ed_var 1) (ad_cons (ed_var 4) ad_nil))) (ad_cons (ed_var 3) ad_nil))))))))))
/-! ### _law_cells_right -/
def body_u_law_cells_right : SD := (sSeq (sSet 2 (dTup (dCons (dTup (dCons (dTup (dCons (dC (.str "v")) (dCons (dC (.none)) dNil))) (dCons (dVar 1) dNil))) dNil))) (sSeq (sIf (toB (dBin oIn (dBin oIx (dVar 1) (dC (.int 0))) (dTup (dCons (dC (.str "some")) (dCons (dC (.str "map")) dNil))))) (sSeq (sSet 3 (dIf (toB (dBin oEq (dBin oIx (dVar 1) (dC (.int 0))) (dC (.str "some")))) (dTup (dCons (dC (.str "truth")) dNil)) (dBin oIx (dVar 1) (dC (.int 2))))) (sSet 2 (dFn1 oTuple (dLc (itAny (dBin oIx (dFn1 oDictOf (dVar 0)) (dBin oIx (dVar 1) (dC (.int 1))))) (toName 4) (fun l => kTest (fun _ => M.ret true) (kPush l (dTup (dCons (dTup (dCons (dC (.str "v")) (dCons (dVar 4) dNil))) (dCons (dVar 3) dNil))))) [4])))) sNil) (sRet (dBin oEq (dFn1 oRepr (dCall fn_cells_of (dCons (dVar 0) (dCons (dC (.str "v")) (dCons (dVar 1) dNil))))) (dFn1 oRepr (dVar 2))))))
def fn_u_law_cells_right : Fn := bodyFn (["sets", "kind"] : List Str).length N_u_law_cells_right.length body_u_law_cells_right
theorem ar_u_law_cells_right : Arity (["sets", "kind"] : List Str).length fn_u_law_cells_right := bodyFn_arity _ _ _
theorem bi_u_law_cells_right {K : PySem.W.Frag} {mg : Str → Option Value} (T : Fx K mg) : Binds K T.d_u_law_cells_right ["sets", "kind"] [] := T.F_u_law_cells_right.binds (ps := ["sets", "kind"]) fun _ _ _ _ _ _ us hl => match us, hl with | [_, _], _ => rfl
theorem ok_u_law_cells_right {P : Program} {w : World} {K : PySem.W.Frag} {mg : Str → Option Value} {base : Heap} (T : Fx K mg) : FnG P w K mg base 3 T.a_u_law_cells_right T.d_u_law_cells_right ["sets", "kind"] fn_u_law_cells_right :=
  fn_body (b := body_u_law_cells_right) (k := 2) T.F_u_law_cells_right sc_u_law_cells_right fun cdv A outer s H E C tk pass => (bd_cons (sd_set (i := 2) C.hN (ed_tup (ad_cons (ed_tup (ad_cons (ed_tup (ad_cons ed_str (ad_cons ed_non ad_nil))) (ad_cons (ed_var 1) ad_nil))) ad_nil))) (bd_cons (sd_if (td_cmp (od_in C.u65) (ed_ix C (ed_var 1) ed_int) (ed_tup (ad_cons ed_str (ad_cons ed_str ad_nil)))) (bd_cons (sd_set (i := 3) C.hN (ed_if (td_cmp (od_eq C.u64) (ed_ix C (ed_var 1) ed_int) ed_str) (ed_tup (ad_cons ed_str ad_nil)) (ed_ix C (ed_var 1) ed_int))) (bd_one (sd_set (i := 2) C.hN (ed_ty1 cd_tuple T.n_tuple (by decide +kernel) (ed_lc C (id_any (ed_ix C (ed_ty1 (cd_dict C) T.n_dict (by decide +kernel) (ed_var 0)) (ed_ix C (ed_var 1) ed_int))) (blkOk_by (N := N_u_law_cells_right) (sc := defScope s_u_law_cells_right) (own := [("one", 4)]) (by decide +kernel)) (by decide) (fun _ _ _ _ _ => (gd_name (i := 4) C.blk.hN)) (fun _ _ _ _ _ => td_nil) (fun _ _ _ _ _ => (ed_tup (ad_cons (ed_tup (ad_cons ed_str (ad_cons (ed_var 4) ad_nil))) (ad_cons (ed_var 3) ad_nil))))))))) bd_nil) (bd_one (sd_ret (ed_cmp (od_eq C.u64) (ed_fn1 (cd_repr C) T.n_repr (by decide +kernel) (ed_call (ok_cells_of T) ar_cells_of C (by decide) tk T.g_cells_of T.F_cells_of.kp (bi_cells_of T) (ad_cons (ed_var 0) (ad_cons ed_str (ad_cons (ed_var 1) ad_nil))))) (ed_fn1 (cd_repr C) T.n_repr (by decide +kernel) (ed_var 2)))))))
/-! ### _law_odd_kind -/
def body_u_law_odd_kind : SD := (sSeq (sSet 3 (dBin oIx (dLst (dCons (dC (.none)) (dCons (dC (.int 0)) (dCons (dC (.int 16)) (dCons (dC (.bool true)) (dCons (dFn1 oNeg (dC (.int 1))) (dCons (dC (.str "1")) (dCons (dC (.str "nobody")) (dCons (dTup (dCons (dC (.str "truth")) dNil)) (dCons (dBin oPow (dC (.int 10)) (dC (.int 30))) (dCons (dBin oIx (dBin oIx (dBin oIx (dVar 1) (dC (.int 0))) (dC (.int 1))) (dC (.int 0))) (dCons (dLst (dCons (dVar 2) dNil)) dNil)))))))))))) (dBin oMod (dVar 0) (dC (.int 11))))) (sSeq (sSet 4 (dLstC (dCons (dBin oAdd (dBin oAdd (dSl (dVar 2) pNone (pSome (dC (.int 1)))) (dTup (dCons (dVar 3) dNil))) (dSl (dVar 2) (pSome (dC (.int 2))) pNone)) (dCons (dBin oAdd (dTup (dCons (dVar 3) dNil)) (dSl (dVar 2) (pSome (dC (.int 1))) pNone)) (dCons (dBin oAdd (dVar 2) (dTup (dCons (dVar 3) dNil))) (dCons (dSl (dVar 2) pNone (pSome (dFn1 oNeg (dC (.int 1))))) (dCons (dFn1 oList (dVar 2)) (dCons (dVar 3) (dCons (dFn1 oRev (dVar 2)) dNil))))))))) (sSeq (sSet 4 (dAddC (dVar 4) (dLst (dCons (dTup (dCons (dC (.str "map")) (dCons (dBin oIx (dBin oIx (dVar 1) (dC (.int 0))) (dC (.int 0))) (dCons (dVar 2) dNil)))) (dCons (dTup (dCons (dC (.str "map")) (dCons (dBin oIx (dBin oIx (dVar 1) (dC (.int 0))) (dC (.int 0))) (dCons (dVar 3) dNil)))) (dCons (dTup (dCons (dC (.str "some")) (dCons (dVar 3) dNil))) (dCons (dTup (dCons (dC (.str "one")) (dCons (dVar 3) dNil))) (dCons (dTup (dCons (dC (.str "num")) (dCons (dVar 3) dNil))) dNil)))))))) (sSeq (sExpr (dApp (dVar 4) (dTup (dCons (dC (.str "truth")) (dCons (dVar 3) dNil))))) (sRet (dBin oIx (dVar 4) (dBin oMod (dBin oDiv (dVar 0) (dC (.int 11))) (dC (.int 13)))))))))
def fn_u_law_odd_kind : Fn := bodyFn (["n", "sets", "kind"] : List Str).length N_u_law_odd_kind.length body_u_law_odd_kind
theorem ar_u_law_odd_kind : Arity (["n", "sets", "kind"] : List Str).length fn_u_law_odd_kind := bodyFn_arity _ _ _
theorem bi_u_law_odd_kind {K : PySem.W.Frag} {mg : Str → Option Value} (T : Fx K mg) : Binds K T.d_u_law_odd_kind ["n", "sets", "kind"] [] := T.F_u_law_odd_kind.binds (ps := ["n", "sets", "kind"]) fun _ _ _ _ _ _ us hl => match us, hl with | [_, _, _], _ => rfl
theorem ok_u_law_odd_kind {P : Program} {w : World} {K : PySem.W.Frag} {mg : Str → Option Value} {base : Heap} (T : Fx K mg) : FnG P w K mg base 1 T.a_u_law_odd_kind T.d_u_law_odd_kind ["n", "sets", "kind"] fn_u_law_odd_kind :=
  fn_body (b := body_u_law_odd_kind) (k := 0) T.F_u_law_odd_kind sc_u_law_odd_kind fun cdv A outer s H E C tk pass => (bd_cons (sd_set (i := 3) C.hN (ed_ix C (ed_lst (ad_cons ed_non (ad_cons ed_int (ad_cons ed_int (ad_cons ed_bl (ad_cons (ed_neg ed_int) (ad_cons ed_str (ad_cons ed_str (ad_cons (ed_tup (ad_cons ed_str ad_nil)) (ad_cons (ed_op od_pow ed_int ed_int) (ad_cons (ed_ix C (ed_ix C (ed_ix C (ed_var 1) ed_int) ed_int) ed_int) (ad_cons (ed_lst (ad_cons (ed_var 2) ad_nil)) ad_nil)))))))))))) (ed_op od_mod (ed_var 0) ed_int))) (bd_cons (sd_set (i := 4) C.hN (ed_lstC (ad_cons (ed_op od_add (ed_op od_add (ed_sl (ed_var 2) pd_none (pd_some ed_int)) (ed_tup (ad_cons (ed_var 3) ad_nil))) (ed_sl (ed_var 2) (pd_some ed_int) pd_none)) (ad_cons (ed_op od_add (ed_tup (ad_cons (ed_var 3) ad_nil)) (ed_sl (ed_var 2) (pd_some ed_int) pd_none)) (ad_cons (ed_op od_add (ed_var 2) (ed_tup (ad_cons (ed_var 3) ad_nil))) (ad_cons (ed_sl (ed_var 2) pd_none (pd_some (ed_neg ed_int))) (ad_cons (ed_ty1 cd_list T.n_list (by decide +kernel) (ed_var 2)) (ad_cons (ed_var 3) (ad_cons (ed_rev (ed_var 2)) ad_nil))))))))) (bd_cons (sd_set (i := 4) C.hN (ed_addC (ed_var 4) (ed_lst (ad_cons (ed_tup (ad_cons ed_str (ad_cons (ed_ix C (ed_ix C (ed_var 1) ed_int) ed_int) (ad_cons (ed_var 2) ad_nil)))) (ad_cons (ed_tup (ad_cons ed_str (ad_cons (ed_ix C (ed_ix C (ed_var 1) ed_int) ed_int) (ad_cons (ed_var 3) ad_nil)))) (ad_cons (ed_tup (ad_cons ed_str (ad_cons (ed_var 3) ad_nil))) (ad_cons (ed_tup (ad_cons ed_str (ad_cons (ed_var 3) ad_nil))) (ad_cons (ed_tup (ad_cons ed_str (ad_cons (ed_var 3) ad_nil))) ad_nil)))))))) (bd_cons (sd_expr (ed_append (ed_var 4) (ed_tup (ad_cons ed_str (ad_cons (ed_var 3) ad_nil))))) (bd_one (sd_ret (ed_ix C (ed_var 4) (ed_op od_mod (ed_op od_div (ed_var 0) ed_int) ed_int))))))))
/-! ### _law_odd_value -/
def body_u_law_odd_value : SD := (sSeq (sSet 2 (dBin oIx (dLst (dCons (dC (.none)) (dCons (dFn1 oNeg (dC (.int 1))) (dCons (dC (.int 16)) (dCons (dC (.bool true)) (dCons (dC (.str "x")) (dCons (dC (.str "nobody")) (dCons (dTup dNil) (dCons (dC (.int 1)) (dCons (dBin oPow (dC (.int 10)) (dC (.int 30))) (dCons (dC (.str "e1")) (dCons (dC (.bool false)) dNil)))))))))))) (dBin oMod (dVar 0) (dC (.int 11))))) (sSeq (sIf (tNotD (toB (dFn1 (oIsB "tuple") (dVar 1)))) (sRet (dBin oIx (dLst (dCons (dVar 2) (dCons (dVar 2) (dCons (dTup (dCons (dVar 1) dNil)) (dCons (dLst (dCons (dVar 1) dNil)) (dCons (dFn1 oStr (dVar 1)) dNil)))))) (dBin oMod (dBin oDiv (dVar 0) (dC (.int 11))) (dC (.int 5))))) sNil) (sSeq (sSet 3 (dBin oMod (dBin oDiv (dVar 0) (dC (.int 11))) (dBin oMax (dC (.int 1)) (dFn1 oLen (dVar 1))))) (sSeq (sSet 4 (dLst (dCons (dBin oAdd (dBin oAdd (dSl (dVar 1) pNone (pSome (dVar 3))) (dTup (dCons (dVar 2) dNil))) (dSl (dVar 1) (pSome (dBin oAdd (dVar 3) (dC (.int 1)))) pNone)) (dCons (dFn1 oRev (dVar 1)) (dCons (dBin oAdd (dVar 1) (dSl (dVar 1) pNone (pSome (dC (.int 1))))) (dCons (dSl (dVar 1) (pSome (dC (.int 1))) pNone) (dCons (dFn1 oList (dVar 1)) (dCons (dVar 2) (dCons (dBin oAdd (dVar 1) (dTup (dCons (dVar 2) dNil))) (dCons (dTup dNil) dNil)))))))))) (sRet (dBin oIx (dVar 4) (dBin oMod (dBin oDiv (dVar 0) (dC (.int 77))) (dC (.int 8)))))))))
def fn_u_law_odd_value : Fn := bodyFn (["n", "one"] : List Str).length N_u_law_odd_value.length body_u_law_odd_value
theorem ar_u_law_odd_value : Arity (["n", "one"] : List Str).length fn_u_law_odd_value := bodyFn_arity _ _ _
theorem bi_u_law_odd_value {K : PySem.W.Frag} {mg : Str → Option Value} (T : Fx K mg) : Binds K T.d_u_law_odd_value ["n", "one"] [] := T.F_u_law_odd_value.binds (ps := ["n", "one"]) fun _ _ _ _ _ _ us hl => match us, hl with | [_, _], _ => rfl
theorem ok_u_law_odd_value {P : Program} {w : World} {K : PySem.W.Frag} {mg : Str → Option Value} {base : Heap} (T : Fx K mg) : FnG P w K mg base 1 T.a_u_law_odd_value T.d_u_law_odd_value ["n", "one"] fn_u_law_odd_value :=
  fn_body (b := body_u_law_odd_value) (k := 0) T.F_u_law_odd_value sc_u_law_odd_value fun cdv A outer s H E C tk pass => (bd_cons (sd_set (i := 2) C.hN (ed_ix C (ed_lst (ad_cons ed_non (ad_cons (ed_neg ed_int) (ad_cons ed_int (ad_cons ed_bl (ad_cons ed_str (ad_cons ed_str (ad_cons (ed_tup ad_nil) (ad_cons ed_int (ad_cons (ed_op od_pow ed_int ed_int) (ad_cons ed_str (ad_cons ed_bl ad_nil)))))))))))) (ed_op od_mod (ed_var 0) ed_int))) (bd_cons (sd_if (td_not (td_val (ed_isB (T := "tuple") (by decide) T.n_isinstance T.n_tuple (by decide +kernel) (ed_var 1) rfl))) (bd_one (sd_ret (ed_ix C (ed_lst (ad_cons (ed_var 2) (ad_cons (ed_var 2) (ad_cons (ed_tup (ad_cons (ed_var 1) ad_nil)) (ad_cons (ed_lst (ad_cons (ed_var 1) ad_nil)) (ad_cons (ed_ty1 cd_str T.n_str (by decide +kernel) (ed_var 1)) ad_nil)))))) (ed_op od_mod (ed_op od_div (ed_var 0) ed_int) ed_int)))) bd_nil) (bd_cons (sd_set (i := 3) C.hN (ed_op od_mod (ed_op od_div (ed_var 0) ed_int) (ed_fn2 (cd_max C) T.n_max (by decide +kernel) ed_int (ed_fn1 cd_len T.n_len (by decide +kernel) (ed_var 1))))) (bd_cons (sd_set (i := 4) C.hN (ed_lst (ad_cons (ed_op od_add (ed_op od_add (ed_sl (ed_var 1) pd_none (pd_some (ed_var 3))) (ed_tup (ad_cons (ed_var 2) ad_nil))) (ed_sl (ed_var 1) (pd_some (ed_op od_add (ed_var 3) ed_int)) pd_none)) (ad_cons (ed_rev (ed_var 1)) (ad_cons (ed_op od_add (ed_var 1) (ed_sl (ed_var 1) pd_none (pd_some ed_int))) (ad_cons (ed_sl (ed_var 1) (pd_some ed_int) pd_none) (ad_cons (ed_ty1 cd_list T.n_list (by decide +kernel) (ed_var 1)) (ad_cons (ed_var 2) (ad_cons (ed_op od_add (ed_var 1) (ed_tup (ad_cons (ed_var 2) ad_nil))) (ad_cons (ed_tup ad_nil) ad_nil)))))))))) (bd_one (sd_ret (ed_ix C (ed_var 4) (ed_op od_mod (ed_op od_div (ed_var 0) ed_int) ed_int))))))))
/-! ### _law_is_small -/
def body_u_law_is_small : SD := (sSeq (sIf (tOrD (tNotD (toB (dFn1 (oIsB "tuple") (dVar 1)))) (tOrD (toB (dBin oEq (dVar 1) (dTup dNil))) (tNotD (toB (dFn1 (oIsB "str") (dBin oIx (dVar 1) (dC (.int 0)))))))) (sRet (dC (.bool false))) sNil) (sSeq (sIf (toB (dBin oEq (dBin oIx (dVar 1) (dC (.int 0))) (dC (.str "truth")))) (sRet (dBin oEq (dFn1 oLen (dVar 1)) (dC (.int 1)))) sNil) (sSeq (sIf (tAndD (toB (dBin oEq (dBin oIx (dVar 1) (dC (.int 0))) (dC (.str "num")))) (toB (dBin oEq (dFn1 oLen (dVar 1)) (dC (.int 2))))) (sRet (dAnd (dFn1 (oIsB "int") (dBin oIx (dVar 1) (dC (.int 1)))) (dAnd (dNot (dFn1 (oIsB "bool") (dBin oIx (dVar 1) (dC (.int 1))))) (dChain oLe oLe (dC (.int 1)) (dBin oIx (dVar 1) (dC (.int 1))) (dC (.int 15)))))) sNil) (sRet (dAnd (dBin oEq (dBin oIx (dVar 1) (dC (.int 0))) (dC (.str "one"))) (dAnd (dBin oEq (dFn1 oLen (dVar 1)) (dC (.int 2))) (dAnd (dFn1 (oIsB "str") (dBin oIx (dVar 1) (dC (.int 1)))) (dBin oIn (dBin oIx (dVar 1) (dC (.int 1))) (dFn1 oDictOf (dVar 0))))))))))
def fn_u_law_is_small : Fn := bodyFn (["sets", "item"] : List Str).length N_u_law_is_small.length body_u_law_is_small
theorem ar_u_law_is_small : Arity (["sets", "item"] : List Str).length fn_u_law_is_small := bodyFn_arity _ _ _
theorem bi_u_law_is_small {K : PySem.W.Frag} {mg : Str → Option Value} (T : Fx K mg) : Binds K T.d_u_law_is_small ["sets", "item"] [] := T.F_u_law_is_small.binds (ps := ["sets", "item"]) fun _ _ _ _ _ _ us hl => match us, hl with | [_, _], _ => rfl
theorem ok_u_law_is_small {P : Program} {w : World} {K : PySem.W.Frag} {mg : Str → Option Value} {base : Heap} (T : Fx K mg) : FnG P w K mg base 1 T.a_u_law_is_small T.d_u_law_is_small ["sets", "item"] fn_u_law_is_small :=
  fn_body (b := body_u_law_is_small) (k := 0) T.F_u_law_is_small sc_u_law_is_small fun cdv A outer s H E C tk pass => (bd_cons (sd_if (td_w (wd_or (td_not (td_val (ed_isB (T := "tuple") (by decide) T.n_isinstance T.n_tuple (by decide +kernel) (ed_var 1) rfl))) (wd_or (td_cmp (od_eq C.u64) (ed_var 1) (ed_tup ad_nil)) (wd_or1 (td_not (td_val (ed_isB (T := "str") (by decide) T.n_isinstance T.n_str (by decide +kernel) (ed_ix C (ed_var 1) ed_int) rfl))))))) (bd_one (sd_ret ed_bl)) bd_nil) (bd_cons (sd_if (td_cmp (od_eq C.u64) (ed_ix C (ed_var 1) ed_int) ed_str) (bd_one (sd_ret (ed_cmp (od_eq C.u64) (ed_fn1 cd_len T.n_len (by decide +kernel) (ed_var 1)) ed_int))) bd_nil) (bd_cons (sd_if (td_w (wd_and (td_cmp (od_eq C.u64) (ed_ix C (ed_var 1) ed_int) ed_str) (wd_and1 (td_cmp (od_eq C.u64) (ed_fn1 cd_len T.n_len (by decide +kernel) (ed_var 1)) ed_int)))) (bd_one (sd_ret (ed_and (ed_isB (T := "int") (by decide) T.n_isinstance T.n_int (by decide +kernel) (ed_ix C (ed_var 1) ed_int) rfl) (ed_and (ed_not (ed_isB (T := "bool") (by decide) T.n_isinstance T.n_bool (by decide +kernel) (ed_ix C (ed_var 1) ed_int) rfl)) (ed_one (ed_chain od_le od_le ed_int (ed_ix C (ed_var 1) ed_int) ed_int)))))) bd_nil) (bd_one (sd_ret (ed_and (ed_cmp (od_eq C.u64) (ed_ix C (ed_var 1) ed_int) ed_str) (ed_and (ed_cmp (od_eq C.u64) (ed_fn1 cd_len T.n_len (by decide +kernel) (ed_var 1)) ed_int) (ed_and (ed_isB (T := "str") (by decide) T.n_isinstance T.n_str (by decide +kernel) (ed_ix C (ed_var 1) ed_int) rfl) (ed_one (ed_cmp (od_in C.u65) (ed_ix C (ed_var 1) ed_int) (ed_ty1 (cd_dict C) T.n_dict (by decide +kernel) (ed_var 0))))))))))))
/-! ### _law_is_type -/
def body_u_law_is_type : SD := (sSeq (sIf (tOrD (tNotD (toB (dFn1 (oIsB "tuple") (dVar 1)))) (tOrD (toB (dBin oEq (dVar 1) (dTup dNil))) (tOrD (tNotD (toB (dFn1 (oIsB "str") (dBin oIx (dVar 1) (dC (.int 0)))))) (toB (dBin oNotIn (dBin oIx (dVar 1) (dC (.int 0))) (dTup (dCons (dC (.str "some")) (dCons (dC (.str "map")) dNil)))))))) (sRet (dCall fn_u_law_is_small (dCons (dVar 0) (dCons (dVar 1) dNil)))) sNil) (sSeq (sIf (tOrD (toB (dBin oNe (dFn1 oLen (dVar 1)) (dBin oIx (dLst (dCons (dC (.int 3)) (dCons (dC (.int 2)) dNil))) (dFn1 oInt (dBin oEq (dBin oIx (dVar 1) (dC (.int 0))) (dC (.str "some"))))))) (tOrD (tNotD (toB (dFn1 (oIsB "str") (dBin oIx (dVar 1) (dC (.int 1)))))) (toB (dBin oNotIn (dBin oIx (dVar 1) (dC (.int 1))) (dFn1 oDictOf (dVar 0)))))) (sRet (dC (.bool false))) sNil) (sRet (dOr (dBin oEq (dBin oIx (dVar 1) (dC (.int 0))) (dC (.str "some"))) (dCall fn_u_law_is_small (dCons (dVar 0) (dCons (dBin oIx (dVar 1) (dC (.int 2))) dNil)))))))
def fn_u_law_is_type : Fn := bodyFn (["sets", "item"] : List Str).length N_u_law_is_type.length body_u_law_is_type
theorem ar_u_law_is_type : Arity (["sets", "item"] : List Str).length fn_u_law_is_type := bodyFn_arity _ _ _
theorem bi_u_law_is_type {K : PySem.W.Frag} {mg : Str → Option Value} (T : Fx K mg) : Binds K T.d_u_law_is_type ["sets", "item"] [] := T.F_u_law_is_type.binds (ps := ["sets", "item"]) fun _ _ _ _ _ _ us hl => match us, hl with | [_, _], _ => rfl
theorem ok_u_law_is_type {P : Program} {w : World} {K : PySem.W.Frag} {mg : Str → Option Value} {base : Heap} (T : Fx K mg) : FnG P w K mg base 2 T.a_u_law_is_type T.d_u_law_is_type ["sets", "item"] fn_u_law_is_type :=
  fn_body (b := body_u_law_is_type) (k := 1) T.F_u_law_is_type sc_u_law_is_type fun cdv A outer s H E C tk pass => (bd_cons (sd_if (td_w (wd_or (td_not (td_val (ed_isB (T := "tuple") (by decide) T.n_isinstance T.n_tuple (by decide +kernel) (ed_var 1) rfl))) (wd_or (td_cmp (od_eq C.u64) (ed_var 1) (ed_tup ad_nil)) (wd_or (td_not (td_val (ed_isB (T := "str") (by decide) T.n_isinstance T.n_str (by decide +kernel) (ed_ix C (ed_var 1) ed_int) rfl))) (wd_or1 (td_cmp (od_notIn C.u65) (ed_ix C (ed_var 1) ed_int) (ed_tup (ad_cons ed_str (ad_cons ed_str ad_nil))))))))) (bd_one (sd_ret (ed_call (ok_u_law_is_small T) ar_u_law_is_small C (by decide) tk T.g_u_law_is_small T.F_u_law_is_small.kp (bi_u_law_is_small T) (ad_cons (ed_var 0) (ad_cons (ed_var 1) ad_nil))))) bd_nil) (bd_cons (sd_if (td_w (wd_or (td_cmp (od_ne C.u64) (ed_fn1 cd_len T.n_len (by decide +kernel) (ed_var 1)) (ed_ix C (ed_lst (ad_cons ed_int (ad_cons ed_int ad_nil))) (ed_ty1 cd_int T.n_int (by decide +kernel) (ed_cmp (od_eq C.u64) (ed_ix C (ed_var 1) ed_int) ed_str)))) (wd_or (td_not (td_val (ed_isB (T := "str") (by decide) T.n_isinstance T.n_str (by decide +kernel) (ed_ix C (ed_var 1) ed_int) rfl))) (wd_or1 (td_cmp (od_notIn C.u65) (ed_ix C (ed_var 1) ed_int) (ed_ty1 (cd_dict C) T.n_dict (by decide +kernel) (ed_var 0))))))) (bd_one (sd_ret ed_bl)) bd_nil) (bd_one (sd_ret (ed_or (ed_cmp (od_eq C.u64) (ed_ix C (ed_var 1) ed_int) ed_str) (ed_one (ed_call (ok_u_law_is_small T) ar_u_law_is_small C (by decide) tk T.g_u_law_is_small T.F_u_law_is_small.kp (bi_u_law_is_small T) (ad_cons (ed_var 0) (ad_cons (ed_ix C (ed_var 1) ed_int) ad_nil)))))))))
/-! ### _is_part -/
def body_u_is_part : SD := (sSeq (sIf (tOrD (tNotD (toB (dFn1 (oIsB "tuple") (dVar 1)))) (toB (dBin oGt (dFn1 oLen (dVar 1)) (dFn1 oLen (dVar 0))))) (sRet (dC (.bool false))) sNil) (sSeq (sIf (tNotD (toB (dFn1 oAll (dLc (itAny (dVar 1)) (toName 2) (fun l => kTest (fun _ => M.ret true) (kPush l (dFn1 (oIsB "str") (dVar 2)))) [2])))) (sRet (dC (.bool false))) sNil) (sRet (dBin oEq (dFn1 oList (dVar 1)) (dLc (itAny (dVar 0)) (toName 3) (fun l => kTest (toB (dBin oIn (dVar 3) (dVar 1))) (kPush l (dVar 3))) [3])))))
def fn_u_is_part : Fn := bodyFn (["members", "thing"] : List Str).length N_u_is_part.length body_u_is_part
theorem ar_u_is_part : Arity (["members", "thing"] : List Str).length fn_u_is_part := bodyFn_arity _ _ _
theorem bi_u_is_part {K : PySem.W.Frag} {mg : Str → Option Value} (T : Fx K mg) : Binds K T.d_u_is_part ["members", "thing"] [] := T.F_u_is_part.binds (ps := ["members", "thing"]) fun _ _ _ _ _ _ us hl => match us, hl with | [_, _], _ => rfl
theorem ok_u_is_part {P : Program} {w : World} {K : PySem.W.Frag} {mg : Str → Option Value} {base : Heap} (T : Fx K mg) : FnG P w K mg base 1 T.a_u_is_part T.d_u_is_part ["members", "thing"] fn_u_is_part :=
  fn_body (b := body_u_is_part) (k := 0) T.F_u_is_part sc_u_is_part fun cdv A outer s H E C tk pass => (bd_cons (sd_if (td_w (wd_or (td_not (td_val (ed_isB (T := "tuple") (by decide) T.n_isinstance T.n_tuple (by decide +kernel) (ed_var 1) rfl))) (wd_or1 (td_cmp od_gt (ed_fn1 cd_len T.n_len (by decide +kernel) (ed_var 1)) (ed_fn1 cd_len T.n_len (by decide +kernel) (ed_var 0)))))) (bd_one (sd_ret ed_bl)) bd_nil) (bd_cons (sd_if (td_not (td_val (ed_fn1 (cd_all C) T.n_all (by decide +kernel) (ed_lc C (id_any (ed_var 1)) (blkOk_by (N := N_u_is_part) (sc := defScope s_u_is_part) (own := [("part", 2)]) (by decide +kernel)) (by decide) (fun _ _ _ _ _ => (gd_name (i := 2) C.blk.hN)) (fun _ _ _ _ _ => td_nil) (fun _ _ _ _ _ => (ed_isB (T := "str") (by decide) T.n_isinstance T.n_str (by decide +kernel) (ed_var 2) rfl)))))) (bd_one (sd_ret ed_bl)) bd_nil) (bd_one (sd_ret (ed_cmp (od_eq C.u64) (ed_ty1 cd_list T.n_list (by decide +kernel) (ed_var 1)) (ed_lc C (id_any (ed_var 0)) (blkOk_by (N := N_u_is_part) (sc := defScope s_u_is_part) (own := [("member", 3)]) (by decide +kernel)) (by decide) (fun _ _ _ _ _ => (gd_name (i := 3) C.blk.hN)) (fun _ _ _ _ _ => (td_one (td_cmp (od_in C.blk.u65) (ed_var 3) (ed_var 1)))) (fun _ _ _ _ _ => (ed_var 3))))))))
/-! ### is_value -/
def body_is_value (slf : Fn) : SD := (sSeq (sSet 3 (dBin oIx (dVar 1) (dC (.int 0)))) (sSeq (sIf (toB (dBin oEq (dVar 3) (dC (.str "num")))) (sRet (dAnd (dCall fn_is_whole (dCons (dVar 2) dNil)) (dChain oLe oLe (dC (.int 0)) (dVar 2) (dBin oIx (dVar 1) (dC (.int 1)))))) sNil) (sSeq (sIf (toB (dBin oEq (dVar 3) (dC (.str "truth")))) (sRet (dFn1 (oIsB "bool") (dVar 2))) sNil) (sSeq (sSet 4 (dCall fn_elements_of (dCons (dVar 0) (dCons (dBin oIx (dVar 1) (dC (.int 1))) dNil)))) (sSeq (sIf (toB (dBin oEq (dVar 3) (dC (.str "one")))) (sRet (dAnd (dFn1 (oIsB "str") (dVar 2)) (dBin oIn (dVar 2) (dVar 4)))) sNil) (sSeq (sIf (toB (dBin oEq (dVar 3) (dC (.str "some")))) (sRet (dCall fn_u_is_part (dCons (dVar 4) (dCons (dVar 2) dNil)))) sNil) (sSeq (sIf (tOrD (tNotD (toB (dFn1 (oIsB "tuple") (dVar 2)))) (toB (dBin oNe (dFn1 oLen (dVar 2)) (dFn1 oLen (dVar 4))))) (sRet (dC (.bool false))) sNil) (sRet (dFn1 oAll (dLc (itAny (dVar 2)) (toName 5) (fun l => kTest (fun _ => M.ret true) (kPush l (dCall slf (dCons (dVar 0) (dCons (dBin oIx (dVar 1) (dC (.int 2))) (dCons (dVar 5) dNil)))))) [5]))))))))))
def fn_is_value : Nat → Fn
  | 0 => fun _ _ => .st
  | n + 1 => bodyFn (["carriers", "kind", "thing"] : List Str).length N_is_value.length (body_is_value (fn_is_value n))
theorem ar_is_value : ∀ n, Arity (["carriers", "kind", "thing"] : List Str).length (fn_is_value n)
  | 0 => fun _ _ _ => rfl
  | n + 1 => bodyFn_arity _ _ _
theorem bi_is_value {K : PySem.W.Frag} {mg : Str → Option Value} (T : Fx K mg) : Binds K T.d_is_value ["carriers", "kind", "thing"] [] := T.F_is_value.binds (ps := ["carriers", "kind", "thing"]) fun _ _ _ _ _ _ us hl => match us, hl with | [_, _, _], _ => rfl
theorem ok_is_value {P : Program} {w : World} {K : PySem.W.Frag} {mg : Str → Option Value} {base : Heap} (T : Fx K mg) : ∀ n, FnG P w K mg base (2 + n) T.a_is_value T.d_is_value ["carriers", "kind", "thing"] (fn_is_value n)
  | 0 => fnG_st
  | n + 1 => by
    have ih := ok_is_value (P := P) (w := w) (base := base) T n
    exact fn_body (b := body_is_value (fn_is_value n)) (k := 2 + n) T.F_is_value sc_is_value fun cdv A outer s H E C tk pass => (bd_cons (sd_set (i := 3) C.hN (ed_ix C (ed_var 1) ed_int)) (bd_cons (sd_if (td_cmp (od_eq C.u64) (ed_var 3) ed_str) (bd_one (sd_ret (ed_and (ed_call (ok_is_whole T) ar_is_whole C (by omega) tk T.g_is_whole T.F_is_whole.kp (bi_is_whole T) (ad_cons (ed_var 2) ad_nil)) (ed_one (ed_chain od_le od_le ed_int (ed_var 2) (ed_ix C (ed_var 1) ed_int)))))) bd_nil) (bd_cons (sd_if (td_cmp (od_eq C.u64) (ed_var 3) ed_str) (bd_one (sd_ret (ed_isB (T := "bool") (by decide) T.n_isinstance T.n_bool (by decide +kernel) (ed_var 2) rfl))) bd_nil) (bd_cons (sd_set (i := 4) C.hN (ed_call (ok_elements_of T) ar_elements_of C (by omega) tk T.g_elements_of T.F_elements_of.kp (bi_elements_of T) (ad_cons (ed_var 0) (ad_cons (ed_ix C (ed_var 1) ed_int) ad_nil)))) (bd_cons (sd_if (td_cmp (od_eq C.u64) (ed_var 3) ed_str) (bd_one (sd_ret (ed_and (ed_isB (T := "str") (by decide) T.n_isinstance T.n_str (by decide +kernel) (ed_var 2) rfl) (ed_one (ed_cmp (od_in C.u65) (ed_var 2) (ed_var 4)))))) bd_nil) (bd_cons (sd_if (td_cmp (od_eq C.u64) (ed_var 3) ed_str) (bd_one (sd_ret (ed_call (ok_u_is_part T) ar_u_is_part C (by omega) tk T.g_u_is_part T.F_u_is_part.kp (bi_u_is_part T) (ad_cons (ed_var 4) (ad_cons (ed_var 2) ad_nil))))) bd_nil) (bd_cons (sd_if (td_w (wd_or (td_not (td_val (ed_isB (T := "tuple") (by decide) T.n_isinstance T.n_tuple (by decide +kernel) (ed_var 2) rfl))) (wd_or1 (td_cmp (od_ne C.u64) (ed_fn1 cd_len T.n_len (by decide +kernel) (ed_var 2)) (ed_fn1 cd_len T.n_len (by decide +kernel) (ed_var 4)))))) (bd_one (sd_ret ed_bl)) bd_nil) (bd_one (sd_ret (ed_fn1 (cd_all C) T.n_all (by decide +kernel) (ed_lc C (id_any (ed_var 2)) (blkOk_by (N := N_is_value) (sc := defScope s_is_value) (own := [("part", 5)]) (by decide +kernel)) (by decide) (fun _ _ _ _ _ => (gd_name (i := 5) C.blk.hN)) (fun _ _ _ _ _ => td_nil) (fun _ _ _ _ _ => (ed_call ih (ar_is_value n) C.blk (by omega) takes0 T.g_is_value T.F_is_value.kp (bi_is_value T) (ad_cons (ed_var 0) (ad_cons (ed_ix C.blk (ed_var 1) ed_int) (ad_cons (ed_var 5) ad_nil))))))))))))))))
/-! ### _law_is_value -/
def body_u_law_is_value : SD := (sSeq (sIf (tAndD (toB (dBin oIn (dBin oIx (dVar 1) (dC (.int 0))) (dTup (dCons (dC (.str "some")) (dCons (dC (.str "map")) dNil))))) (tNotD (toB (dFn1 (oIsB "tuple") (dVar 2))))) (sRet (dC (.bool false))) sNil) (sRet (dBin oNe (dLc (itAny (dCall fn_u_law_all_values (dCons (dVar 0) (dCons (dVar 1) dNil)))) (toName 3) (fun l => kTest (toB (dBin oEq (dFn1 oRepr (dVar 3)) (dFn1 oRepr (dVar 2)))) (kPush l (dVar 3))) [3]) (dLst dNil))))
def fn_u_law_is_value : Fn := bodyFn (["sets", "kind", "item"] : List Str).length N_u_law_is_value.length body_u_law_is_value
theorem ar_u_law_is_value : Arity (["sets", "kind", "item"] : List Str).length fn_u_law_is_value := bodyFn_arity _ _ _
theorem bi_u_law_is_value {K : PySem.W.Frag} {mg : Str → Option Value} (T : Fx K mg) : Binds K T.d_u_law_is_value ["sets", "kind", "item"] [] := T.F_u_law_is_value.binds (ps := ["sets", "kind", "item"]) fun _ _ _ _ _ _ us hl => match us, hl with | [_, _, _], _ => rfl
theorem ok_u_law_is_value {P : Program} {w : World} {K : PySem.W.Frag} {mg : Str → Option Value} {base : Heap} (T : Fx K mg) : FnG P w K mg base 3 T.a_u_law_is_value T.d_u_law_is_value ["sets", "kind", "item"] fn_u_law_is_value :=
  fn_body (b := body_u_law_is_value) (k := 2) T.F_u_law_is_value sc_u_law_is_value fun cdv A outer s H E C tk pass => (bd_cons (sd_if (td_w (wd_and (td_cmp (od_in C.u65) (ed_ix C (ed_var 1) ed_int) (ed_tup (ad_cons ed_str (ad_cons ed_str ad_nil)))) (wd_and1 (td_not (td_val (ed_isB (T := "tuple") (by decide) T.n_isinstance T.n_tuple (by decide +kernel) (ed_var 2) rfl)))))) (bd_one (sd_ret ed_bl)) bd_nil) (bd_one (sd_ret (ed_cmp (od_ne C.u64) (ed_lc C (id_any (ed_call (ok_u_law_all_values T) ar_u_law_all_values C (by decide) tk T.g_u_law_all_values T.F_u_law_all_values.kp (bi_u_law_all_values T) (ad_cons (ed_var 0) (ad_cons (ed_var 1) ad_nil)))) (blkOk_by (N := N_u_law_is_value) (sc := defScope s_u_law_is_value) (own := [("one", 3)]) (by decide +kernel)) (by decide) (fun _ _ _ _ _ => (gd_name (i := 3) C.blk.hN)) (fun _ _ _ _ _ => (td_one (td_cmp (od_eq C.blk.u64) (ed_fn1 (cd_repr C.blk) T.n_repr (by decide +kernel) (ed_var 3)) (ed_fn1 (cd_repr C.blk) T.n_repr (by decide +kernel) (ed_var 2))))) (fun _ _ _ _ _ => (ed_var 3))) (ed_lst ad_nil)))))
/-! ### values_of -/
def body_values_of : SD := (sSeq (sIf (tNotD (toT (dCall fn_is_small (dCons (dVar 0) (dCons (dVar 1) dNil))))) (sRaise "BadType" (dCons (dC (.str "values are told of num, truth and one alone")) dNil)) sNil) (sSeq (sIf (toB (dBin oEq (dBin oIx (dVar 1) (dC (.int 0))) (dC (.str "num")))) (sRet (dTupRg (dBin oAdd (dBin oIx (dVar 1) (dC (.int 1))) (dC (.int 1))))) sNil) (sSeq (sIf (toB (dBin oEq (dBin oIx (dVar 1) (dC (.int 0))) (dC (.str "truth")))) (sRet (dTup (dCons (dC (.bool false)) (dCons (dC (.bool true)) dNil)))) sNil) (sRet (dCall fn_elements_of (dCons (dVar 0) (dCons (dBin oIx (dVar 1) (dC (.int 1))) dNil)))))))
def fn_values_of : Fn := bodyFn (["carriers", "kind"] : List Str).length N_values_of.length body_values_of
theorem ar_values_of : Arity (["carriers", "kind"] : List Str).length fn_values_of := bodyFn_arity _ _ _
theorem bi_values_of {K : PySem.W.Frag} {mg : Str → Option Value} (T : Fx K mg) : Binds K T.d_values_of ["carriers", "kind"] [] := T.F_values_of.binds (ps := ["carriers", "kind"]) fun _ _ _ _ _ _ us hl => match us, hl with | [_, _], _ => rfl
theorem ok_values_of {P : Program} {w : World} {K : PySem.W.Frag} {mg : Str → Option Value} {base : Heap} (T : Fx K mg) : FnG P w K mg base 3 T.a_values_of T.d_values_of ["carriers", "kind"] fn_values_of :=
  fn_body (b := body_values_of) (k := 2) T.F_values_of sc_values_of fun cdv A outer s H E C tk pass => (bd_cons (sd_if (td_not (td_truth (ed_call (ok_is_small T) ar_is_small C (by decide) tk T.g_is_small T.F_is_small.kp (bi_is_small T) (ad_cons (ed_var 0) (ad_cons (ed_var 1) ad_nil))))) (bd_one (sd_raise C tk PySem.F.excBase_ValueError T.x_BadType T.g_BadType T.k_BadType (raises_own T.b_BadType T.t_BadType) (ad_cons ed_str ad_nil))) bd_nil) (bd_cons (sd_if (td_cmp (od_eq C.u64) (ed_ix C (ed_var 1) ed_int) ed_str) (bd_one (sd_ret (ed_tupRg C T.n_tuple T.n_range (ed_op od_add (ed_ix C (ed_var 1) ed_int) ed_int)))) bd_nil) (bd_cons (sd_if (td_cmp (od_eq C.u64) (ed_ix C (ed_var 1) ed_int) ed_str) (bd_one (sd_ret (ed_tup (ad_cons ed_bl (ad_cons ed_bl ad_nil))))) bd_nil) (bd_one (sd_ret (ed_call (ok_elements_of T) ar_elements_of C (by decide) tk T.g_elements_of T.F_elements_of.kp (bi_elements_of T) (ad_cons (ed_var 0) (ad_cons (ed_ix C (ed_var 1) ed_int) ad_nil))))))))
/-! ### _law_told -/
def body_u_law_told : SD := (sSeq (sAsg (toTup (toCons (toName 2) (toCons (toName 3) toNil))) (dTup (dCons (dC (.none)) (dCons (dC (.none)) dNil)))) (sSeq (sKeep (sSet 3 (dCall fn_values_of (dCons (dVar 0) (dCons (dVar 1) dNil)))) ex_0 4 2) (sSeq (sIf (toB (dNone true (dVar 2))) (sRet (dVar 3)) sNil) (sSeq (sSet 5 (dAnd (clsX ix_BadType (dVar 2)) (clsX ix_ValueError (dVar 2)))) (sRet (dIf (tAndD (toT (dVar 5)) (tNotD (toB (clsX ix_BadCarriers_BadExpression_MissError (dVar 2))))) (dC (.str "kind")) (dC (.str "other"))))))))
def fn_u_law_told : Fn := bodyFn (["sets", "item"] : List Str).length N_u_law_told.length body_u_law_told
theorem ar_u_law_told : Arity (["sets", "item"] : List Str).length fn_u_law_told := bodyFn_arity _ _ _
theorem bi_u_law_told {K : PySem.W.Frag} {mg : Str → Option Value} (T : Fx K mg) : Binds K T.d_u_law_told ["sets", "item"] [] := T.F_u_law_told.binds (ps := ["sets", "item"]) fun _ _ _ _ _ _ us hl => match us, hl with | [_, _], _ => rfl
theorem ok_u_law_told {P : Program} {w : World} {K : PySem.W.Frag} {mg : Str → Option Value} {base : Heap} (T : Fx K mg) : FnG P w K mg base 4 T.a_u_law_told T.d_u_law_told ["sets", "item"] fn_u_law_told :=
  fn_body (b := body_u_law_told) (k := 3) T.F_u_law_told sc_u_law_told fun cdv A outer s H E C tk pass => (bd_cons (sd_asg (ed_tup (ad_cons ed_non (ad_cons ed_non ad_nil))) (gd_tup C.hc (gs_cons (gd_name (i := 2) C.hN) (gs_cons (gd_name (i := 3) C.hN) gs_nil)) (arCons (arCons arNil)))) (bd_cons (sd_keep (i := 4) (j := 2) rfl rfl rfl C.hN tk (tst_three ⟨rfl, by decide, .inl T.g_StairError⟩ ⟨rfl, by decide, .inl T.g_GreatError⟩ ⟨rfl, by decide, .inl T.g_MissError⟩) T.ex_0 (fun W2 pn2 xe2 tk2 pass2 => (bd_one (sd_set (i := 3) C.tr.hN (ed_call (ok_values_of T) ar_values_of C.tr (by decide) tk2 T.g_values_of T.F_values_of.kp (bi_values_of T) (ad_cons (ed_var 0) (ad_cons (ed_var 1) ad_nil))))))) (bd_cons (sd_if (td_isno (ed_var 2)) (bd_one (sd_ret (ed_var 3))) bd_nil) (bd_cons (sd_set (i := 5) C.hN (ed_and (ed_isX T.n_isinstance (ed_var 2) (pe_glob (v := .ref T.A_BadType) rfl T.g_BadType rfl) (.own _) T.ix_BadType rfl) (ed_one (ed_isX T.n_isinstance (ed_var 2) (pe_bltn (v := .ty "ValueError") (u := .type "ValueError") rfl T.n_ValueError (by decide +kernel) rfl) (.ty _) T.ix_ValueError rfl)))) (bd_one (sd_ret (ed_if (td_w (wd_and (td_truth (ed_var 5)) (wd_and1 (td_not (td_val (ed_isXs T.n_isinstance (ed_var 2) (pa_cls (pe_glob (v := .ref T.A_BadCarriers) rfl T.g_BadCarriers rfl) (pa_cls (pe_glob (v := .ref T.A_BadExpression) rfl T.g_BadExpression rfl) (pa_cls (pe_glob (v := .ref T.A_MissError) rfl T.g_MissError rfl) pa_cls0))) (.cons (.own _) (.cons (.own _) (.cons (.own _) .nil))) T.ix_BadCarriers_BadExpression_MissError (by show 3 ≤ 16777216; decide) rfl)))))) ed_str ed_str)))))))
/-! ### _law_right -/
def body_u_law_right : SD := (sSeq (sSet 3 (dCall fn_u_law_kind (dCons (dVar 1) (dCons (dVar 0) dNil)))) (sSeq (sFor (itAny (dTup (dCons (dVar 3) (dCons (dCall fn_u_law_odd_kind (dCons (dVar 2) (dCons (dVar 0) (dCons (dVar 3) dNil)))) (dCons (dCall fn_u_law_odd_kind (dCons (dBin oDiv (dVar 2) (dC (.int 3))) (dCons (dVar 0) (dCons (dVar 3) dNil)))) (dCons (dC (.none)) (dCons (dC (.int 5)) (dCons (dTup dNil) (dCons (dC (.str "num")) (dCons (dTup (dCons (dC (.str "num")) dNil)) dNil)))))))))) (toName 4) (sSeq (sSet 5 (dFn1 oRepr (dVar 4))) (sSeq (sSet 6 (dLst (dCons (dCall fn_u_law_is_type (dCons (dVar 0) (dCons (dVar 4) dNil))) (dCons (dCall fn_u_law_is_small (dCons (dVar 0) (dCons (dVar 4) dNil))) dNil)))) (sSeq (sIf (toB (dBin oNe (dFn1 oRepr (dLst (dCons (dCall fn_is_type (dCons (dVar 0) (dCons (dVar 4) dNil))) (dCons (dCall fn_is_small (dCons (dVar 0) (dCons (dVar 4) dNil))) dNil)))) (dFn1 oRepr (dVar 6)))) (sRet (dC (.bool false))) sNil) (sSeq (sSet 7 (dIf (toT (dCall fn_u_law_is_small (dCons (dVar 0) (dCons (dVar 4) dNil)))) (dFn1 oRepr (dFn1 oTuple (dCall fn_u_law_values (dCons (dVar 0) (dCons (dVar 4) dNil))))) (dFn1 oRepr (dC (.str "kind"))))) (sIf (tOrD (toB (dBin oNe (dFn1 oRepr (dCall fn_u_law_told (dCons (dVar 0) (dCons (dVar 4) dNil)))) (dVar 7))) (toB (dBin oNe (dFn1 oRepr (dVar 4)) (dVar 5)))) (sRet (dC (.bool false))) sNil)))))) (sSeq (sSet 8 (dCall fn_u_law_all_values (dCons (dVar 0) (dCons (dVar 3) dNil)))) (sSeq (sSet 9 (dBin oIx (dVar 8) (dBin oMod (dVar 2) (dFn1 oLen (dVar 8))))) (sSeq (sFor (itAny (dTup (dCons (dVar 9) (dCons (dCall fn_u_law_odd_value (dCons (dBin oDiv (dVar 2) (dC (.int 7))) (dCons (dVar 9) dNil))) (dCons (dCall fn_u_law_odd_value (dCons (dBin oDiv (dVar 2) (dC (.int 11))) (dCons (dVar 9) dNil))) (dCons (dC (.none)) (dCons (dC (.bool true)) (dCons (dC (.int 0)) (dCons (dC (.int 1)) (dCons (dTup dNil) (dCons (dC (.str "x")) dNil))))))))))) (toName 4) (sIf (toB (dBin oNe (dFn1 oRepr (dCall (fn_is_value 3) (dCons (dVar 0) (dCons (dVar 3) (dCons (dVar 4) dNil))))) (dFn1 oRepr (dCall fn_u_law_is_value (dCons (dVar 0) (dCons (dVar 3) (dCons (dVar 4) dNil))))))) (sRet (dC (.bool false))) sNil)) (sRet (dCall fn_u_law_cells_right (dCons (dVar 0) (dCons (dVar 3) dNil)))))))))
def fn_u_law_right : Fn := bodyFn (["sets", "n", "m"] : List Str).length N_u_law_right.length body_u_law_right
theorem ar_u_law_right : Arity (["sets", "n", "m"] : List Str).length fn_u_law_right := bodyFn_arity _ _ _
theorem bi_u_law_right {K : PySem.W.Frag} {mg : Str → Option Value} (T : Fx K mg) : Binds K T.d_u_law_right ["sets", "n", "m"] [] := T.F_u_law_right.binds (ps := ["sets", "n", "m"]) fun _ _ _ _ _ _ us hl => match us, hl with | [_, _, _], _ => rfl
theorem ok_u_law_right {P : Program} {w : World} {K : PySem.W.Frag} {mg : Str → Option Value} {base : Heap} (T : Fx K mg) : FnG P w K mg base 6 T.a_u_law_right T.d_u_law_right ["sets", "n", "m"] fn_u_law_right :=
  fn_body (b := body_u_law_right) (k := 5) T.F_u_law_right sc_u_law_right fun cdv A outer s H E C tk pass => (bd_cons (sd_set (i := 3) C.hN (ed_call (ok_u_law_kind T) ar_u_law_kind C (by decide) tk T.g_u_law_kind T.F_u_law_kind.kp (bi_u_law_kind T) (ad_cons (ed_var 1) (ad_cons (ed_var 0) ad_nil)))) (bd_cons (sd_for C pass (id_any (ed_tup (ad_cons (ed_var 3) (ad_cons (ed_call (ok_u_law_odd_kind T) ar_u_law_odd_kind C (by decide) tk T.g_u_law_odd_kind T.F_u_law_odd_kind.kp (bi_u_law_odd_kind T) (ad_cons (ed_var 2) (ad_cons (ed_var 0) (ad_cons (ed_var 3) ad_nil)))) (ad_cons (ed_call (ok_u_law_odd_kind T) ar_u_law_odd_kind C (by decide) tk T.g_u_law_odd_kind T.F_u_law_odd_kind.kp (bi_u_law_odd_kind T) (ad_cons (ed_op od_div (ed_var 2) ed_int) (ad_cons (ed_var 0) (ad_cons (ed_var 3) ad_nil)))) (ad_cons ed_non (ad_cons ed_int (ad_cons (ed_tup ad_nil) (ad_cons ed_str (ad_cons (ed_tup (ad_cons ed_str ad_nil)) ad_nil)))))))))) (gd_name (i := 4) C.hN) (bd_cons (sd_set (i := 5) C.hN (ed_fn1 (cd_repr C) T.n_repr (by decide +kernel) (ed_var 4))) (bd_cons (sd_set (i := 6) C.hN (ed_lst (ad_cons (ed_call (ok_u_law_is_type T) ar_u_law_is_type C (by decide) tk T.g_u_law_is_type T.F_u_law_is_type.kp (bi_u_law_is_type T) (ad_cons (ed_var 0) (ad_cons (ed_var 4) ad_nil))) (ad_cons (ed_call (ok_u_law_is_small T) ar_u_law_is_small C (by decide) tk T.g_u_law_is_small T.F_u_law_is_small.kp (bi_u_law_is_small T) (ad_cons (ed_var 0) (ad_cons (ed_var 4) ad_nil))) ad_nil)))) (bd_cons (sd_if (td_cmp (od_ne C.u64) (ed_fn1 (cd_repr C) T.n_repr (by decide +kernel) (ed_lst (ad_cons (ed_call (ok_is_type T) ar_is_type C (by decide) tk T.g_is_type T.F_is_type.kp (bi_is_type T) (ad_cons (ed_var 0) (ad_cons (ed_var 4) ad_nil))) (ad_cons (ed_call (ok_is_small T) ar_is_small C (by decide) tk T.g_is_small T.F_is_small.kp (bi_is_small T) (ad_cons (ed_var 0) (ad_cons (ed_var 4) ad_nil))) ad_nil)))) (ed_fn1 (cd_repr C) T.n_repr (by decide +kernel) (ed_var 6))) (bd_one (sd_ret ed_bl)) bd_nil) (bd_cons (sd_set (i := 7) C.hN (ed_if (td_truth (ed_call (ok_u_law_is_small T) ar_u_law_is_small C (by decide) tk T.g_u_law_is_small T.F_u_law_is_small.kp (bi_u_law_is_small T) (ad_cons (ed_var 0) (ad_cons (ed_var 4) ad_nil)))) (ed_fn1 (cd_repr C) T.n_repr (by decide +kernel) (ed_ty1 cd_tuple T.n_tuple (by decide +kernel) (ed_call (ok_u_law_values T) ar_u_law_values C (by decide) tk T.g_u_law_values T.F_u_law_values.kp (bi_u_law_values T) (ad_cons (ed_var 0) (ad_cons (ed_var 4) ad_nil))))) (ed_fn1 (cd_repr C) T.n_repr (by decide +kernel) ed_str))) (bd_one (sd_if (td_w (wd_or (td_cmp (od_ne C.u64) (ed_fn1 (cd_repr C) T.n_repr (by decide +kernel) (ed_call (ok_u_law_told T) ar_u_law_told C (by decide) tk T.g_u_law_told T.F_u_law_told.kp (bi_u_law_told T) (ad_cons (ed_var 0) (ad_cons (ed_var 4) ad_nil)))) (ed_var 7)) (wd_or1 (td_cmp (od_ne C.u64) (ed_fn1 (cd_repr C) T.n_repr (by decide +kernel) (ed_var 4)) (ed_var 5))))) (bd_one (sd_ret ed_bl)) bd_nil))))))) (bd_cons (sd_set (i := 8) C.hN (ed_call (ok_u_law_all_values T) ar_u_law_all_values C (by decide) tk T.g_u_law_all_values T.F_u_law_all_values.kp (bi_u_law_all_values T) (ad_cons (ed_var 0) (ad_cons (ed_var 3) ad_nil)))) (bd_cons (sd_set (i := 9) C.hN (ed_ix C (ed_var 8) (ed_op od_mod (ed_var 2) (ed_fn1 cd_len T.n_len (by decide +kernel) (ed_var 8))))) (bd_cons (sd_for C pass (id_any (ed_tup (ad_cons (ed_var 9) (ad_cons (ed_call (ok_u_law_odd_value T) ar_u_law_odd_value C (by decide) tk T.g_u_law_odd_value T.F_u_law_odd_value.kp (bi_u_law_odd_value T) (ad_cons (ed_op od_div (ed_var 2) ed_int) (ad_cons (ed_var 9) ad_nil))) (ad_cons (ed_call (ok_u_law_odd_value T) ar_u_law_odd_value C (by decide) tk T.g_u_law_odd_value T.F_u_law_odd_value.kp (bi_u_law_odd_value T) (ad_cons (ed_op od_div (ed_var 2) ed_int) (ad_cons (ed_var 9) ad_nil))) (ad_cons ed_non (ad_cons ed_bl (ad_cons ed_int (ad_cons ed_int (ad_cons (ed_tup ad_nil) (ad_cons ed_str ad_nil))))))))))) (gd_name (i := 4) C.hN) (bd_one (sd_if (td_cmp (od_ne C.u64) (ed_fn1 (cd_repr C) T.n_repr (by decide +kernel) (ed_call (ok_is_value T 3) (ar_is_value 3) C (by decide) tk T.g_is_value T.F_is_value.kp (bi_is_value T) (ad_cons (ed_var 0) (ad_cons (ed_var 3) (ad_cons (ed_var 4) ad_nil))))) (ed_fn1 (cd_repr C) T.n_repr (by decide +kernel) (ed_call (ok_u_law_is_value T) ar_u_law_is_value C (by decide) tk T.g_u_law_is_value T.F_u_law_is_value.kp (bi_u_law_is_value T) (ad_cons (ed_var 0) (ad_cons (ed_var 3) (ad_cons (ed_var 4) ad_nil)))))) (bd_one (sd_ret ed_bl)) bd_nil))) (bd_one (sd_ret (ed_call (ok_u_law_cells_right T) ar_u_law_cells_right C (by decide) tk T.g_u_law_cells_right T.F_u_law_cells_right.kp (bi_u_law_cells_right T) (ad_cons (ed_var 0) (ad_cons (ed_var 3) ad_nil))))))))))
/-! ### law -/
def body_law : SD := (sSeq (sSet 1 (dLstC (dCons (dC (.int 0)) dNil))) (sSeq (sFor (itRng (dBin oAdd (dC (.int 5)) (dBin oMin (dC (.int 16)) (dFn1 oLen (dVar 0))))) (toName 2) (sSeq (sSet 3 (dCall fn_u_law_sets (dCons (dCall fn_u_law_cell (dCons (dVar 0) (dCons (dVar 1) dNil))) dNil))) (sIf (tNotD (toT (dCall fn_u_law_right (dCons (dVar 3) (dCons (dCall fn_u_law_cell (dCons (dVar 0) (dCons (dVar 1) dNil))) (dCons (dCall fn_u_law_cell (dCons (dVar 0) (dCons (dVar 1) dNil))) dNil)))))) (sRet (dC (.bool false))) sNil))) (sRet (dAnd (dCall fn_is_type (dCons (dTup dNil) (dCons (dTup (dCons (dC (.str "truth")) dNil)) dNil))) (dNot (dCall fn_is_small (dCons (dTup dNil) (dCons (dTup (dCons (dC (.str "num")) (dCons (dC (.int 16)) dNil))) dNil))))))))
def fn_law : Fn := bodyFn (["script"] : List Str).length N_law.length body_law
theorem ar_law : Arity (["script"] : List Str).length fn_law := bodyFn_arity _ _ _
theorem bi_law {K : PySem.W.Frag} {mg : Str → Option Value} (T : Fx K mg) : Binds K T.d_law ["script"] [] := T.F_law.binds (ps := ["script"]) fun _ _ _ _ _ _ us hl => match us, hl with | [_], _ => rfl
theorem ok_law {P : Program} {w : World} {K : PySem.W.Frag} {mg : Str → Option Value} {base : Heap} (T : Fx K mg) : FnG P w K mg base 7 T.a_law T.d_law ["script"] fn_law :=
  fn_body (b := body_law) (k := 6) T.F_law sc_law fun cdv A outer s H E C tk pass => (bd_cons (sd_set (i := 1) C.hN (ed_lstC (ad_cons ed_int ad_nil))) (bd_cons (sd_for C pass (id_rng T.n_range (ed_op od_add ed_int (ed_fn2 (cd_min C) T.n_min (by decide +kernel) ed_int (ed_fn1 cd_len T.n_len (by decide +kernel) (ed_var 0))))) (gd_name (i := 2) C.hN) (bd_cons (sd_set (i := 3) C.hN (ed_call (ok_u_law_sets T) ar_u_law_sets C (by decide) tk T.g_u_law_sets T.F_u_law_sets.kp (bi_u_law_sets T) (ad_cons (ed_call (ok_u_law_cell T) ar_u_law_cell C (by decide) tk T.g_u_law_cell T.F_u_law_cell.kp (bi_u_law_cell T) (ad_cons (ed_var 0) (ad_cons (ed_var 1) ad_nil))) ad_nil))) (bd_one (sd_if (td_not (td_truth (ed_call (ok_u_law_right T) ar_u_law_right C (by decide) tk T.g_u_law_right T.F_u_law_right.kp (bi_u_law_right T) (ad_cons (ed_var 3) (ad_cons (ed_call (ok_u_law_cell T) ar_u_law_cell C (by decide) tk T.g_u_law_cell T.F_u_law_cell.kp (bi_u_law_cell T) (ad_cons (ed_var 0) (ad_cons (ed_var 1) ad_nil))) (ad_cons (ed_call (ok_u_law_cell T) ar_u_law_cell C (by decide) tk T.g_u_law_cell T.F_u_law_cell.kp (bi_u_law_cell T) (ad_cons (ed_var 0) (ad_cons (ed_var 1) ad_nil))) ad_nil)))))) (bd_one (sd_ret ed_bl)) bd_nil)))) (bd_one (sd_ret (ed_and (ed_call (ok_is_type T) ar_is_type C (by decide) tk T.g_is_type T.F_is_type.kp (bi_is_type T) (ad_cons (ed_tup ad_nil) (ad_cons (ed_tup (ad_cons ed_str ad_nil)) ad_nil))) (ed_one (ed_not (ed_call (ok_is_small T) ar_is_small C (by decide) tk T.g_is_small T.F_is_small.kp (bi_is_small T) (ad_cons (ed_tup ad_nil) (ad_cons (ed_tup (ad_cons ed_str (ad_cons ed_int ad_nil))) ad_nil))))))))))
/-! ### what the top has written -/
theorem all_mk {P : Program} {w : World} {K : PySem.W.Frag} {h : Heap} {mg : Str → Option Value} {fa : Addr} (X : K.In h) (G : h.Ns mainGlobals mg) (hfa : mg "law" = some (.ref fa))
    {A_StairError A_BadCarriers A_BadType A_BadExpression A_GreatError A_MissError a_u_law_sets a_word_of a_is_whole a_has_set a_is_small a_is_type a_u_law_cell a_u_law_kind a_u_law_values a_u_law_all_values a_elements_of a_cells_of a_u_law_cells_right a_u_law_odd_kind a_u_law_odd_value a_u_law_is_small a_u_law_is_type a_u_is_part a_is_value a_u_law_is_value a_values_of a_u_law_told a_u_law_right a_law : Addr} {od_u_law_sets an_u_law_sets od_word_of an_word_of od_is_whole an_is_whole od_has_set an_has_set od_is_small an_is_small od_is_type an_is_type od_u_law_cell an_u_law_cell od_u_law_kind an_u_law_kind od_u_law_values an_u_law_values od_u_law_all_values an_u_law_all_values od_elements_of an_elements_of od_cells_of an_cells_of od_u_law_cells_right an_u_law_cells_right od_u_law_odd_kind an_u_law_odd_kind od_u_law_odd_value an_u_law_odd_value od_u_law_is_small an_u_law_is_small od_u_law_is_type an_u_law_is_type od_u_is_part an_u_is_part od_is_value an_is_value od_u_law_is_value an_u_law_is_value od_values_of an_values_of od_u_law_told an_u_law_told od_u_law_right an_u_law_right od_law an_law : Option Addr} {sl_u_law_sets sl_word_of sl_is_whole sl_has_set sl_is_small sl_is_type sl_u_law_cell sl_u_law_kind sl_u_law_values sl_u_law_all_values sl_elements_of sl_cells_of sl_u_law_cells_right sl_u_law_odd_kind sl_u_law_odd_value sl_u_law_is_small sl_u_law_is_type sl_u_is_part sl_is_value sl_u_law_is_value sl_values_of sl_u_law_told sl_u_law_right sl_law : Array (Option Value)} {oc_u_law_sets kV_u_law_sets dc_u_law_sets pm_u_law_sets cd_u_law_sets ct_u_law_sets oc_word_of kV_word_of dc_word_of pm_word_of cd_word_of ct_word_of oc_is_whole kV_is_whole dc_is_whole pm_is_whole cd_is_whole ct_is_whole oc_has_set kV_has_set dc_has_set pm_has_set cd_has_set ct_has_set oc_is_small kV_is_small dc_is_small pm_is_small cd_is_small ct_is_small oc_is_type kV_is_type dc_is_type pm_is_type cd_is_type ct_is_type oc_u_law_cell kV_u_law_cell dc_u_law_cell pm_u_law_cell cd_u_law_cell ct_u_law_cell oc_u_law_kind kV_u_law_kind dc_u_law_kind pm_u_law_kind cd_u_law_kind ct_u_law_kind oc_u_law_values kV_u_law_values dc_u_law_values pm_u_law_values cd_u_law_values ct_u_law_values oc_u_law_all_values kV_u_law_all_values dc_u_law_all_values pm_u_law_all_values cd_u_law_all_values ct_u_law_all_values oc_elements_of kV_elements_of dc_elements_of pm_elements_of cd_elements_of ct_elements_of oc_cells_of kV_cells_of dc_cells_of pm_cells_of cd_cells_of ct_cells_of oc_u_law_cells_right kV_u_law_cells_right dc_u_law_cells_right pm_u_law_cells_right cd_u_law_cells_right ct_u_law_cells_right oc_u_law_odd_kind kV_u_law_odd_kind dc_u_law_odd_kind pm_u_law_odd_kind cd_u_law_odd_kind ct_u_law_odd_kind oc_u_law_odd_value kV_u_law_odd_value dc_u_law_odd_value pm_u_law_odd_value cd_u_law_odd_value ct_u_law_odd_value oc_u_law_is_small kV_u_law_is_small dc_u_law_is_small pm_u_law_is_small cd_u_law_is_small ct_u_law_is_small oc_u_law_is_type kV_u_law_is_type dc_u_law_is_type pm_u_law_is_type cd_u_law_is_type ct_u_law_is_type oc_u_is_part kV_u_is_part dc_u_is_part pm_u_is_part cd_u_is_part ct_u_is_part oc_is_value kV_is_value dc_is_value pm_is_value cd_is_value ct_is_value oc_u_law_is_value kV_u_law_is_value dc_u_law_is_value pm_u_law_is_value cd_u_law_is_value ct_u_law_is_value oc_values_of kV_values_of dc_values_of pm_values_of cd_values_of ct_values_of oc_u_law_told kV_u_law_told dc_u_law_told pm_u_law_told cd_u_law_told ct_u_law_told oc_u_law_right kV_u_law_right dc_u_law_right pm_u_law_right cd_u_law_right ct_u_law_right oc_law kV_law dc_law pm_law cd_law ct_law : Value} {v_MOST_NUM : Value}
    (h0 : PySem.W.nsIn K mainGlobals "StairError" = some (some (.ref A_StairError)))
    (h1 : PySem.W.nsIn K mainGlobals "BadCarriers" = some (some (.ref A_BadCarriers)))
    (h2 : PySem.W.nsIn K mainGlobals "BadType" = some (some (.ref A_BadType)))
    (h3 : PySem.W.nsIn K mainGlobals "BadExpression" = some (some (.ref A_BadExpression)))
    (h4 : PySem.W.nsIn K mainGlobals "GreatError" = some (some (.ref A_GreatError)))
    (h5 : PySem.W.nsIn K mainGlobals "MissError" = some (some (.ref A_MissError)))
    (h6 : PySem.W.excIn K A_BadType [.type "ValueError", .type "Exception", .type "BaseException", .type "object"] "ValueError.__new__" = true)
    (h7 : PySem.W.keepIn K (.ref A_BadType) = true)
    (h8 : PySem.W.subIn K (.ref A_BadType) (.type "BaseException") = some true)
    (h9 : PySem.W.typeIn K (.ref A_BadType) = some (.type "type"))
    (h10 : PySem.W.subIn K (.ref A_BadType) (.ref A_MissError) = some false)
    (h11 : PySem.W.subIn K (.ref A_MissError) (.type "BaseException") = some true)
    (h12 : PySem.W.hasDictIn K A_MissError = true)
    (h13 : PySem.W.typeIn K (.ref A_MissError) = some (.type "type"))
    (h14 : PySem.W.subIn K (.ref A_BadType) (.ref A_GreatError) = some false)
    (h15 : PySem.W.subIn K (.ref A_GreatError) (.type "BaseException") = some true)
    (h16 : PySem.W.hasDictIn K A_GreatError = true)
    (h17 : PySem.W.typeIn K (.ref A_GreatError) = some (.type "type"))
    (h18 : PySem.W.subIn K (.ref A_BadType) (.ref A_StairError) = some true)
    (h19 : PySem.W.subIn K (.ref A_StairError) (.type "BaseException") = some true)
    (h20 : PySem.W.hasDictIn K A_StairError = true)
    (h21 : PySem.W.typeIn K (.ref A_StairError) = some (.type "type"))
    (h22 : PySem.W.findIn K (.ref A_BadType) "__getattribute__" = some (some (.builtin "BaseException.__getattribute__")))
    (h23 : PySem.W.findIn K (.ref A_BadType) "__getattr__" = some none)
    (h24 : PySem.W.findIn K (.ref A_BadType) "__class__" = some (some (.builtin "object.__class__")))
    (h25 : PySem.W.mroIn K A_BadType (.type "object") = some true)
    (h26 : PySem.W.specialIn K (.builtin "object.__class__") "__get__" = some (some (.builtin "getset_descriptor.__get__")))
    (h27 : PySem.W.takesIn K (.builtin "object.__class__") = some true)
    (h28 : PySem.W.hasDictIn K A_BadType = true)
    (h29 : PySem.W.subIn K (.ref A_BadType) (.type "ValueError") = some true)
    (h30 : A_BadType ≠ A_MissError)
    (h31 : PySem.W.subIn K (.ref A_BadType) (.ref A_BadExpression) = some false)
    (h32 : A_BadType ≠ A_BadExpression)
    (h33 : PySem.W.hasDictIn K A_BadExpression = true)
    (h34 : PySem.W.typeIn K (.ref A_BadExpression) = some (.type "type"))
    (h35 : PySem.W.subIn K (.ref A_BadType) (.ref A_BadCarriers) = some false)
    (h36 : A_BadType ≠ A_BadCarriers)
    (h37 : PySem.W.hasDictIn K A_BadCarriers = true)
    (h38 : PySem.W.typeIn K (.ref A_BadCarriers) = some (.type "type"))
    (h39 : PySem.W.nsIn K mainGlobals "_law_sets" = some (some (.ref a_u_law_sets)))
    (h40 : K.lookup a_u_law_sets = some ⟨oc_u_law_sets, od_u_law_sets, .func (PySem.W.fnOf "_law_sets" "_law_sets" (defArgs s_u_law_sets) (defBody s_u_law_sets) (defScope s_u_law_sets) .none kV_u_law_sets dc_u_law_sets pm_u_law_sets an_u_law_sets cd_u_law_sets ct_u_law_sets), sl_u_law_sets⟩)
    (h41 : PySem.W.codeIn K cd_u_law_sets "_law_sets" = true)
    (h42 : PySem.W.keepIn K (.ref a_u_law_sets) = true)
    (h43 : PySem.W.nsIn K mainGlobals "word_of" = some (some (.ref a_word_of)))
    (h44 : K.lookup a_word_of = some ⟨oc_word_of, od_word_of, .func (PySem.W.fnOf "word_of" "word_of" (defArgs s_word_of) (defBody s_word_of) (defScope s_word_of) .none kV_word_of dc_word_of pm_word_of an_word_of cd_word_of ct_word_of), sl_word_of⟩)
    (h45 : PySem.W.codeIn K cd_word_of "word_of" = true)
    (h46 : PySem.W.keepIn K (.ref a_word_of) = true)
    (h47 : PySem.W.nsIn K mainGlobals "is_whole" = some (some (.ref a_is_whole)))
    (h48 : K.lookup a_is_whole = some ⟨oc_is_whole, od_is_whole, .func (PySem.W.fnOf "is_whole" "is_whole" (defArgs s_is_whole) (defBody s_is_whole) (defScope s_is_whole) .none kV_is_whole dc_is_whole pm_is_whole an_is_whole cd_is_whole ct_is_whole), sl_is_whole⟩)
    (h49 : PySem.W.codeIn K cd_is_whole "is_whole" = true)
    (h50 : PySem.W.keepIn K (.ref a_is_whole) = true)
    (h51 : PySem.W.nsIn K mainGlobals "has_set" = some (some (.ref a_has_set)))
    (h52 : K.lookup a_has_set = some ⟨oc_has_set, od_has_set, .func (PySem.W.fnOf "has_set" "has_set" (defArgs s_has_set) (defBody s_has_set) (defScope s_has_set) .none kV_has_set dc_has_set pm_has_set an_has_set cd_has_set ct_has_set), sl_has_set⟩)
    (h53 : PySem.W.codeIn K cd_has_set "has_set" = true)
    (h54 : PySem.W.keepIn K (.ref a_has_set) = true)
    (h55 : PySem.W.nsIn K mainGlobals "is_small" = some (some (.ref a_is_small)))
    (h56 : K.lookup a_is_small = some ⟨oc_is_small, od_is_small, .func (PySem.W.fnOf "is_small" "is_small" (defArgs s_is_small) (defBody s_is_small) (defScope s_is_small) .none kV_is_small dc_is_small pm_is_small an_is_small cd_is_small ct_is_small), sl_is_small⟩)
    (h57 : PySem.W.codeIn K cd_is_small "is_small" = true)
    (h58 : PySem.W.keepIn K (.ref a_is_small) = true)
    (h59 : PySem.W.nsIn K mainGlobals "is_type" = some (some (.ref a_is_type)))
    (h60 : K.lookup a_is_type = some ⟨oc_is_type, od_is_type, .func (PySem.W.fnOf "is_type" "is_type" (defArgs s_is_type) (defBody s_is_type) (defScope s_is_type) .none kV_is_type dc_is_type pm_is_type an_is_type cd_is_type ct_is_type), sl_is_type⟩)
    (h61 : PySem.W.codeIn K cd_is_type "is_type" = true)
    (h62 : PySem.W.keepIn K (.ref a_is_type) = true)
    (h63 : PySem.W.nsIn K mainGlobals "_law_cell" = some (some (.ref a_u_law_cell)))
    (h64 : K.lookup a_u_law_cell = some ⟨oc_u_law_cell, od_u_law_cell, .func (PySem.W.fnOf "_law_cell" "_law_cell" (defArgs s_u_law_cell) (defBody s_u_law_cell) (defScope s_u_law_cell) .none kV_u_law_cell dc_u_law_cell pm_u_law_cell an_u_law_cell cd_u_law_cell ct_u_law_cell), sl_u_law_cell⟩)
    (h65 : PySem.W.codeIn K cd_u_law_cell "_law_cell" = true)
    (h66 : PySem.W.keepIn K (.ref a_u_law_cell) = true)
    (h67 : PySem.W.nsIn K mainGlobals "_law_kind" = some (some (.ref a_u_law_kind)))
    (h68 : K.lookup a_u_law_kind = some ⟨oc_u_law_kind, od_u_law_kind, .func (PySem.W.fnOf "_law_kind" "_law_kind" (defArgs s_u_law_kind) (defBody s_u_law_kind) (defScope s_u_law_kind) .none kV_u_law_kind dc_u_law_kind pm_u_law_kind an_u_law_kind cd_u_law_kind ct_u_law_kind), sl_u_law_kind⟩)
    (h69 : PySem.W.codeIn K cd_u_law_kind "_law_kind" = true)
    (h70 : PySem.W.keepIn K (.ref a_u_law_kind) = true)
    (h71 : PySem.W.nsIn K mainGlobals "_law_values" = some (some (.ref a_u_law_values)))
    (h72 : K.lookup a_u_law_values = some ⟨oc_u_law_values, od_u_law_values, .func (PySem.W.fnOf "_law_values" "_law_values" (defArgs s_u_law_values) (defBody s_u_law_values) (defScope s_u_law_values) .none kV_u_law_values dc_u_law_values pm_u_law_values an_u_law_values cd_u_law_values ct_u_law_values), sl_u_law_values⟩)
    (h73 : PySem.W.codeIn K cd_u_law_values "_law_values" = true)
    (h74 : PySem.W.keepIn K (.ref a_u_law_values) = true)
    (h75 : PySem.W.nsIn K mainGlobals "_law_all_values" = some (some (.ref a_u_law_all_values)))
    (h76 : K.lookup a_u_law_all_values = some ⟨oc_u_law_all_values, od_u_law_all_values, .func (PySem.W.fnOf "_law_all_values" "_law_all_values" (defArgs s_u_law_all_values) (defBody s_u_law_all_values) (defScope s_u_law_all_values) .none kV_u_law_all_values dc_u_law_all_values pm_u_law_all_values an_u_law_all_values cd_u_law_all_values ct_u_law_all_values), sl_u_law_all_values⟩)
    (h77 : PySem.W.codeIn K cd_u_law_all_values "_law_all_values" = true)
    (h78 : PySem.W.keepIn K (.ref a_u_law_all_values) = true)
    (h79 : PySem.W.nsIn K mainGlobals "elements_of" = some (some (.ref a_elements_of)))
    (h80 : K.lookup a_elements_of = some ⟨oc_elements_of, od_elements_of, .func (PySem.W.fnOf "elements_of" "elements_of" (defArgs s_elements_of) (defBody s_elements_of) (defScope s_elements_of) .none kV_elements_of dc_elements_of pm_elements_of an_elements_of cd_elements_of ct_elements_of), sl_elements_of⟩)
    (h81 : PySem.W.codeIn K cd_elements_of "elements_of" = true)
    (h82 : PySem.W.keepIn K (.ref a_elements_of) = true)
    (h83 : PySem.W.nsIn K mainGlobals "cells_of" = some (some (.ref a_cells_of)))
    (h84 : K.lookup a_cells_of = some ⟨oc_cells_of, od_cells_of, .func (PySem.W.fnOf "cells_of" "cells_of" (defArgs s_cells_of) (defBody s_cells_of) (defScope s_cells_of) .none kV_cells_of dc_cells_of pm_cells_of an_cells_of cd_cells_of ct_cells_of), sl_cells_of⟩)
    (h85 : PySem.W.codeIn K cd_cells_of "cells_of" = true)
    (h86 : PySem.W.keepIn K (.ref a_cells_of) = true)
    (h87 : PySem.W.nsIn K mainGlobals "_law_cells_right" = some (some (.ref a_u_law_cells_right)))
    (h88 : K.lookup a_u_law_cells_right = some ⟨oc_u_law_cells_right, od_u_law_cells_right, .func (PySem.W.fnOf "_law_cells_right" "_law_cells_right" (defArgs s_u_law_cells_right) (defBody s_u_law_cells_right) (defScope s_u_law_cells_right) .none kV_u_law_cells_right dc_u_law_cells_right pm_u_law_cells_right an_u_law_cells_right cd_u_law_cells_right ct_u_law_cells_right), sl_u_law_cells_right⟩)
    (h89 : PySem.W.codeIn K cd_u_law_cells_right "_law_cells_right" = true)
    (h90 : PySem.W.keepIn K (.ref a_u_law_cells_right) = true)
    (h91 : PySem.W.nsIn K mainGlobals "_law_odd_kind" = some (some (.ref a_u_law_odd_kind)))
    (h92 : K.lookup a_u_law_odd_kind = some ⟨oc_u_law_odd_kind, od_u_law_odd_kind, .func (PySem.W.fnOf "_law_odd_kind" "_law_odd_kind" (defArgs s_u_law_odd_kind) (defBody s_u_law_odd_kind) (defScope s_u_law_odd_kind) .none kV_u_law_odd_kind dc_u_law_odd_kind pm_u_law_odd_kind an_u_law_odd_kind cd_u_law_odd_kind ct_u_law_odd_kind), sl_u_law_odd_kind⟩)
    (h93 : PySem.W.codeIn K cd_u_law_odd_kind "_law_odd_kind" = true)
    (h94 : PySem.W.keepIn K (.ref a_u_law_odd_kind) = true)
    (h95 : PySem.W.nsIn K mainGlobals "_law_odd_value" = some (some (.ref a_u_law_odd_value)))
    (h96 : K.lookup a_u_law_odd_value = some ⟨oc_u_law_odd_value, od_u_law_odd_value, .func (PySem.W.fnOf "_law_odd_value" "_law_odd_value" (defArgs s_u_law_odd_value) (defBody s_u_law_odd_value) (defScope s_u_law_odd_value) .none kV_u_law_odd_value dc_u_law_odd_value pm_u_law_odd_value an_u_law_odd_value cd_u_law_odd_value ct_u_law_odd_value), sl_u_law_odd_value⟩)
    (h97 : PySem.W.codeIn K cd_u_law_odd_value "_law_odd_value" = true)
    (h98 : PySem.W.keepIn K (.ref a_u_law_odd_value) = true)
    (h99 : PySem.W.nsIn K mainGlobals "_law_is_small" = some (some (.ref a_u_law_is_small)))
    (h100 : K.lookup a_u_law_is_small = some ⟨oc_u_law_is_small, od_u_law_is_small, .func (PySem.W.fnOf "_law_is_small" "_law_is_small" (defArgs s_u_law_is_small) (defBody s_u_law_is_small) (defScope s_u_law_is_small) .none kV_u_law_is_small dc_u_law_is_small pm_u_law_is_small an_u_law_is_small cd_u_law_is_small ct_u_law_is_small), sl_u_law_is_small⟩)
    (h101 : PySem.W.codeIn K cd_u_law_is_small "_law_is_small" = true)
    (h102 : PySem.W.keepIn K (.ref a_u_law_is_small) = true)
    (h103 : PySem.W.nsIn K mainGlobals "_law_is_type" = some (some (.ref a_u_law_is_type)))
    (h104 : K.lookup a_u_law_is_type = some ⟨oc_u_law_is_type, od_u_law_is_type, .func (PySem.W.fnOf "_law_is_type" "_law_is_type" (defArgs s_u_law_is_type) (defBody s_u_law_is_type) (defScope s_u_law_is_type) .none kV_u_law_is_type dc_u_law_is_type pm_u_law_is_type an_u_law_is_type cd_u_law_is_type ct_u_law_is_type), sl_u_law_is_type⟩)
    (h105 : PySem.W.codeIn K cd_u_law_is_type "_law_is_type" = true)
    (h106 : PySem.W.keepIn K (.ref a_u_law_is_type) = true)
    (h107 : PySem.W.nsIn K mainGlobals "_is_part" = some (some (.ref a_u_is_part)))
    (h108 : K.lookup a_u_is_part = some ⟨oc_u_is_part, od_u_is_part, .func (PySem.W.fnOf "_is_part" "_is_part" (defArgs s_u_is_part) (defBody s_u_is_part) (defScope s_u_is_part) .none kV_u_is_part dc_u_is_part pm_u_is_part an_u_is_part cd_u_is_part ct_u_is_part), sl_u_is_part⟩)
    (h109 : PySem.W.codeIn K cd_u_is_part "_is_part" = true)
    (h110 : PySem.W.keepIn K (.ref a_u_is_part) = true)
    (h111 : PySem.W.nsIn K mainGlobals "is_value" = some (some (.ref a_is_value)))
    (h112 : K.lookup a_is_value = some ⟨oc_is_value, od_is_value, .func (PySem.W.fnOf "is_value" "is_value" (defArgs s_is_value) (defBody s_is_value) (defScope s_is_value) .none kV_is_value dc_is_value pm_is_value an_is_value cd_is_value ct_is_value), sl_is_value⟩)
    (h113 : PySem.W.codeIn K cd_is_value "is_value" = true)
    (h114 : PySem.W.keepIn K (.ref a_is_value) = true)
    (h115 : PySem.W.nsIn K mainGlobals "_law_is_value" = some (some (.ref a_u_law_is_value)))
    (h116 : K.lookup a_u_law_is_value = some ⟨oc_u_law_is_value, od_u_law_is_value, .func (PySem.W.fnOf "_law_is_value" "_law_is_value" (defArgs s_u_law_is_value) (defBody s_u_law_is_value) (defScope s_u_law_is_value) .none kV_u_law_is_value dc_u_law_is_value pm_u_law_is_value an_u_law_is_value cd_u_law_is_value ct_u_law_is_value), sl_u_law_is_value⟩)
    (h117 : PySem.W.codeIn K cd_u_law_is_value "_law_is_value" = true)
    (h118 : PySem.W.keepIn K (.ref a_u_law_is_value) = true)
    (h119 : PySem.W.nsIn K mainGlobals "values_of" = some (some (.ref a_values_of)))
    (h120 : K.lookup a_values_of = some ⟨oc_values_of, od_values_of, .func (PySem.W.fnOf "values_of" "values_of" (defArgs s_values_of) (defBody s_values_of) (defScope s_values_of) .none kV_values_of dc_values_of pm_values_of an_values_of cd_values_of ct_values_of), sl_values_of⟩)
    (h121 : PySem.W.codeIn K cd_values_of "values_of" = true)
    (h122 : PySem.W.keepIn K (.ref a_values_of) = true)
    (h123 : PySem.W.nsIn K mainGlobals "_law_told" = some (some (.ref a_u_law_told)))
    (h124 : K.lookup a_u_law_told = some ⟨oc_u_law_told, od_u_law_told, .func (PySem.W.fnOf "_law_told" "_law_told" (defArgs s_u_law_told) (defBody s_u_law_told) (defScope s_u_law_told) .none kV_u_law_told dc_u_law_told pm_u_law_told an_u_law_told cd_u_law_told ct_u_law_told), sl_u_law_told⟩)
    (h125 : PySem.W.codeIn K cd_u_law_told "_law_told" = true)
    (h126 : PySem.W.keepIn K (.ref a_u_law_told) = true)
    (h127 : PySem.W.nsIn K mainGlobals "_law_right" = some (some (.ref a_u_law_right)))
    (h128 : K.lookup a_u_law_right = some ⟨oc_u_law_right, od_u_law_right, .func (PySem.W.fnOf "_law_right" "_law_right" (defArgs s_u_law_right) (defBody s_u_law_right) (defScope s_u_law_right) .none kV_u_law_right dc_u_law_right pm_u_law_right an_u_law_right cd_u_law_right ct_u_law_right), sl_u_law_right⟩)
    (h129 : PySem.W.codeIn K cd_u_law_right "_law_right" = true)
    (h130 : PySem.W.keepIn K (.ref a_u_law_right) = true)
    (h131 : PySem.W.nsIn K mainGlobals "law" = some (some (.ref a_law)))
    (h132 : K.lookup a_law = some ⟨oc_law, od_law, .func (PySem.W.fnOf "law" "law" (defArgs s_law) (defBody s_law) (defScope s_law) .none kV_law dc_law pm_law an_law cd_law ct_law), sl_law⟩)
    (h133 : PySem.W.codeIn K cd_law "law" = true)
    (h134 : PySem.W.keepIn K (.ref a_law) = true)
    (h135 : PySem.W.nsIn K mainGlobals "ValueError" = some none)
    (h136 : PySem.W.nsIn K mainGlobals "all" = some none)
    (h137 : PySem.W.nsIn K mainGlobals "bool" = some none)
    (h138 : PySem.W.nsIn K mainGlobals "dict" = some none)
    (h139 : PySem.W.nsIn K mainGlobals "int" = some none)
    (h140 : PySem.W.nsIn K mainGlobals "isinstance" = some none)
    (h141 : PySem.W.nsIn K mainGlobals "len" = some none)
    (h142 : PySem.W.nsIn K mainGlobals "list" = some none)
    (h143 : PySem.W.nsIn K mainGlobals "max" = some none)
    (h144 : PySem.W.nsIn K mainGlobals "min" = some none)
    (h145 : PySem.W.nsIn K mainGlobals "range" = some none)
    (h146 : PySem.W.nsIn K mainGlobals "repr" = some none)
    (h147 : PySem.W.nsIn K mainGlobals "str" = some none)
    (h148 : PySem.W.nsIn K mainGlobals "tuple" = some none)
    (h149 : PySem.W.nsIn K mainGlobals "MOST_NUM" = some (some v_MOST_NUM))
    (h150 : RelV (.int 15) v_MOST_NUM)
    : ∃ fd : FuncData, (∀ (s : Shared) (v : Value), BindsTo s fd ⟨[v], []⟩ [("script", v)]) ∧ ∀ base : Heap, K.In base → base.Ns mainGlobals mg → FnG P w K mg base 7 fa fd ["script"] fn_law := by
  have e := hfa.symm.trans (PySem.W.mg_of X G h131)
  cases e
  let T : Fx K mg := {
    A_StairError := A_StairError
    g_StairError := PySem.W.mg_of X G h0
    A_BadCarriers := A_BadCarriers
    g_BadCarriers := PySem.W.mg_of X G h1
    A_BadType := A_BadType
    g_BadType := PySem.W.mg_of X G h2
    A_BadExpression := A_BadExpression
    g_BadExpression := PySem.W.mg_of X G h3
    A_GreatError := A_GreatError
    g_GreatError := PySem.W.mg_of X G h4
    A_MissError := A_MissError
    g_MissError := PySem.W.mg_of X G h5
    x_BadType := h6
    k_BadType := h7
    b_BadType := h8
    t_BadType := h9
    ex_0 := by
      intro y b h C hC
      unfold K02.ex_0 at h
      by_cases e : y = "BadType"
      · rw [if_pos e] at h
        cases h
        subst e
        have z : C = A_BadType := Value.ref.inj (Option.some.inj (hC.symm.trans (PySem.W.mg_of X G h2)))
        subst z
        exact (exms_cons (PySem.W.exm_ref h19 h20 h21 h18) (exms_cons (PySem.W.exm_ref h15 h16 h17 h14) (exms_cons (PySem.W.exm_ref h11 h12 h13 h10) exms_nil)))
      rw [if_neg e] at h
      cases h
    ix_BadType := by
      intro y b h C hC
      unfold K02.ix_BadType at h
      by_cases e : y = "BadType"
      · rw [if_pos e] at h
        cases h
        subst e
        have z : C = A_BadType := Value.ref.inj (Option.some.inj (hC.symm.trans (PySem.W.mg_of X G h2)))
        subst z
        exact ⟨⟨h22, h23, h8, h28, h24, h26, h27, h25⟩, kit_same⟩
      rw [if_neg e] at h
      cases h
    ix_ValueError := by
      intro y b h C hC
      unfold K02.ix_ValueError at h
      by_cases e : y = "BadType"
      · rw [if_pos e] at h
        cases h
        subst e
        have z : C = A_BadType := Value.ref.inj (Option.some.inj (hC.symm.trans (PySem.W.mg_of X G h2)))
        subst z
        exact ⟨⟨h22, h23, h8, h28, h24, h26, h27, h25⟩, (kit_typ (by decide +kernel) h29)⟩
      rw [if_neg e] at h
      cases h
    ix_BadCarriers_BadExpression_MissError := by
      intro y b h C hC
      unfold K02.ix_BadCarriers_BadExpression_MissError at h
      by_cases e : y = "BadType"
      · rw [if_pos e] at h
        cases h
        subst e
        have z : C = A_BadType := Value.ref.inj (Option.some.inj (hC.symm.trans (PySem.W.mg_of X G h2)))
        subst z
        exact ⟨⟨h22, h23, h8, h28, h24, h26, h27, h25⟩, (kits_no (kit_ref h36 h37 h38 h35) (kits_no (kit_ref h32 h33 h34 h31) (kits_no (kit_ref h30 h12 h13 h10) kits_nil)))⟩
      rw [if_neg e] at h
      cases h
    a_u_law_sets := a_u_law_sets
    d_u_law_sets := PySem.W.fnOf "_law_sets" "_law_sets" (defArgs s_u_law_sets) (defBody s_u_law_sets) (defScope s_u_law_sets) .none kV_u_law_sets dc_u_law_sets pm_u_law_sets an_u_law_sets cd_u_law_sets ct_u_law_sets
    F_u_law_sets := fun_mk (st := s_u_law_sets) h40 h41 h42
    g_u_law_sets := PySem.W.mg_of X G h39
    a_word_of := a_word_of
    d_word_of := PySem.W.fnOf "word_of" "word_of" (defArgs s_word_of) (defBody s_word_of) (defScope s_word_of) .none kV_word_of dc_word_of pm_word_of an_word_of cd_word_of ct_word_of
    F_word_of := fun_mk (st := s_word_of) h44 h45 h46
    g_word_of := PySem.W.mg_of X G h43
    a_is_whole := a_is_whole
    d_is_whole := PySem.W.fnOf "is_whole" "is_whole" (defArgs s_is_whole) (defBody s_is_whole) (defScope s_is_whole) .none kV_is_whole dc_is_whole pm_is_whole an_is_whole cd_is_whole ct_is_whole
    F_is_whole := fun_mk (st := s_is_whole) h48 h49 h50
    g_is_whole := PySem.W.mg_of X G h47
    a_has_set := a_has_set
    d_has_set := PySem.W.fnOf "has_set" "has_set" (defArgs s_has_set) (defBody s_has_set) (defScope s_has_set) .none kV_has_set dc_has_set pm_has_set an_has_set cd_has_set ct_has_set
    F_has_set := fun_mk (st := s_has_set) h52 h53 h54
    g_has_set := PySem.W.mg_of X G h51
    a_is_small := a_is_small
    d_is_small := PySem.W.fnOf "is_small" "is_small" (defArgs s_is_small) (defBody s_is_small) (defScope s_is_small) .none kV_is_small dc_is_small pm_is_small an_is_small cd_is_small ct_is_small
    F_is_small := fun_mk (st := s_is_small) h56 h57 h58
    g_is_small := PySem.W.mg_of X G h55
    a_is_type := a_is_type
    d_is_type := PySem.W.fnOf "is_type" "is_type" (defArgs s_is_type) (defBody s_is_type) (defScope s_is_type) .none kV_is_type dc_is_type pm_is_type an_is_type cd_is_type ct_is_type
    F_is_type := fun_mk (st := s_is_type) h60 h61 h62
    g_is_type := PySem.W.mg_of X G h59
    a_u_law_cell := a_u_law_cell
    d_u_law_cell := PySem.W.fnOf "_law_cell" "_law_cell" (defArgs s_u_law_cell) (defBody s_u_law_cell) (defScope s_u_law_cell) .none kV_u_law_cell dc_u_law_cell pm_u_law_cell an_u_law_cell cd_u_law_cell ct_u_law_cell
    F_u_law_cell := fun_mk (st := s_u_law_cell) h64 h65 h66
    g_u_law_cell := PySem.W.mg_of X G h63
    a_u_law_kind := a_u_law_kind
    d_u_law_kind := PySem.W.fnOf "_law_kind" "_law_kind" (defArgs s_u_law_kind) (defBody s_u_law_kind) (defScope s_u_law_kind) .none kV_u_law_kind dc_u_law_kind pm_u_law_kind an_u_law_kind cd_u_law_kind ct_u_law_kind
    F_u_law_kind := fun_mk (st := s_u_law_kind) h68 h69 h70
    g_u_law_kind := PySem.W.mg_of X G h67
    a_u_law_values := a_u_law_values
    d_u_law_values := PySem.W.fnOf "_law_values" "_law_values" (defArgs s_u_law_values) (defBody s_u_law_values) (defScope s_u_law_values) .none kV_u_law_values dc_u_law_values pm_u_law_values an_u_law_values cd_u_law_values ct_u_law_values
    F_u_law_values := fun_mk (st := s_u_law_values) h72 h73 h74
    g_u_law_values := PySem.W.mg_of X G h71
    a_u_law_all_values := a_u_law_all_values
    d_u_law_all_values := PySem.W.fnOf "_law_all_values" "_law_all_values" (defArgs s_u_law_all_values) (defBody s_u_law_all_values) (defScope s_u_law_all_values) .none kV_u_law_all_values dc_u_law_all_values pm_u_law_all_values an_u_law_all_values cd_u_law_all_values ct_u_law_all_values
    F_u_law_all_values := fun_mk (st := s_u_law_all_values) h76 h77 h78
    g_u_law_all_values := PySem.W.mg_of X G h75
    a_elements_of := a_elements_of
    d_elements_of := PySem.W.fnOf "elements_of" "elements_of" (defArgs s_elements_of) (defBody s_elements_of) (defScope s_elements_of) .none kV_elements_of dc_elements_of pm_elements_of an_elements_of cd_elements_of ct_elements_of
    F_elements_of := fun_mk (st := s_elements_of) h80 h81 h82
    g_elements_of := PySem.W.mg_of X G h79
    a_cells_of := a_cells_of
    d_cells_of := PySem.W.fnOf "cells_of" "cells_of" (defArgs s_cells_of) (defBody s_cells_of) (defScope s_cells_of) .none kV_cells_of dc_cells_of pm_cells_of an_cells_of cd_cells_of ct_cells_of
    F_cells_of := fun_mk (st := s_cells_of) h84 h85 h86
    g_cells_of := PySem.W.mg_of X G h83
    a_u_law_cells_right := a_u_law_cells_right
    d_u_law_cells_right := PySem.W.fnOf "_law_cells_right" "_law_cells_right" (defArgs s_u_law_cells_right) (defBody s_u_law_cells_right) (defScope s_u_law_cells_right) .none kV_u_law_cells_right dc_u_law_cells_right pm_u_law_cells_right an_u_law_cells_right cd_u_law_cells_right ct_u_law_cells_right
    F_u_law_cells_right := fun_mk (st := s_u_law_cells_right) h88 h89 h90
    g_u_law_cells_right := PySem.W.mg_of X G h87
    a_u_law_odd_kind := a_u_law_odd_kind
    d_u_law_odd_kind := PySem.W.fnOf "_law_odd_kind" "_law_odd_kind" (defArgs s_u_law_odd_kind) (defBody s_u_law_odd_kind) (defScope s_u_law_odd_kind) .none kV_u_law_odd_kind dc_u_law_odd_kind pm_u_law_odd_kind an_u_law_odd_kind cd_u_law_odd_kind ct_u_law_odd_kind
    F_u_law_odd_kind := fun_mk (st := s_u_law_odd_kind) h92 h93 h94
    g_u_law_odd_kind := PySem.W.mg_of X G h91
    a_u_law_odd_value := a_u_law_odd_value
    d_u_law_odd_value := PySem.W.fnOf "_law_odd_value" "_law_odd_value" (defArgs s_u_law_odd_value) (defBody s_u_law_odd_value) (defScope s_u_law_odd_value) .none kV_u_law_odd_value dc_u_law_odd_value pm_u_law_odd_value an_u_law_odd_value cd_u_law_odd_value ct_u_law_odd_value
    F_u_law_odd_value := fun_mk (st := s_u_law_odd_value) h96 h97 h98
    g_u_law_odd_value := PySem.W.mg_of X G h95
    a_u_law_is_small := a_u_law_is_small
    d_u_law_is_small := PySem.W.fnOf "_law_is_small" "_law_is_small" (defArgs s_u_law_is_small) (defBody s_u_law_is_small) (defScope s_u_law_is_small) .none kV_u_law_is_small dc_u_law_is_small pm_u_law_is_small an_u_law_is_small cd_u_law_is_small ct_u_law_is_small
    F_u_law_is_small := fun_mk (st := s_u_law_is_small) h100 h101 h102
    g_u_law_is_small := PySem.W.mg_of X G h99
    a_u_law_is_type := a_u_law_is_type
    d_u_law_is_type := PySem.W.fnOf "_law_is_type" "_law_is_type" (defArgs s_u_law_is_type) (defBody s_u_law_is_type) (defScope s_u_law_is_type) .none kV_u_law_is_type dc_u_law_is_type pm_u_law_is_type an_u_law_is_type cd_u_law_is_type ct_u_law_is_type
    F_u_law_is_type := fun_mk (st := s_u_law_is_type) h104 h105 h106
    g_u_law_is_type := PySem.W.mg_of X G h103
    a_u_is_part := a_u_is_part
    d_u_is_part := PySem.W.fnOf "_is_part" "_is_part" (defArgs s_u_is_part) (defBody s_u_is_part) (defScope s_u_is_part) .none kV_u_is_part dc_u_is_part pm_u_is_part an_u_is_part cd_u_is_part ct_u_is_part
    F_u_is_part := fun_mk (st := s_u_is_part) h108 h109 h110
    g_u_is_part := PySem.W.mg_of X G h107
    a_is_value := a_is_value
    d_is_value := PySem.W.fnOf "is_value" "is_value" (defArgs s_is_value) (defBody s_is_value) (defScope s_is_value) .none kV_is_value dc_is_value pm_is_value an_is_value cd_is_value ct_is_value
    F_is_value := fun_mk (st := s_is_value) h112 h113 h114
    g_is_value := PySem.W.mg_of X G h111
    a_u_law_is_value := a_u_law_is_value
    d_u_law_is_value := PySem.W.fnOf "_law_is_value" "_law_is_value" (defArgs s_u_law_is_value) (defBody s_u_law_is_value) (defScope s_u_law_is_value) .none kV_u_law_is_value dc_u_law_is_value pm_u_law_is_value an_u_law_is_value cd_u_law_is_value ct_u_law_is_value
    F_u_law_is_value := fun_mk (st := s_u_law_is_value) h116 h117 h118
    g_u_law_is_value := PySem.W.mg_of X G h115
    a_values_of := a_values_of
    d_values_of := PySem.W.fnOf "values_of" "values_of" (defArgs s_values_of) (defBody s_values_of) (defScope s_values_of) .none kV_values_of dc_values_of pm_values_of an_values_of cd_values_of ct_values_of
    F_values_of := fun_mk (st := s_values_of) h120 h121 h122
    g_values_of := PySem.W.mg_of X G h119
    a_u_law_told := a_u_law_told
    d_u_law_told := PySem.W.fnOf "_law_told" "_law_told" (defArgs s_u_law_told) (defBody s_u_law_told) (defScope s_u_law_told) .none kV_u_law_told dc_u_law_told pm_u_law_told an_u_law_told cd_u_law_told ct_u_law_told
    F_u_law_told := fun_mk (st := s_u_law_told) h124 h125 h126
    g_u_law_told := PySem.W.mg_of X G h123
    a_u_law_right := a_u_law_right
    d_u_law_right := PySem.W.fnOf "_law_right" "_law_right" (defArgs s_u_law_right) (defBody s_u_law_right) (defScope s_u_law_right) .none kV_u_law_right dc_u_law_right pm_u_law_right an_u_law_right cd_u_law_right ct_u_law_right
    F_u_law_right := fun_mk (st := s_u_law_right) h128 h129 h130
    g_u_law_right := PySem.W.mg_of X G h127
    a_law := fa
    d_law := PySem.W.fnOf "law" "law" (defArgs s_law) (defBody s_law) (defScope s_law) .none kV_law dc_law pm_law an_law cd_law ct_law
    F_law := fun_mk (st := s_law) h132 h133 h134
    n_ValueError := PySem.W.mg_none_of X G h135
    n_all := PySem.W.mg_none_of X G h136
    n_bool := PySem.W.mg_none_of X G h137
    n_dict := PySem.W.mg_none_of X G h138
    n_int := PySem.W.mg_none_of X G h139
    n_isinstance := PySem.W.mg_none_of X G h140
    n_len := PySem.W.mg_none_of X G h141
    n_list := PySem.W.mg_none_of X G h142
    n_max := PySem.W.mg_none_of X G h143
    n_min := PySem.W.mg_none_of X G h144
    n_range := PySem.W.mg_none_of X G h145
    n_repr := PySem.W.mg_none_of X G h146
    n_str := PySem.W.mg_none_of X G h147
    n_tuple := PySem.W.mg_none_of X G h148
    v_MOST_NUM := v_MOST_NUM
    c_MOST_NUM := PySem.W.mg_of X G h149
    r_MOST_NUM := h150
  }
  exact ⟨T.d_law, fun s v => .of_eq rfl, fun base _ _ => ok_law T⟩
end K02
set_option maxRecDepth 100000
set_option maxHeartbeats 1000000
namespace K02
open PySem PySem.Spec PyProof.Rows L2 Zz
theorem body_ok {np nl : Nat} {b : SD} {as : List Val} {d : D} {S : List Cell} (h : b (as.map some ++ List.replicate (nl - as.length) none) S = .rt (.d d) S) (ha : as.length = np := by rfl) : bodyFn np nl b as S = .ok (.d d) S := by
  rw [body_rt ha h, List.take_length]
/-! ### sets: names with their elements -/
abbrev Sets := List (Str × List Str)
def rowD (p : Str × List Str) : D := .tuple [.str p.1, .tuple (p.2.map .str)]
def setsD (L : Sets) : D := .tuple (L.map rowD)
def names (L : Sets) : List Str := L.map (·.1)
def hasD (L : Sets) : D → Bool
  | .str s => decide (s ∈ names L)
  | _ => false
def smallD (L : Sets) : D → Bool
  | .tuple [.str t, y] => if t = "num" then (match y with | .int i => decide (1 ≤ i) && decide (i ≤ 15) | _ => false) else if t = "one" then hasD L y else false
  | .tuple [.str t] => decide (t = "truth")
  | _ => false
def typeD (L : Sets) : D → Bool
  | .tuple [.str t, y] => if t = "some" then hasD L y else smallD L (.tuple [.str t, y])
  | .tuple [.str t, y, z] => decide (t = "map") && (hasD L y && smallD L z)
  | d => smallD L d
def wordD : D → Str
  | .tuple (.str t :: _) => t
  | _ => ""
theorem lits : ¬ (("" : Str) = "num") ∧ ¬ (("" : Str) = "one") ∧ ¬ (("" : Str) = "truth") ∧ ¬ (("" : Str) = "some") ∧ ¬ (("" : Str) = "map") ∧ ¬ (("num" : Str) = "") ∧ ¬ (("num" : Str) = "one") ∧ ¬ (("num" : Str) = "truth") ∧ ¬ (("num" : Str) = "some") ∧ ¬ (("num" : Str) = "map") ∧ ¬ (("one" : Str) = "") ∧ ¬ (("one" : Str) = "num") ∧ ¬ (("one" : Str) = "truth") ∧ ¬ (("one" : Str) = "some") ∧ ¬ (("one" : Str) = "map") ∧ ¬ (("truth" : Str) = "") ∧ ¬ (("truth" : Str) = "num") ∧ ¬ (("truth" : Str) = "one") ∧ ¬ (("truth" : Str) = "some") ∧ ¬ (("truth" : Str) = "map") ∧ ¬ (("some" : Str) = "") ∧ ¬ (("some" : Str) = "num") ∧ ¬ (("some" : Str) = "one") ∧ ¬ (("some" : Str) = "truth") ∧ ¬ (("some" : Str) = "map") ∧ ¬ (("map" : Str) = "") ∧ ¬ (("map" : Str) = "num") ∧ ¬ (("map" : Str) = "one") ∧ ¬ (("map" : Str) = "truth") ∧ ¬ (("map" : Str) = "some") := by decide +kernel
theorem atI0 {A : Type} (a : A) (r : List A) : atI (a :: r) 0 = some a := at0 a r
theorem atI1 {A : Type} (a b : A) (r : List A) : atI (a :: b :: r) 1 = some b := atI_nat (j := 1) rfl
theorem atI2 {A : Type} (a b c : A) (r : List A) : atI (a :: b :: c :: r) 2 = some c := atI_nat (j := 2) rfl
theorem eqS (x y : Str) : oEq (.str x) (.str y) = some (.bool (decide (x = y))) := by
  show some (PyData.bool (PyData.eqv (.str x) (.str y))) = _
  congr 2
theorem eqI (i j : Int) : oEq (.int i) (.int j) = some (.bool (decide (i = j))) := by
  show some (PyData.bool (PyData.eqv (.int i) (.int j))) = _
  congr 2
theorem neI (i j : Int) : oNe (.int i) (.int j) = some (.bool (!decide (i = j))) := by
  show some (PyData.bool (!PyData.eqv (.int i) (.int j))) = _
  congr 3
theorem word_f (d : D) (S : List Cell) : fn_word_of [.d d] S = .ok (.d (.str (wordD d))) S := by
  refine body_ok ?_
  show body_word_of [some (.d d)] S = _
  unfold body_word_of
  cases d with
  | tuple ds =>
    match ds with
    | [] => simp [Zz.iteA, Zz.sSeq, Zz.sIf, Zz.sRet, Zz.sNil, Zz.sSet, Zz.sExpr, Zz.sRetN, Zz.sAsg, Zz.toTup, Zz.toCons, Zz.toNil, Zz.toName, Zz.tOrD, Zz.tAndD, Zz.tNotD, Zz.toB, Zz.toBr, Zz.toT, Zz.truD, Zz.dFn1, Zz.on1, Zz.dVar, Zz.dBin, Zz.on2, Zz.dChain, Zz.dNot, Zz.dAnd, Zz.dOr, Zz.dIf, Zz.dTup, Zz.dLst, Zz.dNil, Zz.dCons, Zz.frzs, Zz.dCall, Zz.oLe, Zz.oLt, Zz.oGt, Zz.oGe, Zz.oCmp, oIsB, isB, oLen, wordD]
    | x :: r =>
      have i1 : (0 : Int) < (r.length : Int) + 1 := by omega
      cases x <;> simp [Zz.iteA, Zz.sSeq, Zz.sIf, Zz.sRet, Zz.sNil, Zz.sSet, Zz.sExpr, Zz.sRetN, Zz.sAsg, Zz.toTup, Zz.toCons, Zz.toNil, Zz.toName, Zz.tOrD, Zz.tAndD, Zz.tNotD, Zz.toB, Zz.toBr, Zz.toT, Zz.truD, Zz.dFn1, Zz.on1, Zz.dVar, Zz.dBin, Zz.on2, Zz.dChain, Zz.dNot, Zz.dAnd, Zz.dOr, Zz.dIf, Zz.dTup, Zz.dLst, Zz.dNil, Zz.dCons, Zz.frzs, Zz.dCall, Zz.oLe, Zz.oLt, Zz.oGt, Zz.oGe, Zz.oCmp, oIsB, isB, oLen, wordD, oIx, i1, atI0]
  | _ => simp [Zz.iteA, Zz.sSeq, Zz.sIf, Zz.sRet, Zz.sNil, Zz.sSet, Zz.sExpr, Zz.sRetN, Zz.sAsg, Zz.toTup, Zz.toCons, Zz.toNil, Zz.toName, Zz.tOrD, Zz.tAndD, Zz.tNotD, Zz.toB, Zz.toBr, Zz.toT, Zz.truD, Zz.dFn1, Zz.on1, Zz.dVar, Zz.dBin, Zz.on2, Zz.dChain, Zz.dNot, Zz.dAnd, Zz.dOr, Zz.dIf, Zz.dTup, Zz.dLst, Zz.dNil, Zz.dCons, Zz.frzs, Zz.dCall, Zz.oLe, Zz.oLt, Zz.oGt, Zz.oGe, Zz.oCmp, oIsB, isB, wordD]
theorem whole_f (d : D) (S : List Cell) : fn_is_whole [.d d] S = .ok (.d (.bool (match d with | .int _ => true | _ => false))) S := by
  refine body_ok ?_
  show body_is_whole [some (.d d)] S = _
  unfold body_is_whole
  cases d <;> simp [Zz.iteA, Zz.sSeq, Zz.sIf, Zz.sRet, Zz.sNil, Zz.sSet, Zz.sExpr, Zz.sRetN, Zz.sAsg, Zz.toTup, Zz.toCons, Zz.toNil, Zz.toName, Zz.tOrD, Zz.tAndD, Zz.tNotD, Zz.toB, Zz.toBr, Zz.toT, Zz.truD, Zz.dFn1, Zz.on1, Zz.dVar, Zz.dBin, Zz.on2, Zz.dChain, Zz.dNot, Zz.dAnd, Zz.dOr, Zz.dIf, Zz.dTup, Zz.dLst, Zz.dNil, Zz.dCons, Zz.frzs, Zz.dCall, Zz.oLe, Zz.oLt, Zz.oGt, Zz.oGe, Zz.oCmp, oIsB, isB]
theorem comp_names (L : Sets) (hl : L.length ≤ 16777216) (t : D) (S : List Cell) : dLc (itAny (dVar 0)) (toTup (toCons (toName 2) (toCons (toName 3) toNil))) (fun l => kTest (fun _ => M.ret true) (kPush l (dVar 2))) [2, 3] [some (.d (setsD L)), some (.d t), none, none] S
    = .ok (.d (.list ((names L).map .str))) S := by
  have hit : itAny (dVar 0) [some (.d (setsD L)), some (.d t), none, none] S = .ok (L.map rowD) S := itAny_at (d := setsD L) rfl rfl
  rw [dLc_pure (ρ1 := fun d => match d with | .tuple [a, b] => [some (.d (setsD L)), some (.d t), some (.d a), some (.d b)] | _ => []) (p := fun _ => true) (v := fun d => match d with | .tuple [a, b] => a | _ => .none) hit (by rw [List.length_map]; exact hl) (fun d hd => ?_) (fun d _ R => rfl) fun d hd _ R => ?_]
  · rw [filter_yes, List.map_map]
    unfold names
    rw [List.map_map]
    rfl
  · obtain ⟨p, _, rfl⟩ := List.mem_map.mp hd
    rfl
  · obtain ⟨p, _, rfl⟩ := List.mem_map.mp hd
    rfl
theorem any_str (s : Str) : ∀ l : List Str, ((l.map PyData.str).any fun b => PyData.eqv b (.str s)) = decide (s ∈ l)
  | [] => by simp
  | x :: l => by
    rw [List.map_cons, List.any_cons, any_str s l]
    by_cases h : x = s
    · simp [PyData.eqv, h]
    · have h2 : ¬ s = x := fun z => h z.symm
      simp [PyData.eqv, h, h2]
theorem flat_strs : ∀ l : List Str, (l.map PyData.str).all flatD = true
  | [] => rfl
  | _ :: l => by rw [List.map_cons, List.all_cons, flat_strs l]; rfl
theorem inL (s : Str) (l : List Str) : oIn (.str s) (.list (l.map .str)) = some (.bool (decide (s ∈ l))) := by
  unfold oIn inD
  simp only [flat_strs, any_str]
  rfl
theorem inT (s : Str) (l : List Str) : oIn (.str s) (.tuple (l.map .str)) = some (.bool (decide (s ∈ l))) := by
  unfold oIn inD
  simp only [flat_strs, any_str]
  rfl
theorem has_f (L : Sets) (hl : L.length ≤ 16777216) (t : D) (S : List Cell) : fn_has_set [.d (setsD L), .d t] S = .ok (.d (.bool (hasD L t))) S := by
  refine body_ok ?_
  show body_has_set [some (.d (setsD L)), some (.d t), none, none] S = _
  unfold body_has_set
  cases t with
  | str s => simp [Zz.iteA, Zz.sSeq, Zz.sIf, Zz.sRet, Zz.sNil, Zz.sSet, Zz.sExpr, Zz.sRetN, Zz.sAsg, Zz.toTup, Zz.toCons, Zz.toNil, Zz.toName, Zz.tOrD, Zz.tAndD, Zz.tNotD, Zz.toB, Zz.toBr, Zz.toT, Zz.truD, Zz.dFn1, Zz.on1, Zz.dVar, Zz.dBin, Zz.on2, Zz.dChain, Zz.dNot, Zz.dAnd, Zz.dOr, Zz.dIf, Zz.dTup, Zz.dLst, Zz.dNil, Zz.dCons, Zz.frzs, Zz.dCall, Zz.oLe, Zz.oLt, Zz.oGt, Zz.oGe, Zz.oCmp, oIsB, isB, comp_names L hl, inL, hasD]
  | _ => simp [Zz.iteA, Zz.sSeq, Zz.sIf, Zz.sRet, Zz.sNil, Zz.sSet, Zz.sExpr, Zz.sRetN, Zz.sAsg, Zz.toTup, Zz.toCons, Zz.toNil, Zz.toName, Zz.tOrD, Zz.tAndD, Zz.tNotD, Zz.toB, Zz.toBr, Zz.toT, Zz.truD, Zz.dFn1, Zz.on1, Zz.dVar, Zz.dBin, Zz.on2, Zz.dChain, Zz.dNot, Zz.dAnd, Zz.dOr, Zz.dIf, Zz.dTup, Zz.dLst, Zz.dNil, Zz.dCons, Zz.frzs, Zz.dCall, Zz.oLe, Zz.oLt, Zz.oGt, Zz.oGe, Zz.oCmp, oIsB, isB, hasD]
theorem small_f (L : Sets) (hl : L.length ≤ 16777216) (t : D) (S : List Cell) : fn_is_small [.d (setsD L), .d t] S = .ok (.d (.bool (smallD L t))) S := by
  refine body_ok ?_
  show body_is_small [some (.d (setsD L)), some (.d t), none] S = _
  unfold body_is_small
  cases t with
  | tuple ds =>
    match ds with
    | [] => simp [Zz.iteA, Zz.sSeq, Zz.sIf, Zz.sRet, Zz.sNil, Zz.sSet, Zz.sExpr, Zz.sRetN, Zz.sAsg, Zz.toTup, Zz.toCons, Zz.toNil, Zz.toName, Zz.tOrD, Zz.tAndD, Zz.tNotD, Zz.toB, Zz.toBr, Zz.toT, Zz.truD, Zz.dFn1, Zz.on1, Zz.dVar, Zz.dBin, Zz.on2, Zz.dChain, Zz.dNot, Zz.dAnd, Zz.dOr, Zz.dIf, Zz.dTup, Zz.dLst, Zz.dNil, Zz.dCons, Zz.frzs, Zz.dCall, Zz.oLe, Zz.oLt, Zz.oGt, Zz.oGe, Zz.oCmp, word_f, wordD, eqS, lits, smallD]
    | [x] =>
      cases x with
      | str w =>
        by_cases h1 : w = "num"
        · subst h1; simp [Zz.iteA, Zz.sSeq, Zz.sIf, Zz.sRet, Zz.sNil, Zz.sSet, Zz.sExpr, Zz.sRetN, Zz.sAsg, Zz.toTup, Zz.toCons, Zz.toNil, Zz.toName, Zz.tOrD, Zz.tAndD, Zz.tNotD, Zz.toB, Zz.toBr, Zz.toT, Zz.truD, Zz.dFn1, Zz.on1, Zz.dVar, Zz.dBin, Zz.on2, Zz.dChain, Zz.dNot, Zz.dAnd, Zz.dOr, Zz.dIf, Zz.dTup, Zz.dLst, Zz.dNil, Zz.dCons, Zz.frzs, Zz.dCall, Zz.oLe, Zz.oLt, Zz.oGt, Zz.oGe, Zz.oCmp, word_f, wordD, eqS, lits, smallD, oLen, eqI]
        · by_cases h2 : w = "one"
          · subst h2; simp [Zz.iteA, Zz.sSeq, Zz.sIf, Zz.sRet, Zz.sNil, Zz.sSet, Zz.sExpr, Zz.sRetN, Zz.sAsg, Zz.toTup, Zz.toCons, Zz.toNil, Zz.toName, Zz.tOrD, Zz.tAndD, Zz.tNotD, Zz.toB, Zz.toBr, Zz.toT, Zz.truD, Zz.dFn1, Zz.on1, Zz.dVar, Zz.dBin, Zz.on2, Zz.dChain, Zz.dNot, Zz.dAnd, Zz.dOr, Zz.dIf, Zz.dTup, Zz.dLst, Zz.dNil, Zz.dCons, Zz.frzs, Zz.dCall, Zz.oLe, Zz.oLt, Zz.oGt, Zz.oGe, Zz.oCmp, word_f, wordD, eqS, lits, smallD, oLen, eqI]
          · by_cases h3 : w = "truth"
            · subst h3; simp [Zz.iteA, Zz.sSeq, Zz.sIf, Zz.sRet, Zz.sNil, Zz.sSet, Zz.sExpr, Zz.sRetN, Zz.sAsg, Zz.toTup, Zz.toCons, Zz.toNil, Zz.toName, Zz.tOrD, Zz.tAndD, Zz.tNotD, Zz.toB, Zz.toBr, Zz.toT, Zz.truD, Zz.dFn1, Zz.on1, Zz.dVar, Zz.dBin, Zz.on2, Zz.dChain, Zz.dNot, Zz.dAnd, Zz.dOr, Zz.dIf, Zz.dTup, Zz.dLst, Zz.dNil, Zz.dCons, Zz.frzs, Zz.dCall, Zz.oLe, Zz.oLt, Zz.oGt, Zz.oGe, Zz.oCmp, word_f, wordD, eqS, lits, smallD, oLen, eqI]
            · simp [Zz.iteA, Zz.sSeq, Zz.sIf, Zz.sRet, Zz.sNil, Zz.sSet, Zz.sExpr, Zz.sRetN, Zz.sAsg, Zz.toTup, Zz.toCons, Zz.toNil, Zz.toName, Zz.tOrD, Zz.tAndD, Zz.tNotD, Zz.toB, Zz.toBr, Zz.toT, Zz.truD, Zz.dFn1, Zz.on1, Zz.dVar, Zz.dBin, Zz.on2, Zz.dChain, Zz.dNot, Zz.dAnd, Zz.dOr, Zz.dIf, Zz.dTup, Zz.dLst, Zz.dNil, Zz.dCons, Zz.frzs, Zz.dCall, Zz.oLe, Zz.oLt, Zz.oGt, Zz.oGe, Zz.oCmp, word_f, wordD, eqS, lits, smallD, oLen, eqI, h1, h2, h3]
      | _ => simp [Zz.iteA, Zz.sSeq, Zz.sIf, Zz.sRet, Zz.sNil, Zz.sSet, Zz.sExpr, Zz.sRetN, Zz.sAsg, Zz.toTup, Zz.toCons, Zz.toNil, Zz.toName, Zz.tOrD, Zz.tAndD, Zz.tNotD, Zz.toB, Zz.toBr, Zz.toT, Zz.truD, Zz.dFn1, Zz.on1, Zz.dVar, Zz.dBin, Zz.on2, Zz.dChain, Zz.dNot, Zz.dAnd, Zz.dOr, Zz.dIf, Zz.dTup, Zz.dLst, Zz.dNil, Zz.dCons, Zz.frzs, Zz.dCall, Zz.oLe, Zz.oLt, Zz.oGt, Zz.oGe, Zz.oCmp, word_f, wordD, eqS, lits, smallD]
    | [x, y] =>
      cases x with
      | str w =>
        by_cases h1 : w = "num"
        · subst h1
          cases y with
          | int i =>
            by_cases i1 : 1 ≤ i
            · simp [Zz.iteA, Zz.sSeq, Zz.sIf, Zz.sRet, Zz.sNil, Zz.sSet, Zz.sExpr, Zz.sRetN, Zz.sAsg, Zz.toTup, Zz.toCons, Zz.toNil, Zz.toName, Zz.tOrD, Zz.tAndD, Zz.tNotD, Zz.toB, Zz.toBr, Zz.toT, Zz.truD, Zz.dFn1, Zz.on1, Zz.dVar, Zz.dBin, Zz.on2, Zz.dChain, Zz.dNot, Zz.dAnd, Zz.dOr, Zz.dIf, Zz.dTup, Zz.dLst, Zz.dNil, Zz.dCons, Zz.frzs, Zz.dCall, Zz.oLe, Zz.oLt, Zz.oGt, Zz.oGe, Zz.oCmp, word_f, wordD, eqS, lits, smallD, oLen, eqI, oIx, atI1, whole_f, i1]
            · simp [Zz.iteA, Zz.sSeq, Zz.sIf, Zz.sRet, Zz.sNil, Zz.sSet, Zz.sExpr, Zz.sRetN, Zz.sAsg, Zz.toTup, Zz.toCons, Zz.toNil, Zz.toName, Zz.tOrD, Zz.tAndD, Zz.tNotD, Zz.toB, Zz.toBr, Zz.toT, Zz.truD, Zz.dFn1, Zz.on1, Zz.dVar, Zz.dBin, Zz.on2, Zz.dChain, Zz.dNot, Zz.dAnd, Zz.dOr, Zz.dIf, Zz.dTup, Zz.dLst, Zz.dNil, Zz.dCons, Zz.frzs, Zz.dCall, Zz.oLe, Zz.oLt, Zz.oGt, Zz.oGe, Zz.oCmp, word_f, wordD, eqS, lits, smallD, oLen, eqI, oIx, atI1, whole_f, i1]
          | _ => simp [Zz.iteA, Zz.sSeq, Zz.sIf, Zz.sRet, Zz.sNil, Zz.sSet, Zz.sExpr, Zz.sRetN, Zz.sAsg, Zz.toTup, Zz.toCons, Zz.toNil, Zz.toName, Zz.tOrD, Zz.tAndD, Zz.tNotD, Zz.toB, Zz.toBr, Zz.toT, Zz.truD, Zz.dFn1, Zz.on1, Zz.dVar, Zz.dBin, Zz.on2, Zz.dChain, Zz.dNot, Zz.dAnd, Zz.dOr, Zz.dIf, Zz.dTup, Zz.dLst, Zz.dNil, Zz.dCons, Zz.frzs, Zz.dCall, Zz.oLe, Zz.oLt, Zz.oGt, Zz.oGe, Zz.oCmp, word_f, wordD, eqS, lits, smallD, oLen, eqI, oIx, atI1, whole_f]
        · by_cases h2 : w = "one"
          · subst h2; simp [Zz.iteA, Zz.sSeq, Zz.sIf, Zz.sRet, Zz.sNil, Zz.sSet, Zz.sExpr, Zz.sRetN, Zz.sAsg, Zz.toTup, Zz.toCons, Zz.toNil, Zz.toName, Zz.tOrD, Zz.tAndD, Zz.tNotD, Zz.toB, Zz.toBr, Zz.toT, Zz.truD, Zz.dFn1, Zz.on1, Zz.dVar, Zz.dBin, Zz.on2, Zz.dChain, Zz.dNot, Zz.dAnd, Zz.dOr, Zz.dIf, Zz.dTup, Zz.dLst, Zz.dNil, Zz.dCons, Zz.frzs, Zz.dCall, Zz.oLe, Zz.oLt, Zz.oGt, Zz.oGe, Zz.oCmp, word_f, wordD, eqS, lits, smallD, oLen, eqI, oIx, atI1, has_f L hl]
          · simp [Zz.iteA, Zz.sSeq, Zz.sIf, Zz.sRet, Zz.sNil, Zz.sSet, Zz.sExpr, Zz.sRetN, Zz.sAsg, Zz.toTup, Zz.toCons, Zz.toNil, Zz.toName, Zz.tOrD, Zz.tAndD, Zz.tNotD, Zz.toB, Zz.toBr, Zz.toT, Zz.truD, Zz.dFn1, Zz.on1, Zz.dVar, Zz.dBin, Zz.on2, Zz.dChain, Zz.dNot, Zz.dAnd, Zz.dOr, Zz.dIf, Zz.dTup, Zz.dLst, Zz.dNil, Zz.dCons, Zz.frzs, Zz.dCall, Zz.oLe, Zz.oLt, Zz.oGt, Zz.oGe, Zz.oCmp, word_f, wordD, eqS, lits, smallD, oLen, eqI, h1, h2]
      | _ => simp [Zz.iteA, Zz.sSeq, Zz.sIf, Zz.sRet, Zz.sNil, Zz.sSet, Zz.sExpr, Zz.sRetN, Zz.sAsg, Zz.toTup, Zz.toCons, Zz.toNil, Zz.toName, Zz.tOrD, Zz.tAndD, Zz.tNotD, Zz.toB, Zz.toBr, Zz.toT, Zz.truD, Zz.dFn1, Zz.on1, Zz.dVar, Zz.dBin, Zz.on2, Zz.dChain, Zz.dNot, Zz.dAnd, Zz.dOr, Zz.dIf, Zz.dTup, Zz.dLst, Zz.dNil, Zz.dCons, Zz.frzs, Zz.dCall, Zz.oLe, Zz.oLt, Zz.oGt, Zz.oGe, Zz.oCmp, word_f, wordD, eqS, lits, smallD]
    | x :: y :: z :: r =>
      have n2 : ¬ ((r.length : Int) + 1 + 1 + 1 = 2) := by omega
      have n1 : ¬ ((r.length : Int) + 1 + 1 + 1 = 1) := by omega
      cases x with
      | str w =>
        by_cases h1 : w = "num"
        · subst h1; simp [Zz.iteA, Zz.sSeq, Zz.sIf, Zz.sRet, Zz.sNil, Zz.sSet, Zz.sExpr, Zz.sRetN, Zz.sAsg, Zz.toTup, Zz.toCons, Zz.toNil, Zz.toName, Zz.tOrD, Zz.tAndD, Zz.tNotD, Zz.toB, Zz.toBr, Zz.toT, Zz.truD, Zz.dFn1, Zz.on1, Zz.dVar, Zz.dBin, Zz.on2, Zz.dChain, Zz.dNot, Zz.dAnd, Zz.dOr, Zz.dIf, Zz.dTup, Zz.dLst, Zz.dNil, Zz.dCons, Zz.frzs, Zz.dCall, Zz.oLe, Zz.oLt, Zz.oGt, Zz.oGe, Zz.oCmp, word_f, wordD, eqS, lits, smallD, oLen, eqI, n2]
        · by_cases h2 : w = "one"
          · subst h2; simp [Zz.iteA, Zz.sSeq, Zz.sIf, Zz.sRet, Zz.sNil, Zz.sSet, Zz.sExpr, Zz.sRetN, Zz.sAsg, Zz.toTup, Zz.toCons, Zz.toNil, Zz.toName, Zz.tOrD, Zz.tAndD, Zz.tNotD, Zz.toB, Zz.toBr, Zz.toT, Zz.truD, Zz.dFn1, Zz.on1, Zz.dVar, Zz.dBin, Zz.on2, Zz.dChain, Zz.dNot, Zz.dAnd, Zz.dOr, Zz.dIf, Zz.dTup, Zz.dLst, Zz.dNil, Zz.dCons, Zz.frzs, Zz.dCall, Zz.oLe, Zz.oLt, Zz.oGt, Zz.oGe, Zz.oCmp, word_f, wordD, eqS, lits, smallD, oLen, eqI, n2]
          · simp [Zz.iteA, Zz.sSeq, Zz.sIf, Zz.sRet, Zz.sNil, Zz.sSet, Zz.sExpr, Zz.sRetN, Zz.sAsg, Zz.toTup, Zz.toCons, Zz.toNil, Zz.toName, Zz.tOrD, Zz.tAndD, Zz.tNotD, Zz.toB, Zz.toBr, Zz.toT, Zz.truD, Zz.dFn1, Zz.on1, Zz.dVar, Zz.dBin, Zz.on2, Zz.dChain, Zz.dNot, Zz.dAnd, Zz.dOr, Zz.dIf, Zz.dTup, Zz.dLst, Zz.dNil, Zz.dCons, Zz.frzs, Zz.dCall, Zz.oLe, Zz.oLt, Zz.oGt, Zz.oGe, Zz.oCmp, word_f, wordD, eqS, lits, smallD, oLen, eqI, h1, h2, n1]
      | _ => simp [Zz.iteA, Zz.sSeq, Zz.sIf, Zz.sRet, Zz.sNil, Zz.sSet, Zz.sExpr, Zz.sRetN, Zz.sAsg, Zz.toTup, Zz.toCons, Zz.toNil, Zz.toName, Zz.tOrD, Zz.tAndD, Zz.tNotD, Zz.toB, Zz.toBr, Zz.toT, Zz.truD, Zz.dFn1, Zz.on1, Zz.dVar, Zz.dBin, Zz.on2, Zz.dChain, Zz.dNot, Zz.dAnd, Zz.dOr, Zz.dIf, Zz.dTup, Zz.dLst, Zz.dNil, Zz.dCons, Zz.frzs, Zz.dCall, Zz.oLe, Zz.oLt, Zz.oGt, Zz.oGe, Zz.oCmp, word_f, wordD, eqS, lits, smallD]
  | _ => simp [Zz.iteA, Zz.sSeq, Zz.sIf, Zz.sRet, Zz.sNil, Zz.sSet, Zz.sExpr, Zz.sRetN, Zz.sAsg, Zz.toTup, Zz.toCons, Zz.toNil, Zz.toName, Zz.tOrD, Zz.tAndD, Zz.tNotD, Zz.toB, Zz.toBr, Zz.toT, Zz.truD, Zz.dFn1, Zz.on1, Zz.dVar, Zz.dBin, Zz.on2, Zz.dChain, Zz.dNot, Zz.dAnd, Zz.dOr, Zz.dIf, Zz.dTup, Zz.dLst, Zz.dNil, Zz.dCons, Zz.frzs, Zz.dCall, Zz.oLe, Zz.oLt, Zz.oGt, Zz.oGe, Zz.oCmp, word_f, wordD, eqS, lits, smallD]
end K02
set_option maxRecDepth 100000
set_option maxHeartbeats 1000000
namespace K02
open PySem PySem.Spec PyProof.Rows L2 Zz
theorem type_f (L : Sets) (hl : L.length ≤ 16777216) (t : D) (S : List Cell) : fn_is_type [.d (setsD L), .d t] S = .ok (.d (.bool (typeD L t))) S := by
  refine body_ok ?_
  show body_is_type [some (.d (setsD L)), some (.d t), none] S = _
  unfold body_is_type
  cases t with
  | tuple ds =>
    match ds with
    | [] => simp [Zz.iteA, Zz.sSeq, Zz.sIf, Zz.sRet, Zz.sNil, Zz.sSet, Zz.sExpr, Zz.sRetN, Zz.sAsg, Zz.toTup, Zz.toCons, Zz.toNil, Zz.toName, Zz.tOrD, Zz.tAndD, Zz.tNotD, Zz.toB, Zz.toBr, Zz.toT, Zz.truD, Zz.dFn1, Zz.on1, Zz.dVar, Zz.dBin, Zz.on2, Zz.dChain, Zz.dNot, Zz.dAnd, Zz.dOr, Zz.dIf, Zz.dTup, Zz.dLst, Zz.dNil, Zz.dCons, Zz.frzs, Zz.dCall, Zz.oLe, Zz.oLt, Zz.oGt, Zz.oGe, Zz.oCmp, word_f, wordD, eqS, lits, typeD, small_f L hl]
    | [x] =>
      cases x with
      | str w =>
        by_cases h1 : w = "some"
        · subst h1; simp [Zz.iteA, Zz.sSeq, Zz.sIf, Zz.sRet, Zz.sNil, Zz.sSet, Zz.sExpr, Zz.sRetN, Zz.sAsg, Zz.toTup, Zz.toCons, Zz.toNil, Zz.toName, Zz.tOrD, Zz.tAndD, Zz.tNotD, Zz.toB, Zz.toBr, Zz.toT, Zz.truD, Zz.dFn1, Zz.on1, Zz.dVar, Zz.dBin, Zz.on2, Zz.dChain, Zz.dNot, Zz.dAnd, Zz.dOr, Zz.dIf, Zz.dTup, Zz.dLst, Zz.dNil, Zz.dCons, Zz.frzs, Zz.dCall, Zz.oLe, Zz.oLt, Zz.oGt, Zz.oGe, Zz.oCmp, word_f, wordD, eqS, lits, typeD, oLen, eqI, smallD]
        · by_cases h2 : w = "map"
          · subst h2; simp [Zz.iteA, Zz.sSeq, Zz.sIf, Zz.sRet, Zz.sNil, Zz.sSet, Zz.sExpr, Zz.sRetN, Zz.sAsg, Zz.toTup, Zz.toCons, Zz.toNil, Zz.toName, Zz.tOrD, Zz.tAndD, Zz.tNotD, Zz.toB, Zz.toBr, Zz.toT, Zz.truD, Zz.dFn1, Zz.on1, Zz.dVar, Zz.dBin, Zz.on2, Zz.dChain, Zz.dNot, Zz.dAnd, Zz.dOr, Zz.dIf, Zz.dTup, Zz.dLst, Zz.dNil, Zz.dCons, Zz.frzs, Zz.dCall, Zz.oLe, Zz.oLt, Zz.oGt, Zz.oGe, Zz.oCmp, word_f, wordD, eqS, lits, typeD, oLen, eqI, smallD]
          · simp [Zz.iteA, Zz.sSeq, Zz.sIf, Zz.sRet, Zz.sNil, Zz.sSet, Zz.sExpr, Zz.sRetN, Zz.sAsg, Zz.toTup, Zz.toCons, Zz.toNil, Zz.toName, Zz.tOrD, Zz.tAndD, Zz.tNotD, Zz.toB, Zz.toBr, Zz.toT, Zz.truD, Zz.dFn1, Zz.on1, Zz.dVar, Zz.dBin, Zz.on2, Zz.dChain, Zz.dNot, Zz.dAnd, Zz.dOr, Zz.dIf, Zz.dTup, Zz.dLst, Zz.dNil, Zz.dCons, Zz.frzs, Zz.dCall, Zz.oLe, Zz.oLt, Zz.oGt, Zz.oGe, Zz.oCmp, word_f, wordD, eqS, typeD, small_f L hl, h1, h2]
      | _ => simp [Zz.iteA, Zz.sSeq, Zz.sIf, Zz.sRet, Zz.sNil, Zz.sSet, Zz.sExpr, Zz.sRetN, Zz.sAsg, Zz.toTup, Zz.toCons, Zz.toNil, Zz.toName, Zz.tOrD, Zz.tAndD, Zz.tNotD, Zz.toB, Zz.toBr, Zz.toT, Zz.truD, Zz.dFn1, Zz.on1, Zz.dVar, Zz.dBin, Zz.on2, Zz.dChain, Zz.dNot, Zz.dAnd, Zz.dOr, Zz.dIf, Zz.dTup, Zz.dLst, Zz.dNil, Zz.dCons, Zz.frzs, Zz.dCall, Zz.oLe, Zz.oLt, Zz.oGt, Zz.oGe, Zz.oCmp, word_f, wordD, eqS, lits, typeD, small_f L hl]
    | [x, y] =>
      cases x with
      | str w =>
        by_cases h1 : w = "some"
        · subst h1; simp [Zz.iteA, Zz.sSeq, Zz.sIf, Zz.sRet, Zz.sNil, Zz.sSet, Zz.sExpr, Zz.sRetN, Zz.sAsg, Zz.toTup, Zz.toCons, Zz.toNil, Zz.toName, Zz.tOrD, Zz.tAndD, Zz.tNotD, Zz.toB, Zz.toBr, Zz.toT, Zz.truD, Zz.dFn1, Zz.on1, Zz.dVar, Zz.dBin, Zz.on2, Zz.dChain, Zz.dNot, Zz.dAnd, Zz.dOr, Zz.dIf, Zz.dTup, Zz.dLst, Zz.dNil, Zz.dCons, Zz.frzs, Zz.dCall, Zz.oLe, Zz.oLt, Zz.oGt, Zz.oGe, Zz.oCmp, word_f, wordD, eqS, lits, typeD, oLen, eqI, oIx, atI1, has_f L hl]
        · by_cases h2 : w = "map"
          · subst h2; simp [Zz.iteA, Zz.sSeq, Zz.sIf, Zz.sRet, Zz.sNil, Zz.sSet, Zz.sExpr, Zz.sRetN, Zz.sAsg, Zz.toTup, Zz.toCons, Zz.toNil, Zz.toName, Zz.tOrD, Zz.tAndD, Zz.tNotD, Zz.toB, Zz.toBr, Zz.toT, Zz.truD, Zz.dFn1, Zz.on1, Zz.dVar, Zz.dBin, Zz.on2, Zz.dChain, Zz.dNot, Zz.dAnd, Zz.dOr, Zz.dIf, Zz.dTup, Zz.dLst, Zz.dNil, Zz.dCons, Zz.frzs, Zz.dCall, Zz.oLe, Zz.oLt, Zz.oGt, Zz.oGe, Zz.oCmp, word_f, wordD, eqS, lits, typeD, oLen, eqI, smallD]
          · simp [Zz.iteA, Zz.sSeq, Zz.sIf, Zz.sRet, Zz.sNil, Zz.sSet, Zz.sExpr, Zz.sRetN, Zz.sAsg, Zz.toTup, Zz.toCons, Zz.toNil, Zz.toName, Zz.tOrD, Zz.tAndD, Zz.tNotD, Zz.toB, Zz.toBr, Zz.toT, Zz.truD, Zz.dFn1, Zz.on1, Zz.dVar, Zz.dBin, Zz.on2, Zz.dChain, Zz.dNot, Zz.dAnd, Zz.dOr, Zz.dIf, Zz.dTup, Zz.dLst, Zz.dNil, Zz.dCons, Zz.frzs, Zz.dCall, Zz.oLe, Zz.oLt, Zz.oGt, Zz.oGe, Zz.oCmp, word_f, wordD, eqS, typeD, small_f L hl, h1, h2]
      | _ => simp [Zz.iteA, Zz.sSeq, Zz.sIf, Zz.sRet, Zz.sNil, Zz.sSet, Zz.sExpr, Zz.sRetN, Zz.sAsg, Zz.toTup, Zz.toCons, Zz.toNil, Zz.toName, Zz.tOrD, Zz.tAndD, Zz.tNotD, Zz.toB, Zz.toBr, Zz.toT, Zz.truD, Zz.dFn1, Zz.on1, Zz.dVar, Zz.dBin, Zz.on2, Zz.dChain, Zz.dNot, Zz.dAnd, Zz.dOr, Zz.dIf, Zz.dTup, Zz.dLst, Zz.dNil, Zz.dCons, Zz.frzs, Zz.dCall, Zz.oLe, Zz.oLt, Zz.oGt, Zz.oGe, Zz.oCmp, word_f, wordD, eqS, lits, typeD, small_f L hl]
    | [x, y, z] =>
      cases x with
      | str w =>
        by_cases h1 : w = "some"
        · subst h1; simp [Zz.iteA, Zz.sSeq, Zz.sIf, Zz.sRet, Zz.sNil, Zz.sSet, Zz.sExpr, Zz.sRetN, Zz.sAsg, Zz.toTup, Zz.toCons, Zz.toNil, Zz.toName, Zz.tOrD, Zz.tAndD, Zz.tNotD, Zz.toB, Zz.toBr, Zz.toT, Zz.truD, Zz.dFn1, Zz.on1, Zz.dVar, Zz.dBin, Zz.on2, Zz.dChain, Zz.dNot, Zz.dAnd, Zz.dOr, Zz.dIf, Zz.dTup, Zz.dLst, Zz.dNil, Zz.dCons, Zz.frzs, Zz.dCall, Zz.oLe, Zz.oLt, Zz.oGt, Zz.oGe, Zz.oCmp, word_f, wordD, eqS, lits, typeD, oLen, eqI]
        · by_cases h2 : w = "map"
          · subst h2
            cases h3 : hasD L y
            · simp [Zz.iteA, Zz.sSeq, Zz.sIf, Zz.sRet, Zz.sNil, Zz.sSet, Zz.sExpr, Zz.sRetN, Zz.sAsg, Zz.toTup, Zz.toCons, Zz.toNil, Zz.toName, Zz.tOrD, Zz.tAndD, Zz.tNotD, Zz.toB, Zz.toBr, Zz.toT, Zz.truD, Zz.dFn1, Zz.on1, Zz.dVar, Zz.dBin, Zz.on2, Zz.dChain, Zz.dNot, Zz.dAnd, Zz.dOr, Zz.dIf, Zz.dTup, Zz.dLst, Zz.dNil, Zz.dCons, Zz.frzs, Zz.dCall, Zz.oLe, Zz.oLt, Zz.oGt, Zz.oGe, Zz.oCmp, word_f, wordD, eqS, lits, typeD, oLen, eqI, oIx, atI1, atI2, has_f L hl, small_f L hl, h3]
            · simp [Zz.iteA, Zz.sSeq, Zz.sIf, Zz.sRet, Zz.sNil, Zz.sSet, Zz.sExpr, Zz.sRetN, Zz.sAsg, Zz.toTup, Zz.toCons, Zz.toNil, Zz.toName, Zz.tOrD, Zz.tAndD, Zz.tNotD, Zz.toB, Zz.toBr, Zz.toT, Zz.truD, Zz.dFn1, Zz.on1, Zz.dVar, Zz.dBin, Zz.on2, Zz.dChain, Zz.dNot, Zz.dAnd, Zz.dOr, Zz.dIf, Zz.dTup, Zz.dLst, Zz.dNil, Zz.dCons, Zz.frzs, Zz.dCall, Zz.oLe, Zz.oLt, Zz.oGt, Zz.oGe, Zz.oCmp, word_f, wordD, eqS, lits, typeD, oLen, eqI, oIx, atI1, atI2, has_f L hl, small_f L hl, h3]
          · simp [Zz.iteA, Zz.sSeq, Zz.sIf, Zz.sRet, Zz.sNil, Zz.sSet, Zz.sExpr, Zz.sRetN, Zz.sAsg, Zz.toTup, Zz.toCons, Zz.toNil, Zz.toName, Zz.tOrD, Zz.tAndD, Zz.tNotD, Zz.toB, Zz.toBr, Zz.toT, Zz.truD, Zz.dFn1, Zz.on1, Zz.dVar, Zz.dBin, Zz.on2, Zz.dChain, Zz.dNot, Zz.dAnd, Zz.dOr, Zz.dIf, Zz.dTup, Zz.dLst, Zz.dNil, Zz.dCons, Zz.frzs, Zz.dCall, Zz.oLe, Zz.oLt, Zz.oGt, Zz.oGe, Zz.oCmp, word_f, wordD, eqS, typeD, small_f L hl, h1, h2, smallD]
      | _ => simp [Zz.iteA, Zz.sSeq, Zz.sIf, Zz.sRet, Zz.sNil, Zz.sSet, Zz.sExpr, Zz.sRetN, Zz.sAsg, Zz.toTup, Zz.toCons, Zz.toNil, Zz.toName, Zz.tOrD, Zz.tAndD, Zz.tNotD, Zz.toB, Zz.toBr, Zz.toT, Zz.truD, Zz.dFn1, Zz.on1, Zz.dVar, Zz.dBin, Zz.on2, Zz.dChain, Zz.dNot, Zz.dAnd, Zz.dOr, Zz.dIf, Zz.dTup, Zz.dLst, Zz.dNil, Zz.dCons, Zz.frzs, Zz.dCall, Zz.oLe, Zz.oLt, Zz.oGt, Zz.oGe, Zz.oCmp, word_f, wordD, eqS, lits, typeD, small_f L hl, smallD]
    | x :: y :: z :: u :: r =>
      have n2 : ¬ ((r.length : Int) + 1 + 1 + 1 + 1 = 2) := by omega
      have n3 : ¬ ((r.length : Int) + 1 + 1 + 1 + 1 = 3) := by omega
      cases x with
      | str w =>
        by_cases h1 : w = "some"
        · subst h1; simp [Zz.iteA, Zz.sSeq, Zz.sIf, Zz.sRet, Zz.sNil, Zz.sSet, Zz.sExpr, Zz.sRetN, Zz.sAsg, Zz.toTup, Zz.toCons, Zz.toNil, Zz.toName, Zz.tOrD, Zz.tAndD, Zz.tNotD, Zz.toB, Zz.toBr, Zz.toT, Zz.truD, Zz.dFn1, Zz.on1, Zz.dVar, Zz.dBin, Zz.on2, Zz.dChain, Zz.dNot, Zz.dAnd, Zz.dOr, Zz.dIf, Zz.dTup, Zz.dLst, Zz.dNil, Zz.dCons, Zz.frzs, Zz.dCall, Zz.oLe, Zz.oLt, Zz.oGt, Zz.oGe, Zz.oCmp, word_f, wordD, eqS, lits, typeD, oLen, eqI, n2, smallD]
        · by_cases h2 : w = "map"
          · subst h2; simp [Zz.iteA, Zz.sSeq, Zz.sIf, Zz.sRet, Zz.sNil, Zz.sSet, Zz.sExpr, Zz.sRetN, Zz.sAsg, Zz.toTup, Zz.toCons, Zz.toNil, Zz.toName, Zz.tOrD, Zz.tAndD, Zz.tNotD, Zz.toB, Zz.toBr, Zz.toT, Zz.truD, Zz.dFn1, Zz.on1, Zz.dVar, Zz.dBin, Zz.on2, Zz.dChain, Zz.dNot, Zz.dAnd, Zz.dOr, Zz.dIf, Zz.dTup, Zz.dLst, Zz.dNil, Zz.dCons, Zz.frzs, Zz.dCall, Zz.oLe, Zz.oLt, Zz.oGt, Zz.oGe, Zz.oCmp, word_f, wordD, eqS, lits, typeD, oLen, eqI, n3, smallD]
          · simp [Zz.iteA, Zz.sSeq, Zz.sIf, Zz.sRet, Zz.sNil, Zz.sSet, Zz.sExpr, Zz.sRetN, Zz.sAsg, Zz.toTup, Zz.toCons, Zz.toNil, Zz.toName, Zz.tOrD, Zz.tAndD, Zz.tNotD, Zz.toB, Zz.toBr, Zz.toT, Zz.truD, Zz.dFn1, Zz.on1, Zz.dVar, Zz.dBin, Zz.on2, Zz.dChain, Zz.dNot, Zz.dAnd, Zz.dOr, Zz.dIf, Zz.dTup, Zz.dLst, Zz.dNil, Zz.dCons, Zz.frzs, Zz.dCall, Zz.oLe, Zz.oLt, Zz.oGt, Zz.oGe, Zz.oCmp, word_f, wordD, eqS, typeD, small_f L hl, h1, h2, smallD]
      | _ => simp [Zz.iteA, Zz.sSeq, Zz.sIf, Zz.sRet, Zz.sNil, Zz.sSet, Zz.sExpr, Zz.sRetN, Zz.sAsg, Zz.toTup, Zz.toCons, Zz.toNil, Zz.toName, Zz.tOrD, Zz.tAndD, Zz.tNotD, Zz.toB, Zz.toBr, Zz.toT, Zz.truD, Zz.dFn1, Zz.on1, Zz.dVar, Zz.dBin, Zz.on2, Zz.dChain, Zz.dNot, Zz.dAnd, Zz.dOr, Zz.dIf, Zz.dTup, Zz.dLst, Zz.dNil, Zz.dCons, Zz.frzs, Zz.dCall, Zz.oLe, Zz.oLt, Zz.oGt, Zz.oGe, Zz.oCmp, word_f, wordD, eqS, lits, typeD, small_f L hl, smallD]
  | _ => simp [Zz.iteA, Zz.sSeq, Zz.sIf, Zz.sRet, Zz.sNil, Zz.sSet, Zz.sExpr, Zz.sRetN, Zz.sAsg, Zz.toTup, Zz.toCons, Zz.toNil, Zz.toName, Zz.tOrD, Zz.tAndD, Zz.tNotD, Zz.toB, Zz.toBr, Zz.toT, Zz.truD, Zz.dFn1, Zz.on1, Zz.dVar, Zz.dBin, Zz.on2, Zz.dChain, Zz.dNot, Zz.dAnd, Zz.dOr, Zz.dIf, Zz.dTup, Zz.dLst, Zz.dNil, Zz.dCons, Zz.frzs, Zz.dCall, Zz.oLe, Zz.oLt, Zz.oGt, Zz.oGe, Zz.oCmp, word_f, wordD, eqS, lits, typeD, small_f L hl]
/-! ### the dict of the sets -/
def kdsD (L : Sets) : List (D × D) := L.map fun p => (.str p.1, .tuple (p.2.map .str))
def look (L : Sets) (s : Str) : Option (List Str) := (L.find? fun p => decide (p.1 = s)).map (·.2)
theorem pairs_sets : ∀ L : Sets, (L.map rowD).mapM pairD = some (L.map fun p => (Sum.inr p.1, .tuple (p.2.map .str)))
  | [] => rfl
  | p :: L => by
    rw [List.map_cons, List.mapM_cons, pairs_sets L]
    rfl
theorem merge_new : ∀ (L : Sets) (acc : List (D × D)), (names L).Nodup → (∀ p ∈ L, ∀ q ∈ acc, toKey q.1 ≠ some (Sum.inr p.1)) →
    mergeD acc (L.map fun p => (Sum.inr p.1, .tuple (p.2.map .str))) = acc ++ kdsD L
  | [], acc, _, _ => by simp [mergeD, kdsD]
  | p :: L, acc, h, ha => by
    have h1 := List.nodup_cons.mp h
    have hn : (acc.any fun q => decide (toKey q.1 = some (Sum.inr p.1))) = false := by
      rw [List.any_eq_false]
      intro q hq z
      exact ha p List.mem_cons_self q hq (of_decide_eq_true z)
    have e : mergeD acc ((p :: L).map fun p => (Sum.inr p.1, .tuple (p.2.map .str))) = mergeD (putD acc (Sum.inr p.1) (.tuple (p.2.map .str))) (L.map fun p => (Sum.inr p.1, .tuple (p.2.map .str))) := rfl
    have e2 : putD acc (Sum.inr p.1) (.tuple (p.2.map .str)) = acc ++ [(.str p.1, .tuple (p.2.map .str))] := by
      unfold putD
      rw [hn]
      rfl
    rw [e, e2, merge_new L _ h1.2 fun q hq r hr => ?_]
    · simp [kdsD]
    · rcases List.mem_append.mp hr with hr | hr
      · exact ha q (List.mem_cons_of_mem _ hq) r hr
      · have : r = (.str p.1, .tuple (p.2.map .str)) := by simpa using hr
        subst this
        intro z
        have z2 : p.1 = q.1 := by
          have := Option.some.inj z
          exact Sum.inr.inj this
        exact h1.1 (by
          show p.1 ∈ List.map (fun x => x.1) L
          rw [z2]
          exact List.mem_map.mpr ⟨q, hq, rfl⟩)
theorem dict_f (L : Sets) (h : (names L).Nodup) : oDictOf (setsD L) = some (.dict (kdsD L)) := by
  show ((L.map rowD).mapM pairD).map (fun kds => PyData.dict (mergeD [] kds)) = _
  rw [pairs_sets]
  show some (PyData.dict (mergeD [] _)) = _
  rw [merge_new L [] h fun p _ q hq => nomatch hq]
  rfl
theorem get_sets (s : Str) : ∀ L : Sets, getD' (kdsD L) (Sum.inr s) = (look L s).map fun ms => .tuple (ms.map .str)
  | [] => rfl
  | p :: L => by
    have ih := get_sets s L
    unfold getD' kdsD look at *
    rw [List.map_cons, List.find?_cons, List.find?_cons]
    by_cases h : p.1 = s
    · simp [toKey, h]
    · simp [toKey, h]
      simpa [toKey] using ih
theorem look_some (s : Str) : ∀ L : Sets, (look L s).isSome = decide (s ∈ names L)
  | [] => rfl
  | p :: L => by
    have ih := look_some s L
    unfold look names at *
    rw [List.find?_cons, List.map_cons]
    by_cases h : p.1 = s
    · simp [h]
    · have h2 : (s == p.1) = false := beq_eq_false_iff_ne.mpr fun z => h z.symm
      simp [h, h2]
      simpa using ih
theorem inK (L : Sets) (s : Str) : oIn (.str s) (.dict (kdsD L)) = some (.bool (decide (s ∈ names L))) := by
  unfold oIn inD
  show some (PyData.bool (getD' (kdsD L) (Sum.inr s)).isSome) = _
  rw [get_sets, Option.isSome_map, look_some]
theorem notInK (L : Sets) (s : Str) : oNotIn (.str s) (.dict (kdsD L)) = some (.bool (!decide (s ∈ names L))) := by
  unfold oNotIn inD
  show some (PyData.bool (!(getD' (kdsD L) (Sum.inr s)).isSome)) = _
  rw [get_sets, Option.isSome_map, look_some]
theorem ixK (L : Sets) (s : Str) : oIx (.dict (kdsD L)) (.str s) = (look L s).map fun ms => .tuple (ms.map .str) := by
  show (some (Sum.inr s)).bind (getD' (kdsD L)) = _
  exact get_sets s L
theorem eq_nil (ds : List D) (h : SeqAt.shaped (.tuple ds) = true) : oEq (.tuple ds) (.tuple []) = some (.bool ds.isEmpty) := by
  have h2 : SeqAt.shaped (.tuple []) = true := by decide +kernel
  unfold oEq eqD
  simp [flatD, h, h2]
  cases ds <;> rfl
theorem law_small_f (L : Sets) (h : (names L).Nodup) (t : D) (hs : SeqAt.shaped t = true) (S : List Cell) : fn_u_law_is_small [.d (setsD L), .d t] S = .ok (.d (.bool (smallD L t))) S := by
  refine body_ok ?_
  show body_u_law_is_small [some (.d (setsD L)), some (.d t)] S = _
  unfold body_u_law_is_small
  cases t with
  | tuple ds =>
    have en := eq_nil ds hs
    match ds, en with
    | [], en => simp [Zz.iteA, Zz.sSeq, Zz.sIf, Zz.sRet, Zz.sNil, Zz.sSet, Zz.sExpr, Zz.sRetN, Zz.sAsg, Zz.toTup, Zz.toCons, Zz.toNil, Zz.toName, Zz.tOrD, Zz.tAndD, Zz.tNotD, Zz.toB, Zz.toBr, Zz.toT, Zz.truD, Zz.dFn1, Zz.on1, Zz.dVar, Zz.dBin, Zz.on2, Zz.dChain, Zz.dNot, Zz.dAnd, Zz.dOr, Zz.dIf, Zz.dTup, Zz.dLst, Zz.dNil, Zz.dCons, Zz.frzs, Zz.dCall, Zz.oLe, Zz.oLt, Zz.oGt, Zz.oGe, Zz.oCmp, oIsB, isB, en, smallD]
    | [x], en =>
      cases x with
      | str w =>
        by_cases h3 : w = "truth"
        · subst h3; simp [Zz.iteA, Zz.sSeq, Zz.sIf, Zz.sRet, Zz.sNil, Zz.sSet, Zz.sExpr, Zz.sRetN, Zz.sAsg, Zz.toTup, Zz.toCons, Zz.toNil, Zz.toName, Zz.tOrD, Zz.tAndD, Zz.tNotD, Zz.toB, Zz.toBr, Zz.toT, Zz.truD, Zz.dFn1, Zz.on1, Zz.dVar, Zz.dBin, Zz.on2, Zz.dChain, Zz.dNot, Zz.dAnd, Zz.dOr, Zz.dIf, Zz.dTup, Zz.dLst, Zz.dNil, Zz.dCons, Zz.frzs, Zz.dCall, Zz.oLe, Zz.oLt, Zz.oGt, Zz.oGe, Zz.oCmp, oIsB, isB, en, oIx, atI0, eqS, lits, smallD, oLen, eqI]
        · by_cases h1 : w = "num"
          · subst h1; simp [Zz.iteA, Zz.sSeq, Zz.sIf, Zz.sRet, Zz.sNil, Zz.sSet, Zz.sExpr, Zz.sRetN, Zz.sAsg, Zz.toTup, Zz.toCons, Zz.toNil, Zz.toName, Zz.tOrD, Zz.tAndD, Zz.tNotD, Zz.toB, Zz.toBr, Zz.toT, Zz.truD, Zz.dFn1, Zz.on1, Zz.dVar, Zz.dBin, Zz.on2, Zz.dChain, Zz.dNot, Zz.dAnd, Zz.dOr, Zz.dIf, Zz.dTup, Zz.dLst, Zz.dNil, Zz.dCons, Zz.frzs, Zz.dCall, Zz.oLe, Zz.oLt, Zz.oGt, Zz.oGe, Zz.oCmp, oIsB, isB, en, oIx, atI0, eqS, lits, smallD, oLen, eqI]
          · by_cases h2 : w = "one"
            · subst h2; simp [Zz.iteA, Zz.sSeq, Zz.sIf, Zz.sRet, Zz.sNil, Zz.sSet, Zz.sExpr, Zz.sRetN, Zz.sAsg, Zz.toTup, Zz.toCons, Zz.toNil, Zz.toName, Zz.tOrD, Zz.tAndD, Zz.tNotD, Zz.toB, Zz.toBr, Zz.toT, Zz.truD, Zz.dFn1, Zz.on1, Zz.dVar, Zz.dBin, Zz.on2, Zz.dChain, Zz.dNot, Zz.dAnd, Zz.dOr, Zz.dIf, Zz.dTup, Zz.dLst, Zz.dNil, Zz.dCons, Zz.frzs, Zz.dCall, Zz.oLe, Zz.oLt, Zz.oGt, Zz.oGe, Zz.oCmp, oIsB, isB, en, oIx, atI0, eqS, lits, smallD, oLen, eqI]
            · simp [Zz.iteA, Zz.sSeq, Zz.sIf, Zz.sRet, Zz.sNil, Zz.sSet, Zz.sExpr, Zz.sRetN, Zz.sAsg, Zz.toTup, Zz.toCons, Zz.toNil, Zz.toName, Zz.tOrD, Zz.tAndD, Zz.tNotD, Zz.toB, Zz.toBr, Zz.toT, Zz.truD, Zz.dFn1, Zz.on1, Zz.dVar, Zz.dBin, Zz.on2, Zz.dChain, Zz.dNot, Zz.dAnd, Zz.dOr, Zz.dIf, Zz.dTup, Zz.dLst, Zz.dNil, Zz.dCons, Zz.frzs, Zz.dCall, Zz.oLe, Zz.oLt, Zz.oGt, Zz.oGe, Zz.oCmp, oIsB, isB, en, oIx, atI0, eqS, smallD, oLen, eqI, h1, h2, h3]
      | _ => simp [Zz.iteA, Zz.sSeq, Zz.sIf, Zz.sRet, Zz.sNil, Zz.sSet, Zz.sExpr, Zz.sRetN, Zz.sAsg, Zz.toTup, Zz.toCons, Zz.toNil, Zz.toName, Zz.tOrD, Zz.tAndD, Zz.tNotD, Zz.toB, Zz.toBr, Zz.toT, Zz.truD, Zz.dFn1, Zz.on1, Zz.dVar, Zz.dBin, Zz.on2, Zz.dChain, Zz.dNot, Zz.dAnd, Zz.dOr, Zz.dIf, Zz.dTup, Zz.dLst, Zz.dNil, Zz.dCons, Zz.frzs, Zz.dCall, Zz.oLe, Zz.oLt, Zz.oGt, Zz.oGe, Zz.oCmp, oIsB, isB, en, oIx, atI0, smallD]
    | [x, y], en =>
      cases x with
      | str w =>
        by_cases h3 : w = "truth"
        · subst h3; simp [Zz.iteA, Zz.sSeq, Zz.sIf, Zz.sRet, Zz.sNil, Zz.sSet, Zz.sExpr, Zz.sRetN, Zz.sAsg, Zz.toTup, Zz.toCons, Zz.toNil, Zz.toName, Zz.tOrD, Zz.tAndD, Zz.tNotD, Zz.toB, Zz.toBr, Zz.toT, Zz.truD, Zz.dFn1, Zz.on1, Zz.dVar, Zz.dBin, Zz.on2, Zz.dChain, Zz.dNot, Zz.dAnd, Zz.dOr, Zz.dIf, Zz.dTup, Zz.dLst, Zz.dNil, Zz.dCons, Zz.frzs, Zz.dCall, Zz.oLe, Zz.oLt, Zz.oGt, Zz.oGe, Zz.oCmp, oIsB, isB, en, oIx, atI0, eqS, lits, smallD, oLen, eqI]
        · by_cases h1 : w = "num"
          · subst h1
            cases y with
            | int i =>
              by_cases i1 : 1 ≤ i
              · simp [Zz.iteA, Zz.sSeq, Zz.sIf, Zz.sRet, Zz.sNil, Zz.sSet, Zz.sExpr, Zz.sRetN, Zz.sAsg, Zz.toTup, Zz.toCons, Zz.toNil, Zz.toName, Zz.tOrD, Zz.tAndD, Zz.tNotD, Zz.toB, Zz.toBr, Zz.toT, Zz.truD, Zz.dFn1, Zz.on1, Zz.dVar, Zz.dBin, Zz.on2, Zz.dChain, Zz.dNot, Zz.dAnd, Zz.dOr, Zz.dIf, Zz.dTup, Zz.dLst, Zz.dNil, Zz.dCons, Zz.frzs, Zz.dCall, Zz.oLe, Zz.oLt, Zz.oGt, Zz.oGe, Zz.oCmp, oIsB, isB, en, oIx, atI0, atI1, eqS, lits, smallD, oLen, eqI, i1]
              · simp [Zz.iteA, Zz.sSeq, Zz.sIf, Zz.sRet, Zz.sNil, Zz.sSet, Zz.sExpr, Zz.sRetN, Zz.sAsg, Zz.toTup, Zz.toCons, Zz.toNil, Zz.toName, Zz.tOrD, Zz.tAndD, Zz.tNotD, Zz.toB, Zz.toBr, Zz.toT, Zz.truD, Zz.dFn1, Zz.on1, Zz.dVar, Zz.dBin, Zz.on2, Zz.dChain, Zz.dNot, Zz.dAnd, Zz.dOr, Zz.dIf, Zz.dTup, Zz.dLst, Zz.dNil, Zz.dCons, Zz.frzs, Zz.dCall, Zz.oLe, Zz.oLt, Zz.oGt, Zz.oGe, Zz.oCmp, oIsB, isB, en, oIx, atI0, atI1, eqS, lits, smallD, oLen, eqI, i1]
            | _ => simp [Zz.iteA, Zz.sSeq, Zz.sIf, Zz.sRet, Zz.sNil, Zz.sSet, Zz.sExpr, Zz.sRetN, Zz.sAsg, Zz.toTup, Zz.toCons, Zz.toNil, Zz.toName, Zz.tOrD, Zz.tAndD, Zz.tNotD, Zz.toB, Zz.toBr, Zz.toT, Zz.truD, Zz.dFn1, Zz.on1, Zz.dVar, Zz.dBin, Zz.on2, Zz.dChain, Zz.dNot, Zz.dAnd, Zz.dOr, Zz.dIf, Zz.dTup, Zz.dLst, Zz.dNil, Zz.dCons, Zz.frzs, Zz.dCall, Zz.oLe, Zz.oLt, Zz.oGt, Zz.oGe, Zz.oCmp, oIsB, isB, en, oIx, atI0, atI1, eqS, lits, smallD, oLen, eqI]
          · by_cases h2 : w = "one"
            · subst h2
              cases y <;> simp [Zz.iteA, Zz.sSeq, Zz.sIf, Zz.sRet, Zz.sNil, Zz.sSet, Zz.sExpr, Zz.sRetN, Zz.sAsg, Zz.toTup, Zz.toCons, Zz.toNil, Zz.toName, Zz.tOrD, Zz.tAndD, Zz.tNotD, Zz.toB, Zz.toBr, Zz.toT, Zz.truD, Zz.dFn1, Zz.on1, Zz.dVar, Zz.dBin, Zz.on2, Zz.dChain, Zz.dNot, Zz.dAnd, Zz.dOr, Zz.dIf, Zz.dTup, Zz.dLst, Zz.dNil, Zz.dCons, Zz.frzs, Zz.dCall, Zz.oLe, Zz.oLt, Zz.oGt, Zz.oGe, Zz.oCmp, oIsB, isB, en, oIx, atI0, atI1, eqS, lits, smallD, oLen, eqI, dict_f L h, inK, hasD]
            · simp [Zz.iteA, Zz.sSeq, Zz.sIf, Zz.sRet, Zz.sNil, Zz.sSet, Zz.sExpr, Zz.sRetN, Zz.sAsg, Zz.toTup, Zz.toCons, Zz.toNil, Zz.toName, Zz.tOrD, Zz.tAndD, Zz.tNotD, Zz.toB, Zz.toBr, Zz.toT, Zz.truD, Zz.dFn1, Zz.on1, Zz.dVar, Zz.dBin, Zz.on2, Zz.dChain, Zz.dNot, Zz.dAnd, Zz.dOr, Zz.dIf, Zz.dTup, Zz.dLst, Zz.dNil, Zz.dCons, Zz.frzs, Zz.dCall, Zz.oLe, Zz.oLt, Zz.oGt, Zz.oGe, Zz.oCmp, oIsB, isB, en, oIx, atI0, eqS, smallD, oLen, eqI, h1, h2, h3]
      | _ => simp [Zz.iteA, Zz.sSeq, Zz.sIf, Zz.sRet, Zz.sNil, Zz.sSet, Zz.sExpr, Zz.sRetN, Zz.sAsg, Zz.toTup, Zz.toCons, Zz.toNil, Zz.toName, Zz.tOrD, Zz.tAndD, Zz.tNotD, Zz.toB, Zz.toBr, Zz.toT, Zz.truD, Zz.dFn1, Zz.on1, Zz.dVar, Zz.dBin, Zz.on2, Zz.dChain, Zz.dNot, Zz.dAnd, Zz.dOr, Zz.dIf, Zz.dTup, Zz.dLst, Zz.dNil, Zz.dCons, Zz.frzs, Zz.dCall, Zz.oLe, Zz.oLt, Zz.oGt, Zz.oGe, Zz.oCmp, oIsB, isB, en, oIx, atI0, smallD]
    | x :: y :: z :: r, en =>
      have n2 : ¬ ((r.length : Int) + 1 + 1 + 1 = 2) := by omega
      have n1 : ¬ ((r.length : Int) + 1 + 1 + 1 = 1) := by omega
      cases x with
      | str w =>
        by_cases h3 : w = "truth"
        · subst h3; simp [Zz.iteA, Zz.sSeq, Zz.sIf, Zz.sRet, Zz.sNil, Zz.sSet, Zz.sExpr, Zz.sRetN, Zz.sAsg, Zz.toTup, Zz.toCons, Zz.toNil, Zz.toName, Zz.tOrD, Zz.tAndD, Zz.tNotD, Zz.toB, Zz.toBr, Zz.toT, Zz.truD, Zz.dFn1, Zz.on1, Zz.dVar, Zz.dBin, Zz.on2, Zz.dChain, Zz.dNot, Zz.dAnd, Zz.dOr, Zz.dIf, Zz.dTup, Zz.dLst, Zz.dNil, Zz.dCons, Zz.frzs, Zz.dCall, Zz.oLe, Zz.oLt, Zz.oGt, Zz.oGe, Zz.oCmp, oIsB, isB, en, oIx, atI0, eqS, lits, smallD, oLen, eqI, n1]
        · by_cases h1 : w = "num"
          · subst h1; simp [Zz.iteA, Zz.sSeq, Zz.sIf, Zz.sRet, Zz.sNil, Zz.sSet, Zz.sExpr, Zz.sRetN, Zz.sAsg, Zz.toTup, Zz.toCons, Zz.toNil, Zz.toName, Zz.tOrD, Zz.tAndD, Zz.tNotD, Zz.toB, Zz.toBr, Zz.toT, Zz.truD, Zz.dFn1, Zz.on1, Zz.dVar, Zz.dBin, Zz.on2, Zz.dChain, Zz.dNot, Zz.dAnd, Zz.dOr, Zz.dIf, Zz.dTup, Zz.dLst, Zz.dNil, Zz.dCons, Zz.frzs, Zz.dCall, Zz.oLe, Zz.oLt, Zz.oGt, Zz.oGe, Zz.oCmp, oIsB, isB, en, oIx, atI0, eqS, lits, smallD, oLen, eqI, n2]
          · by_cases h2 : w = "one"
            · subst h2; simp [Zz.iteA, Zz.sSeq, Zz.sIf, Zz.sRet, Zz.sNil, Zz.sSet, Zz.sExpr, Zz.sRetN, Zz.sAsg, Zz.toTup, Zz.toCons, Zz.toNil, Zz.toName, Zz.tOrD, Zz.tAndD, Zz.tNotD, Zz.toB, Zz.toBr, Zz.toT, Zz.truD, Zz.dFn1, Zz.on1, Zz.dVar, Zz.dBin, Zz.on2, Zz.dChain, Zz.dNot, Zz.dAnd, Zz.dOr, Zz.dIf, Zz.dTup, Zz.dLst, Zz.dNil, Zz.dCons, Zz.frzs, Zz.dCall, Zz.oLe, Zz.oLt, Zz.oGt, Zz.oGe, Zz.oCmp, oIsB, isB, en, oIx, atI0, eqS, lits, smallD, oLen, eqI, n2]
            · simp [Zz.iteA, Zz.sSeq, Zz.sIf, Zz.sRet, Zz.sNil, Zz.sSet, Zz.sExpr, Zz.sRetN, Zz.sAsg, Zz.toTup, Zz.toCons, Zz.toNil, Zz.toName, Zz.tOrD, Zz.tAndD, Zz.tNotD, Zz.toB, Zz.toBr, Zz.toT, Zz.truD, Zz.dFn1, Zz.on1, Zz.dVar, Zz.dBin, Zz.on2, Zz.dChain, Zz.dNot, Zz.dAnd, Zz.dOr, Zz.dIf, Zz.dTup, Zz.dLst, Zz.dNil, Zz.dCons, Zz.frzs, Zz.dCall, Zz.oLe, Zz.oLt, Zz.oGt, Zz.oGe, Zz.oCmp, oIsB, isB, en, oIx, atI0, eqS, smallD, oLen, eqI, h1, h2, h3]
      | _ => simp [Zz.iteA, Zz.sSeq, Zz.sIf, Zz.sRet, Zz.sNil, Zz.sSet, Zz.sExpr, Zz.sRetN, Zz.sAsg, Zz.toTup, Zz.toCons, Zz.toNil, Zz.toName, Zz.tOrD, Zz.tAndD, Zz.tNotD, Zz.toB, Zz.toBr, Zz.toT, Zz.truD, Zz.dFn1, Zz.on1, Zz.dVar, Zz.dBin, Zz.on2, Zz.dChain, Zz.dNot, Zz.dAnd, Zz.dOr, Zz.dIf, Zz.dTup, Zz.dLst, Zz.dNil, Zz.dCons, Zz.frzs, Zz.dCall, Zz.oLe, Zz.oLt, Zz.oGt, Zz.oGe, Zz.oCmp, oIsB, isB, en, oIx, atI0, smallD]
  | _ => simp [Zz.iteA, Zz.sSeq, Zz.sIf, Zz.sRet, Zz.sNil, Zz.sSet, Zz.sExpr, Zz.sRetN, Zz.sAsg, Zz.toTup, Zz.toCons, Zz.toNil, Zz.toName, Zz.tOrD, Zz.tAndD, Zz.tNotD, Zz.toB, Zz.toBr, Zz.toT, Zz.truD, Zz.dFn1, Zz.on1, Zz.dVar, Zz.dBin, Zz.on2, Zz.dChain, Zz.dNot, Zz.dAnd, Zz.dOr, Zz.dIf, Zz.dTup, Zz.dLst, Zz.dNil, Zz.dCons, Zz.frzs, Zz.dCall, Zz.oLe, Zz.oLt, Zz.oGt, Zz.oGe, Zz.oCmp, oIsB, isB, smallD]
end K02
set_option maxRecDepth 100000
set_option maxHeartbeats 1000000
namespace K02
open PySem PySem.Spec PyProof.Rows L2 Zz
theorem lay_mem : ∀ {l : List D}, PyData.canLayAll0 l = true → ∀ d ∈ l, d.canLay0 = true
  | [], _, _, h => nomatch h
  | x :: l, h, d, hd => by
    rw [PyData.canLayAll0, Bool.and_eq_true] at h
    rcases List.mem_cons.mp hd with rfl | hd
    · exact h.1
    · exact lay_mem h.2 d hd
theorem depth_mem : ∀ {l : List D} {d : D}, d ∈ l → d.depth ≤ PyData.depthAll l
  | x :: l, d, hd => by
    rw [PyData.depthAll]
    rcases List.mem_cons.mp hd with rfl | hd
    · omega
    · have := depth_mem hd; omega
theorem sh_mem {l : List D} (h : SeqAt.shaped (.tuple l) = true) {d : D} (hd : d ∈ l) : SeqAt.shaped d = true := by
  unfold SeqAt.shaped at *
  rw [Bool.and_eq_true] at h ⊢
  obtain ⟨h1, h2⟩ := h
  rw [PyData.canLay0] at h1
  have h3 := of_decide_eq_true h2
  rw [PyData.depth] at h3
  have := depth_mem hd
  exact ⟨lay_mem h1 d hd, decide_eq_true (by omega)⟩
theorem notSM (w : Str) : oNotIn (.str w) (.tuple [.str "some", .str "map"]) = some (.bool (!(decide (w = "some") || decide (w = "map")))) := by
  have z := any_str w ["some", "map"]
  unfold oNotIn inD
  have f := flat_strs ["some", "map"]
  simp only [List.map_cons, List.map_nil] at z f
  simp only [f, z]
  simp [flatD]
theorem inSM (w : Str) : oIn (.str w) (.tuple [.str "some", .str "map"]) = some (.bool (decide (w = "some") || decide (w = "map"))) := by
  have z := any_str w ["some", "map"]
  unfold oIn inD
  have f := flat_strs ["some", "map"]
  simp only [List.map_cons, List.map_nil] at z f
  simp only [f, z]
  simp [flatD]
theorem law_type_f (L : Sets) (h : (names L).Nodup) (t : D) (hs : SeqAt.shaped t = true) (S : List Cell) : fn_u_law_is_type [.d (setsD L), .d t] S = .ok (.d (.bool (typeD L t))) S := by
  refine body_ok ?_
  show body_u_law_is_type [some (.d (setsD L)), some (.d t)] S = _
  unfold body_u_law_is_type
  have sf := law_small_f L h t hs
  cases t with
  | tuple ds =>
    have en := eq_nil ds hs
    match ds, en, sf, hs with
    | [], en, sf, _ => simp [Zz.iteA, Zz.sSeq, Zz.sIf, Zz.sRet, Zz.sNil, Zz.sSet, Zz.sExpr, Zz.sRetN, Zz.sAsg, Zz.toTup, Zz.toCons, Zz.toNil, Zz.toName, Zz.tOrD, Zz.tAndD, Zz.tNotD, Zz.toB, Zz.toBr, Zz.toT, Zz.truD, Zz.dFn1, Zz.on1, Zz.dVar, Zz.dBin, Zz.on2, Zz.dChain, Zz.dNot, Zz.dAnd, Zz.dOr, Zz.dIf, Zz.dTup, Zz.dLst, Zz.dNil, Zz.dCons, Zz.frzs, Zz.dCall, Zz.oLe, Zz.oLt, Zz.oGt, Zz.oGe, Zz.oCmp, oIsB, isB, en, typeD, sf]
    | [x], en, sf, _ =>
      cases x with
      | str w =>
        by_cases h1 : w = "some"
        · subst h1; simp [Zz.iteA, Zz.sSeq, Zz.sIf, Zz.sRet, Zz.sNil, Zz.sSet, Zz.sExpr, Zz.sRetN, Zz.sAsg, Zz.toTup, Zz.toCons, Zz.toNil, Zz.toName, Zz.tOrD, Zz.tAndD, Zz.tNotD, Zz.toB, Zz.toBr, Zz.toT, Zz.truD, Zz.dFn1, Zz.on1, Zz.dVar, Zz.dBin, Zz.on2, Zz.dChain, Zz.dNot, Zz.dAnd, Zz.dOr, Zz.dIf, Zz.dTup, Zz.dLst, Zz.dNil, Zz.dCons, Zz.frzs, Zz.dCall, Zz.oLe, Zz.oLt, Zz.oGt, Zz.oGe, Zz.oCmp, oIsB, isB, en, oIx, atI0, atI1, notSM, eqS, lits, typeD, smallD, oLen, neI, oInt]
        · by_cases h2 : w = "map"
          · subst h2; simp [Zz.iteA, Zz.sSeq, Zz.sIf, Zz.sRet, Zz.sNil, Zz.sSet, Zz.sExpr, Zz.sRetN, Zz.sAsg, Zz.toTup, Zz.toCons, Zz.toNil, Zz.toName, Zz.tOrD, Zz.tAndD, Zz.tNotD, Zz.toB, Zz.toBr, Zz.toT, Zz.truD, Zz.dFn1, Zz.on1, Zz.dVar, Zz.dBin, Zz.on2, Zz.dChain, Zz.dNot, Zz.dAnd, Zz.dOr, Zz.dIf, Zz.dTup, Zz.dLst, Zz.dNil, Zz.dCons, Zz.frzs, Zz.dCall, Zz.oLe, Zz.oLt, Zz.oGt, Zz.oGe, Zz.oCmp, oIsB, isB, en, oIx, atI0, notSM, eqS, lits, typeD, smallD, oLen, neI, oInt]
          · simp [Zz.iteA, Zz.sSeq, Zz.sIf, Zz.sRet, Zz.sNil, Zz.sSet, Zz.sExpr, Zz.sRetN, Zz.sAsg, Zz.toTup, Zz.toCons, Zz.toNil, Zz.toName, Zz.tOrD, Zz.tAndD, Zz.tNotD, Zz.toB, Zz.toBr, Zz.toT, Zz.truD, Zz.dFn1, Zz.on1, Zz.dVar, Zz.dBin, Zz.on2, Zz.dChain, Zz.dNot, Zz.dAnd, Zz.dOr, Zz.dIf, Zz.dTup, Zz.dLst, Zz.dNil, Zz.dCons, Zz.frzs, Zz.dCall, Zz.oLe, Zz.oLt, Zz.oGt, Zz.oGe, Zz.oCmp, oIsB, isB, en, oIx, atI0, notSM, typeD, sf, h1, h2]
      | _ => simp [Zz.iteA, Zz.sSeq, Zz.sIf, Zz.sRet, Zz.sNil, Zz.sSet, Zz.sExpr, Zz.sRetN, Zz.sAsg, Zz.toTup, Zz.toCons, Zz.toNil, Zz.toName, Zz.tOrD, Zz.tAndD, Zz.tNotD, Zz.toB, Zz.toBr, Zz.toT, Zz.truD, Zz.dFn1, Zz.on1, Zz.dVar, Zz.dBin, Zz.on2, Zz.dChain, Zz.dNot, Zz.dAnd, Zz.dOr, Zz.dIf, Zz.dTup, Zz.dLst, Zz.dNil, Zz.dCons, Zz.frzs, Zz.dCall, Zz.oLe, Zz.oLt, Zz.oGt, Zz.oGe, Zz.oCmp, oIsB, isB, en, oIx, atI0, typeD, sf]
    | [x, y], en, sf, _ =>
      cases x with
      | str w =>
        by_cases h1 : w = "some"
        · subst h1
          cases y with
          | str s =>
            by_cases h3 : s ∈ names L
            · simp [Zz.iteA, Zz.sSeq, Zz.sIf, Zz.sRet, Zz.sNil, Zz.sSet, Zz.sExpr, Zz.sRetN, Zz.sAsg, Zz.toTup, Zz.toCons, Zz.toNil, Zz.toName, Zz.tOrD, Zz.tAndD, Zz.tNotD, Zz.toB, Zz.toBr, Zz.toT, Zz.truD, Zz.dFn1, Zz.on1, Zz.dVar, Zz.dBin, Zz.on2, Zz.dChain, Zz.dNot, Zz.dAnd, Zz.dOr, Zz.dIf, Zz.dTup, Zz.dLst, Zz.dNil, Zz.dCons, Zz.frzs, Zz.dCall, Zz.oLe, Zz.oLt, Zz.oGt, Zz.oGe, Zz.oCmp, oIsB, isB, en, oIx, atI0, atI1, notSM, eqS, lits, typeD, smallD, oLen, neI, oInt, dict_f L h, notInK, hasD, h3]
            · simp [Zz.iteA, Zz.sSeq, Zz.sIf, Zz.sRet, Zz.sNil, Zz.sSet, Zz.sExpr, Zz.sRetN, Zz.sAsg, Zz.toTup, Zz.toCons, Zz.toNil, Zz.toName, Zz.tOrD, Zz.tAndD, Zz.tNotD, Zz.toB, Zz.toBr, Zz.toT, Zz.truD, Zz.dFn1, Zz.on1, Zz.dVar, Zz.dBin, Zz.on2, Zz.dChain, Zz.dNot, Zz.dAnd, Zz.dOr, Zz.dIf, Zz.dTup, Zz.dLst, Zz.dNil, Zz.dCons, Zz.frzs, Zz.dCall, Zz.oLe, Zz.oLt, Zz.oGt, Zz.oGe, Zz.oCmp, oIsB, isB, en, oIx, atI0, atI1, notSM, eqS, lits, typeD, smallD, oLen, neI, oInt, dict_f L h, notInK, hasD, h3]
          | _ => simp [Zz.iteA, Zz.sSeq, Zz.sIf, Zz.sRet, Zz.sNil, Zz.sSet, Zz.sExpr, Zz.sRetN, Zz.sAsg, Zz.toTup, Zz.toCons, Zz.toNil, Zz.toName, Zz.tOrD, Zz.tAndD, Zz.tNotD, Zz.toB, Zz.toBr, Zz.toT, Zz.truD, Zz.dFn1, Zz.on1, Zz.dVar, Zz.dBin, Zz.on2, Zz.dChain, Zz.dNot, Zz.dAnd, Zz.dOr, Zz.dIf, Zz.dTup, Zz.dLst, Zz.dNil, Zz.dCons, Zz.frzs, Zz.dCall, Zz.oLe, Zz.oLt, Zz.oGt, Zz.oGe, Zz.oCmp, oIsB, isB, en, oIx, atI0, atI1, notSM, eqS, lits, typeD, smallD, oLen, neI, oInt, hasD]
        · by_cases h2 : w = "map"
          · subst h2; simp [Zz.iteA, Zz.sSeq, Zz.sIf, Zz.sRet, Zz.sNil, Zz.sSet, Zz.sExpr, Zz.sRetN, Zz.sAsg, Zz.toTup, Zz.toCons, Zz.toNil, Zz.toName, Zz.tOrD, Zz.tAndD, Zz.tNotD, Zz.toB, Zz.toBr, Zz.toT, Zz.truD, Zz.dFn1, Zz.on1, Zz.dVar, Zz.dBin, Zz.on2, Zz.dChain, Zz.dNot, Zz.dAnd, Zz.dOr, Zz.dIf, Zz.dTup, Zz.dLst, Zz.dNil, Zz.dCons, Zz.frzs, Zz.dCall, Zz.oLe, Zz.oLt, Zz.oGt, Zz.oGe, Zz.oCmp, oIsB, isB, en, oIx, atI0, notSM, eqS, lits, typeD, smallD, oLen, neI, oInt]
          · simp [Zz.iteA, Zz.sSeq, Zz.sIf, Zz.sRet, Zz.sNil, Zz.sSet, Zz.sExpr, Zz.sRetN, Zz.sAsg, Zz.toTup, Zz.toCons, Zz.toNil, Zz.toName, Zz.tOrD, Zz.tAndD, Zz.tNotD, Zz.toB, Zz.toBr, Zz.toT, Zz.truD, Zz.dFn1, Zz.on1, Zz.dVar, Zz.dBin, Zz.on2, Zz.dChain, Zz.dNot, Zz.dAnd, Zz.dOr, Zz.dIf, Zz.dTup, Zz.dLst, Zz.dNil, Zz.dCons, Zz.frzs, Zz.dCall, Zz.oLe, Zz.oLt, Zz.oGt, Zz.oGe, Zz.oCmp, oIsB, isB, en, oIx, atI0, notSM, typeD, sf, h1, h2]
      | _ => simp [Zz.iteA, Zz.sSeq, Zz.sIf, Zz.sRet, Zz.sNil, Zz.sSet, Zz.sExpr, Zz.sRetN, Zz.sAsg, Zz.toTup, Zz.toCons, Zz.toNil, Zz.toName, Zz.tOrD, Zz.tAndD, Zz.tNotD, Zz.toB, Zz.toBr, Zz.toT, Zz.truD, Zz.dFn1, Zz.on1, Zz.dVar, Zz.dBin, Zz.on2, Zz.dChain, Zz.dNot, Zz.dAnd, Zz.dOr, Zz.dIf, Zz.dTup, Zz.dLst, Zz.dNil, Zz.dCons, Zz.frzs, Zz.dCall, Zz.oLe, Zz.oLt, Zz.oGt, Zz.oGe, Zz.oCmp, oIsB, isB, en, oIx, atI0, typeD, sf]
    | [x, y, z], en, sf, hs =>
      have sz := law_small_f L h z (sh_mem hs (by simp))
      cases x with
      | str w =>
        by_cases h1 : w = "some"
        · subst h1; simp [Zz.iteA, Zz.sSeq, Zz.sIf, Zz.sRet, Zz.sNil, Zz.sSet, Zz.sExpr, Zz.sRetN, Zz.sAsg, Zz.toTup, Zz.toCons, Zz.toNil, Zz.toName, Zz.tOrD, Zz.tAndD, Zz.tNotD, Zz.toB, Zz.toBr, Zz.toT, Zz.truD, Zz.dFn1, Zz.on1, Zz.dVar, Zz.dBin, Zz.on2, Zz.dChain, Zz.dNot, Zz.dAnd, Zz.dOr, Zz.dIf, Zz.dTup, Zz.dLst, Zz.dNil, Zz.dCons, Zz.frzs, Zz.dCall, Zz.oLe, Zz.oLt, Zz.oGt, Zz.oGe, Zz.oCmp, oIsB, isB, en, oIx, atI0, atI1, notSM, eqS, lits, typeD, smallD, oLen, neI, oInt]
        · by_cases h2 : w = "map"
          · subst h2
            cases y with
            | str s =>
              by_cases h3 : s ∈ names L
              · simp [Zz.iteA, Zz.sSeq, Zz.sIf, Zz.sRet, Zz.sNil, Zz.sSet, Zz.sExpr, Zz.sRetN, Zz.sAsg, Zz.toTup, Zz.toCons, Zz.toNil, Zz.toName, Zz.tOrD, Zz.tAndD, Zz.tNotD, Zz.toB, Zz.toBr, Zz.toT, Zz.truD, Zz.dFn1, Zz.on1, Zz.dVar, Zz.dBin, Zz.on2, Zz.dChain, Zz.dNot, Zz.dAnd, Zz.dOr, Zz.dIf, Zz.dTup, Zz.dLst, Zz.dNil, Zz.dCons, Zz.frzs, Zz.dCall, Zz.oLe, Zz.oLt, Zz.oGt, Zz.oGe, Zz.oCmp, oIsB, isB, en, oIx, atI0, atI1, atI2, notSM, eqS, lits, typeD, smallD, oLen, neI, oInt, dict_f L h, notInK, hasD, h3, sz]
              · simp [Zz.iteA, Zz.sSeq, Zz.sIf, Zz.sRet, Zz.sNil, Zz.sSet, Zz.sExpr, Zz.sRetN, Zz.sAsg, Zz.toTup, Zz.toCons, Zz.toNil, Zz.toName, Zz.tOrD, Zz.tAndD, Zz.tNotD, Zz.toB, Zz.toBr, Zz.toT, Zz.truD, Zz.dFn1, Zz.on1, Zz.dVar, Zz.dBin, Zz.on2, Zz.dChain, Zz.dNot, Zz.dAnd, Zz.dOr, Zz.dIf, Zz.dTup, Zz.dLst, Zz.dNil, Zz.dCons, Zz.frzs, Zz.dCall, Zz.oLe, Zz.oLt, Zz.oGt, Zz.oGe, Zz.oCmp, oIsB, isB, en, oIx, atI0, atI1, atI2, notSM, eqS, lits, typeD, smallD, oLen, neI, oInt, dict_f L h, notInK, hasD, h3]
            | _ => simp [Zz.iteA, Zz.sSeq, Zz.sIf, Zz.sRet, Zz.sNil, Zz.sSet, Zz.sExpr, Zz.sRetN, Zz.sAsg, Zz.toTup, Zz.toCons, Zz.toNil, Zz.toName, Zz.tOrD, Zz.tAndD, Zz.tNotD, Zz.toB, Zz.toBr, Zz.toT, Zz.truD, Zz.dFn1, Zz.on1, Zz.dVar, Zz.dBin, Zz.on2, Zz.dChain, Zz.dNot, Zz.dAnd, Zz.dOr, Zz.dIf, Zz.dTup, Zz.dLst, Zz.dNil, Zz.dCons, Zz.frzs, Zz.dCall, Zz.oLe, Zz.oLt, Zz.oGt, Zz.oGe, Zz.oCmp, oIsB, isB, en, oIx, atI0, atI1, notSM, eqS, lits, typeD, smallD, oLen, neI, oInt, hasD]
          · simp [Zz.iteA, Zz.sSeq, Zz.sIf, Zz.sRet, Zz.sNil, Zz.sSet, Zz.sExpr, Zz.sRetN, Zz.sAsg, Zz.toTup, Zz.toCons, Zz.toNil, Zz.toName, Zz.tOrD, Zz.tAndD, Zz.tNotD, Zz.toB, Zz.toBr, Zz.toT, Zz.truD, Zz.dFn1, Zz.on1, Zz.dVar, Zz.dBin, Zz.on2, Zz.dChain, Zz.dNot, Zz.dAnd, Zz.dOr, Zz.dIf, Zz.dTup, Zz.dLst, Zz.dNil, Zz.dCons, Zz.frzs, Zz.dCall, Zz.oLe, Zz.oLt, Zz.oGt, Zz.oGe, Zz.oCmp, oIsB, isB, en, oIx, atI0, notSM, typeD, sf, h1, h2, smallD]
      | _ => simp [Zz.iteA, Zz.sSeq, Zz.sIf, Zz.sRet, Zz.sNil, Zz.sSet, Zz.sExpr, Zz.sRetN, Zz.sAsg, Zz.toTup, Zz.toCons, Zz.toNil, Zz.toName, Zz.tOrD, Zz.tAndD, Zz.tNotD, Zz.toB, Zz.toBr, Zz.toT, Zz.truD, Zz.dFn1, Zz.on1, Zz.dVar, Zz.dBin, Zz.on2, Zz.dChain, Zz.dNot, Zz.dAnd, Zz.dOr, Zz.dIf, Zz.dTup, Zz.dLst, Zz.dNil, Zz.dCons, Zz.frzs, Zz.dCall, Zz.oLe, Zz.oLt, Zz.oGt, Zz.oGe, Zz.oCmp, oIsB, isB, en, oIx, atI0, typeD, sf, smallD]
    | x :: y :: z :: u :: r, en, sf, _ =>
      have n2 : ¬ ((r.length : Int) + 1 + 1 + 1 + 1 = 2) := by omega
      have n3 : ¬ ((r.length : Int) + 1 + 1 + 1 + 1 = 3) := by omega
      cases x with
      | str w =>
        by_cases h1 : w = "some"
        · subst h1; simp [Zz.iteA, Zz.sSeq, Zz.sIf, Zz.sRet, Zz.sNil, Zz.sSet, Zz.sExpr, Zz.sRetN, Zz.sAsg, Zz.toTup, Zz.toCons, Zz.toNil, Zz.toName, Zz.tOrD, Zz.tAndD, Zz.tNotD, Zz.toB, Zz.toBr, Zz.toT, Zz.truD, Zz.dFn1, Zz.on1, Zz.dVar, Zz.dBin, Zz.on2, Zz.dChain, Zz.dNot, Zz.dAnd, Zz.dOr, Zz.dIf, Zz.dTup, Zz.dLst, Zz.dNil, Zz.dCons, Zz.frzs, Zz.dCall, Zz.oLe, Zz.oLt, Zz.oGt, Zz.oGe, Zz.oCmp, oIsB, isB, en, oIx, atI0, atI1, notSM, eqS, lits, typeD, smallD, oLen, neI, oInt, n2]
        · by_cases h2 : w = "map"
          · subst h2; simp [Zz.iteA, Zz.sSeq, Zz.sIf, Zz.sRet, Zz.sNil, Zz.sSet, Zz.sExpr, Zz.sRetN, Zz.sAsg, Zz.toTup, Zz.toCons, Zz.toNil, Zz.toName, Zz.tOrD, Zz.tAndD, Zz.tNotD, Zz.toB, Zz.toBr, Zz.toT, Zz.truD, Zz.dFn1, Zz.on1, Zz.dVar, Zz.dBin, Zz.on2, Zz.dChain, Zz.dNot, Zz.dAnd, Zz.dOr, Zz.dIf, Zz.dTup, Zz.dLst, Zz.dNil, Zz.dCons, Zz.frzs, Zz.dCall, Zz.oLe, Zz.oLt, Zz.oGt, Zz.oGe, Zz.oCmp, oIsB, isB, en, oIx, atI0, notSM, eqS, lits, typeD, smallD, oLen, neI, oInt, n3]
          · simp [Zz.iteA, Zz.sSeq, Zz.sIf, Zz.sRet, Zz.sNil, Zz.sSet, Zz.sExpr, Zz.sRetN, Zz.sAsg, Zz.toTup, Zz.toCons, Zz.toNil, Zz.toName, Zz.tOrD, Zz.tAndD, Zz.tNotD, Zz.toB, Zz.toBr, Zz.toT, Zz.truD, Zz.dFn1, Zz.on1, Zz.dVar, Zz.dBin, Zz.on2, Zz.dChain, Zz.dNot, Zz.dAnd, Zz.dOr, Zz.dIf, Zz.dTup, Zz.dLst, Zz.dNil, Zz.dCons, Zz.frzs, Zz.dCall, Zz.oLe, Zz.oLt, Zz.oGt, Zz.oGe, Zz.oCmp, oIsB, isB, en, oIx, atI0, notSM, typeD, sf, h1, h2, smallD]
      | _ => simp [Zz.iteA, Zz.sSeq, Zz.sIf, Zz.sRet, Zz.sNil, Zz.sSet, Zz.sExpr, Zz.sRetN, Zz.sAsg, Zz.toTup, Zz.toCons, Zz.toNil, Zz.toName, Zz.tOrD, Zz.tAndD, Zz.tNotD, Zz.toB, Zz.toBr, Zz.toT, Zz.truD, Zz.dFn1, Zz.on1, Zz.dVar, Zz.dBin, Zz.on2, Zz.dChain, Zz.dNot, Zz.dAnd, Zz.dOr, Zz.dIf, Zz.dTup, Zz.dLst, Zz.dNil, Zz.dCons, Zz.frzs, Zz.dCall, Zz.oLe, Zz.oLt, Zz.oGt, Zz.oGe, Zz.oCmp, oIsB, isB, en, oIx, atI0, typeD, sf, smallD]
  | _ => simp [Zz.iteA, Zz.sSeq, Zz.sIf, Zz.sRet, Zz.sNil, Zz.sSet, Zz.sExpr, Zz.sRetN, Zz.sAsg, Zz.toTup, Zz.toCons, Zz.toNil, Zz.toName, Zz.tOrD, Zz.tAndD, Zz.tNotD, Zz.toB, Zz.toBr, Zz.toT, Zz.truD, Zz.dFn1, Zz.on1, Zz.dVar, Zz.dBin, Zz.on2, Zz.dChain, Zz.dNot, Zz.dAnd, Zz.dOr, Zz.dIf, Zz.dTup, Zz.dLst, Zz.dNil, Zz.dCons, Zz.frzs, Zz.dCall, Zz.oLe, Zz.oLt, Zz.oGt, Zz.oGe, Zz.oCmp, oIsB, isB, typeD, sf]
/-! ### values -/
/-- the values of a small type -/
def valsD (L : Sets) : D → List D
  | .tuple [.str t, .int i] => if t = "num" then rgD (i + 1) else []
  | .tuple [.str t, .str s] => if t = "one" then ((look L s).getD []).map .str else []
  | .tuple [.str t] => if t = "truth" then [.bool false, .bool true] else []
  | _ => []
theorem el_loop (c : Option Val) (s : Str) (S : List Cell) : ∀ (L : Sets) (w m : Option Val) (ms : List Str), look L s = some ms →
    forGo (toTup (toCons (toName 2) (toCons (toName 3) toNil))) (sIf (toB (dBin oEq (dVar 2) (dVar 1))) (sRet (dVar 3)) sNil) (L.map rowD) [c, some (.d (.str s)), w, m] S = .rt (.d (.tuple (ms.map .str))) S
  | [], _, _, _, h => by cases h
  | p :: L, w, m, ms, h => by
    unfold look at h
    rw [List.find?_cons] at h
    rw [List.map_cons, forGo]
    by_cases e : p.1 = s
    · simp only [e, decide_true] at h
      cases (Option.some.inj h : p.2 = ms)
      simp [Zz.iteA, Zz.sSeq, Zz.sIf, Zz.sRet, Zz.sNil, Zz.sSet, Zz.sExpr, Zz.sRetN, Zz.sAsg, Zz.toTup, Zz.toCons, Zz.toNil, Zz.toName, Zz.tOrD, Zz.tAndD, Zz.tNotD, Zz.toB, Zz.toBr, Zz.toT, Zz.truD, Zz.dFn1, Zz.on1, Zz.dVar, Zz.dBin, Zz.on2, Zz.dChain, Zz.dNot, Zz.dAnd, Zz.dOr, Zz.dIf, Zz.dTup, Zz.dLst, Zz.dNil, Zz.dCons, Zz.frzs, Zz.dCall, Zz.oLe, Zz.oLt, Zz.oGt, Zz.oGe, Zz.oCmp, rowD, eqS, e]
    · simp only [e, decide_false] at h
      have ih := el_loop c s S L (some (.d (.str p.1))) (some (.d (.tuple (p.2.map .str)))) ms h
      simp [Zz.iteA, Zz.sSeq, Zz.sIf, Zz.sRet, Zz.sNil, Zz.sSet, Zz.sExpr, Zz.sRetN, Zz.sAsg, Zz.toTup, Zz.toCons, Zz.toNil, Zz.toName, Zz.tOrD, Zz.tAndD, Zz.tNotD, Zz.toB, Zz.toBr, Zz.toT, Zz.truD, Zz.dFn1, Zz.on1, Zz.dVar, Zz.dBin, Zz.on2, Zz.dChain, Zz.dNot, Zz.dAnd, Zz.dOr, Zz.dIf, Zz.dTup, Zz.dLst, Zz.dNil, Zz.dCons, Zz.frzs, Zz.dCall, Zz.oLe, Zz.oLt, Zz.oGt, Zz.oGe, Zz.oCmp, rowD, eqS, e]
      exact ih
theorem el_f (L : Sets) (s : Str) (ms : List Str) (h : look L s = some ms) (S : List Cell) : fn_elements_of [.d (setsD L), .d (.str s)] S = .ok (.d (.tuple (ms.map .str))) S := by
  refine body_ok ?_
  show body_elements_of [some (.d (setsD L)), some (.d (.str s)), none, none] S = _
  unfold body_elements_of
  have hit : itAny (dVar 0) [some (.d (setsD L)), some (.d (.str s)), none, none] S = .ok (L.map rowD) S := itAny_at (d := setsD L) rfl rfl
  have e : sFor (itAny (dVar 0)) (toTup (toCons (toName 2) (toCons (toName 3) toNil))) (sIf (toB (dBin oEq (dVar 2) (dVar 1))) (sRet (dVar 3)) sNil) [some (.d (setsD L)), some (.d (.str s)), none, none] S = .rt (.d (.tuple (ms.map .str))) S := by
    unfold sFor
    rw [hit]
    exact el_loop _ s S L none none ms h
  rw [sSeq_rt e]
end K02
set_option maxRecDepth 100000
set_option maxHeartbeats 1000000
namespace K02
open PySem PySem.Spec PyProof.Rows L2 Zz
theorem onRg_at {k : List D → D} {j : Int} (h0 : 0 ≤ j) (h1 : j ≤ 16777216) (S : List Cell) : onRg k (.d (.int j)) S = .ok (.d (k (rgD j))) S := by
  unfold onRg
  show (if 0 ≤ j ∧ j ≤ 16777216 then _ else _) = _
  rw [if_pos ⟨h0, h1⟩]
/-- the small types, told apart -/
theorem small_cases {L : Sets} {t : D} (h : smallD L t = true) :
    (∃ i : Int, t = .tuple [.str "num", .int i] ∧ 1 ≤ i ∧ i ≤ 15) ∨ t = .tuple [.str "truth"] ∨ ∃ s ms, t = .tuple [.str "one", .str s] ∧ look L s = some ms := by
  unfold smallD at h
  split at h
  · rename_i w y
    split at h
    · rename_i e
      subst e
      split at h
      · rename_i i
        simp only [Bool.and_eq_true, decide_eq_true_eq] at h
        exact .inl ⟨i, rfl, h.1, h.2⟩
      · cases h
    · split at h
      · rename_i e
        subst e
        cases y with
        | str s =>
          have z := look_some s L
          have h2 : decide (s ∈ names L) = true := h
          rw [h2] at z
          obtain ⟨ms, e⟩ := Option.isSome_iff_exists.mp z
          exact .inr (.inr ⟨s, ms, rfl, e⟩)
        | _ => cases h
      · cases h
  · rename_i w
    have e := of_decide_eq_true h
    subst e
    exact .inr (.inl rfl)
  · cases h
theorem law_values_f (L : Sets) (hn : (names L).Nodup) (t : D) (h : smallD L t = true) (S : List Cell) : fn_u_law_values [.d (setsD L), .d t] S = .ok (.d (.list (valsD L t))) S := by
  refine body_ok ?_
  show body_u_law_values [some (.d (setsD L)), some (.d t)] S = _
  unfold body_u_law_values
  rcases small_cases h with ⟨i, rfl, h1, h2⟩ | rfl | ⟨s, ms, rfl, hl⟩
  · simp [Zz.iteA, Zz.sSeq, Zz.sIf, Zz.sRet, Zz.sNil, Zz.sSet, Zz.sExpr, Zz.sRetN, Zz.sAsg, Zz.toTup, Zz.toCons, Zz.toNil, Zz.toName, Zz.tOrD, Zz.tAndD, Zz.tNotD, Zz.toB, Zz.toBr, Zz.toT, Zz.truD, Zz.dFn1, Zz.on1, Zz.dVar, Zz.dBin, Zz.on2, Zz.dChain, Zz.dNot, Zz.dAnd, Zz.dOr, Zz.dIf, Zz.dTup, Zz.dLst, Zz.dNil, Zz.dCons, Zz.frzs, Zz.dCall, Zz.oLe, Zz.oLt, Zz.oGt, Zz.oGe, Zz.oCmp, oIx, atI0, atI1, eqS, lits, dLstRg, oAdd, valsD, onRg_at (k := PyData.list) (j := i + 1) (by omega) (by omega)]
  · simp [Zz.iteA, Zz.sSeq, Zz.sIf, Zz.sRet, Zz.sNil, Zz.sSet, Zz.sExpr, Zz.sRetN, Zz.sAsg, Zz.toTup, Zz.toCons, Zz.toNil, Zz.toName, Zz.tOrD, Zz.tAndD, Zz.tNotD, Zz.toB, Zz.toBr, Zz.toT, Zz.truD, Zz.dFn1, Zz.on1, Zz.dVar, Zz.dBin, Zz.on2, Zz.dChain, Zz.dNot, Zz.dAnd, Zz.dOr, Zz.dIf, Zz.dTup, Zz.dLst, Zz.dNil, Zz.dCons, Zz.frzs, Zz.dCall, Zz.oLe, Zz.oLt, Zz.oGt, Zz.oGe, Zz.oCmp, oIx, atI0, atI1, eqS, lits, valsD]
  · simp [Zz.iteA, Zz.sSeq, Zz.sIf, Zz.sRet, Zz.sNil, Zz.sSet, Zz.sExpr, Zz.sRetN, Zz.sAsg, Zz.toTup, Zz.toCons, Zz.toNil, Zz.toName, Zz.tOrD, Zz.tAndD, Zz.tNotD, Zz.toB, Zz.toBr, Zz.toT, Zz.truD, Zz.dFn1, Zz.on1, Zz.dVar, Zz.dBin, Zz.on2, Zz.dChain, Zz.dNot, Zz.dAnd, Zz.dOr, Zz.dIf, Zz.dTup, Zz.dLst, Zz.dNil, Zz.dCons, Zz.frzs, Zz.dCall, Zz.oLe, Zz.oLt, Zz.oGt, Zz.oGe, Zz.oCmp, oIx, atI0, atI1, eqS, lits, valsD, dict_f L hn, get_sets, toKey, hl, oList]
theorem values_f (L : Sets) (hz : L.length ≤ 16777216) (t : D) (h : smallD L t = true) (S : List Cell) : fn_values_of [.d (setsD L), .d t] S = .ok (.d (.tuple (valsD L t))) S := by
  have sf := small_f L hz t
  rw [h] at sf
  refine body_ok ?_
  show body_values_of [some (.d (setsD L)), some (.d t)] S = _
  unfold body_values_of
  rcases small_cases h with ⟨i, rfl, h1, h2⟩ | rfl | ⟨s, ms, rfl, hl⟩
  · simp [Zz.iteA, Zz.sSeq, Zz.sIf, Zz.sRet, Zz.sNil, Zz.sSet, Zz.sExpr, Zz.sRetN, Zz.sAsg, Zz.toTup, Zz.toCons, Zz.toNil, Zz.toName, Zz.tOrD, Zz.tAndD, Zz.tNotD, Zz.toB, Zz.toBr, Zz.toT, Zz.truD, Zz.dFn1, Zz.on1, Zz.dVar, Zz.dBin, Zz.on2, Zz.dChain, Zz.dNot, Zz.dAnd, Zz.dOr, Zz.dIf, Zz.dTup, Zz.dLst, Zz.dNil, Zz.dCons, Zz.frzs, Zz.dCall, Zz.oLe, Zz.oLt, Zz.oGt, Zz.oGe, Zz.oCmp, sf, oIx, atI0, atI1, eqS, lits, dTupRg, oAdd, valsD, onRg_at (k := PyData.tuple) (j := i + 1) (by omega) (by omega)]
  · simp [Zz.iteA, Zz.sSeq, Zz.sIf, Zz.sRet, Zz.sNil, Zz.sSet, Zz.sExpr, Zz.sRetN, Zz.sAsg, Zz.toTup, Zz.toCons, Zz.toNil, Zz.toName, Zz.tOrD, Zz.tAndD, Zz.tNotD, Zz.toB, Zz.toBr, Zz.toT, Zz.truD, Zz.dFn1, Zz.on1, Zz.dVar, Zz.dBin, Zz.on2, Zz.dChain, Zz.dNot, Zz.dAnd, Zz.dOr, Zz.dIf, Zz.dTup, Zz.dLst, Zz.dNil, Zz.dCons, Zz.frzs, Zz.dCall, Zz.oLe, Zz.oLt, Zz.oGt, Zz.oGe, Zz.oCmp, sf, oIx, atI0, atI1, eqS, lits, valsD]
  · simp [Zz.iteA, Zz.sSeq, Zz.sIf, Zz.sRet, Zz.sNil, Zz.sSet, Zz.sExpr, Zz.sRetN, Zz.sAsg, Zz.toTup, Zz.toCons, Zz.toNil, Zz.toName, Zz.tOrD, Zz.tAndD, Zz.tNotD, Zz.toB, Zz.toBr, Zz.toT, Zz.truD, Zz.dFn1, Zz.on1, Zz.dVar, Zz.dBin, Zz.on2, Zz.dChain, Zz.dNot, Zz.dAnd, Zz.dOr, Zz.dIf, Zz.dTup, Zz.dLst, Zz.dNil, Zz.dCons, Zz.frzs, Zz.dCall, Zz.oLe, Zz.oLt, Zz.oGt, Zz.oGe, Zz.oCmp, sf, oIx, atI0, atI1, eqS, lits, valsD, el_f L s ms hl, hl]
theorem values_no (L : Sets) (hz : L.length ≤ 16777216) (t : D) (h : smallD L t = false) (S : List Cell) : fn_values_of [.d (setsD L), .d t] S = .ex ⟨"BadType", []⟩ S := by
  have sf := small_f L hz t
  rw [h] at sf
  have key : body_values_of [some (.d (setsD L)), some (.d t)] S = .ex ⟨"BadType", []⟩ [some (.d (setsD L)), some (.d t)] S := by
    unfold body_values_of sRaise
    simp [Zz.iteA, Zz.sSeq, Zz.sIf, Zz.sRet, Zz.sNil, Zz.sSet, Zz.sExpr, Zz.sRetN, Zz.sAsg, Zz.toTup, Zz.toCons, Zz.toNil, Zz.toName, Zz.tOrD, Zz.tAndD, Zz.tNotD, Zz.toB, Zz.toBr, Zz.toT, Zz.truD, Zz.dFn1, Zz.on1, Zz.dVar, Zz.dBin, Zz.on2, Zz.dChain, Zz.dNot, Zz.dAnd, Zz.dOr, Zz.dIf, Zz.dTup, Zz.dLst, Zz.dNil, Zz.dCons, Zz.frzs, Zz.dCall, Zz.oLe, Zz.oLt, Zz.oGt, Zz.oGe, Zz.oCmp, sf]
  show finish S.length (body_values_of [some (.d (setsD L)), some (.d t)] S) = _
  rw [key]
  show Res.ex _ (S.take S.length) = _
  rw [List.take_length]
def toldD (L : Sets) (t : D) : D := if smallD L t = true then .tuple (valsD L t) else .str "kind"
theorem told_f (L : Sets) (hz : L.length ≤ 16777216) (t : D) (S : List Cell) : fn_u_law_told [.d (setsD L), .d t] S = .ok (.d (toldD L t)) S := by
  show finish S.length (body_u_law_told [some (.d (setsD L)), some (.d t), none, none, none, none] S) = _
  unfold toldD
  cases h : smallD L t
  · have z := values_no L hz t h S
    have key : body_u_law_told [some (.d (setsD L)), some (.d t), none, none, none, none] S = .rt (.d (.str "kind")) (S ++ [.exc ⟨"BadType", []⟩]) := by
      unfold body_u_law_told
      have e1 : ex_0 "BadType" = some true := by decide +kernel
      have e2 : ix_BadCarriers_BadExpression_MissError "BadType" = some false := by decide +kernel
      have e3 : ix_BadType "BadType" = some true := by decide +kernel
      have e4 : ix_ValueError "BadType" = some true := by decide +kernel
      have g1 : (S ++ [Cell.exc ⟨"BadType", []⟩])[S.length]? = some (.exc ⟨"BadType", []⟩) := by rw [List.getElem?_append_right (Nat.le_refl _), Nat.sub_self]; rfl
      simp [Zz.iteA, Zz.sSeq, Zz.sIf, Zz.sRet, Zz.sNil, Zz.sSet, Zz.sExpr, Zz.sRetN, Zz.sAsg, Zz.toTup, Zz.toCons, Zz.toNil, Zz.toName, Zz.tOrD, Zz.tAndD, Zz.tNotD, Zz.toB, Zz.toBr, Zz.toT, Zz.truD, Zz.dFn1, Zz.on1, Zz.dVar, Zz.dBin, Zz.on2, Zz.dChain, Zz.dNot, Zz.dAnd, Zz.dOr, Zz.dIf, Zz.dTup, Zz.dLst, Zz.dNil, Zz.dCons, Zz.frzs, Zz.dCall, Zz.oLe, Zz.oLt, Zz.oGt, Zz.oGe, Zz.oCmp, sKeep, dNone, noneV, clsX, onX, z, e1, e2, e3, e4]
    rw [key]
    show Res.ok _ ((S ++ [Cell.exc ⟨"BadType", []⟩]).take S.length) = _
    rw [List.take_left']
    · rfl
    · rfl
  · have z := values_f L hz t h S
    have key : body_u_law_told [some (.d (setsD L)), some (.d t), none, none, none, none] S = .rt (.d (.tuple (valsD L t))) S := by
      unfold body_u_law_told
      simp [Zz.iteA, Zz.sSeq, Zz.sIf, Zz.sRet, Zz.sNil, Zz.sSet, Zz.sExpr, Zz.sRetN, Zz.sAsg, Zz.toTup, Zz.toCons, Zz.toNil, Zz.toName, Zz.tOrD, Zz.tAndD, Zz.tNotD, Zz.toB, Zz.toBr, Zz.toT, Zz.truD, Zz.dFn1, Zz.on1, Zz.dVar, Zz.dBin, Zz.on2, Zz.dChain, Zz.dNot, Zz.dAnd, Zz.dOr, Zz.dIf, Zz.dTup, Zz.dLst, Zz.dNil, Zz.dCons, Zz.frzs, Zz.dCall, Zz.oLe, Zz.oLt, Zz.oGt, Zz.oGe, Zz.oCmp, sKeep, dNone, noneV, Zz.isNon, z]
    rw [key]
    show Res.ok _ (S.take S.length) = _
    rw [List.take_length]
    rfl
end K02
set_option maxRecDepth 100000
set_option maxHeartbeats 1000000
namespace K02
open PySem PySem.Spec PyProof.Rows L2 Zz
/-! ### small data: what == and repr take -/
def okS (x : Str) : Bool := decide (x.cps.toList.length ≤ 30) && x.cps.toList.all fun c => decide (c < 0x110000)
def okI (i : Int) : Bool := (PyData.int i).showable && decide ((PyData.int i).shown.length ≤ 320)
def leafB : D → Bool
  | .none => true
  | .bool _ => true
  | .int i => okI i
  | .str x => okS x
  | _ => false
def Tidy : Nat → D → Prop
  | 0, d => leafB d = true
  | n + 1, d => leafB d = true ∨ ∃ l : List D, (d = .list l ∨ d = .tuple l) ∧ l.length ≤ 10 ∧ ∀ x ∈ l, Tidy n x
theorem Tidy.of0 {d : D} (h : leafB d = true) : ∀ n, Tidy n d
  | 0 => h
  | _ + 1 => .inl h
theorem Tidy.up : ∀ {n : Nat} {d : D}, Tidy n d → Tidy (n + 1) d
  | 0, _, h => .inl h
  | _ + 1, _, .inl h => .inl h
  | _ + 1, _, .inr ⟨l, e, hl, h⟩ => .inr ⟨l, e, hl, fun x hx => Tidy.up (h x hx)⟩
theorem Tidy.le {n : Nat} {d : D} (h : Tidy n d) {m : Nat} (q : n ≤ m) : Tidy m d := by
  induction m with
  | zero => cases Nat.le_zero.mp q; exact h
  | succ m ih =>
    rcases Nat.lt_or_ge n (m + 1) with z | z
    · exact (ih (by omega)).up
    · have : n = m + 1 := by omega
      rw [← this]; exact h
theorem Tidy.tup {n : Nat} {l : List D} (hl : l.length ≤ 10) (h : ∀ x ∈ l, Tidy n x) : Tidy (n + 1) (.tuple l) := .inr ⟨l, .inr rfl, hl, h⟩
theorem Tidy.lst {n : Nat} {l : List D} (hl : l.length ≤ 10) (h : ∀ x ∈ l, Tidy n x) : Tidy (n + 1) (.list l) := .inr ⟨l, .inl rfl, hl, h⟩
theorem Tidy.in_tup {n : Nat} {l : List D} (h : Tidy (n + 1) (.tuple l)) : l.length ≤ 10 ∧ ∀ x ∈ l, Tidy n x := by
  rcases h with h | ⟨l', e, hl, h⟩
  · cases h
  · rcases e with e | e <;> cases e
    exact ⟨hl, h⟩
def Bd : Nat → Nat
  | 0 => 320
  | n + 1 => 10 * Bd n + 30
structure Fit (n : Nat) (d : D) : Prop where
  lay : d.canLay0 = true
  dep : d.depth ≤ n
  shw : d.showable = true
  nod : d.hasDict = false
  len : d.shown.length ≤ Bd n
theorem lay_of : ∀ {l : List D}, (∀ d ∈ l, d.canLay0 = true) → PyData.canLayAll0 l = true
  | [], _ => rfl
  | x :: r, h => by
    rw [PyData.canLayAll0, h x List.mem_cons_self, lay_of fun d hd => h d (List.mem_cons_of_mem _ hd)]
    rfl
theorem depth_of : ∀ {l : List D} {n : Nat}, (∀ d ∈ l, d.depth ≤ n) → PyData.depthAll l ≤ n
  | [], n, _ => Nat.zero_le _
  | x :: r, n, h => by
    rw [PyData.depthAll]
    have h1 := h x List.mem_cons_self
    have h2 := depth_of fun d hd => h d (List.mem_cons_of_mem _ hd)
    omega
theorem showAll_of : ∀ {l : List D}, (∀ x ∈ l, x.showable = true) → PyData.showableAll l = true
  | [], _ => rfl
  | x :: l, h => by
    rw [PyData.showableAll, h x List.mem_cons_self, showAll_of fun y hy => h y (List.mem_cons_of_mem _ hy)]
    rfl
theorem dictAll_of : ∀ {l : List D}, (∀ x ∈ l, x.hasDict = false) → PyData.hasDictAll l = false
  | [], _ => rfl
  | x :: l, h => by
    rw [PyData.hasDictAll, h x List.mem_cons_self, dictAll_of fun y hy => h y (List.mem_cons_of_mem _ hy)]
    rfl
theorem lens_of {b : Nat} : ∀ {l : List D}, (∀ x ∈ l, x.shown.length ≤ b) → ((PyData.shownAll l).map (·.length)).sum ≤ b * l.length ∧ (PyData.shownAll l).length = l.length
  | [], _ => by rw [PyData.shownAll]; exact ⟨Nat.zero_le _, rfl⟩
  | x :: l, h => by
    have h1 := h x List.mem_cons_self
    obtain ⟨h2, h3⟩ := lens_of fun y hy => h y (List.mem_cons_of_mem _ hy)
    rw [PyData.shownAll, List.map_cons, List.sum_cons, List.length_cons, List.length_cons, h3]
    refine ⟨?_, rfl⟩
    rw [Nat.mul_succ]
    omega
theorem fit0 {d : D} (h : leafB d = true) (n : Nat) : Fit n d := by
  have mono : ∀ n, 320 ≤ Bd n := fun n => by induction n with | zero => exact Nat.le_refl _ | succ n ih => show _ ≤ 10 * Bd n + 30; omega
  have bn := mono n
  cases d with
  | none => exact ⟨rfl, Nat.zero_le _, rfl, rfl, Nat.le_trans (by decide +kernel) bn⟩
  | bool b => exact ⟨rfl, Nat.zero_le _, rfl, rfl, Nat.le_trans (by cases b <;> decide +kernel) bn⟩
  | int i =>
    have h' : okI i = true := h
    unfold okI at h'
    rw [Bool.and_eq_true] at h'
    exact ⟨rfl, Nat.zero_le _, h'.1, rfl, Nat.le_trans (of_decide_eq_true h'.2) bn⟩
  | str x =>
    have h' : okS x = true := h
    unfold okS at h'
    rw [Bool.and_eq_true] at h'
    have h1 := of_decide_eq_true h'.1
    have h2 : ∀ c ∈ x.cps.toList, c < 0x110000 := fun c hc => of_decide_eq_true (List.all_eq_true.mp h'.2 c hc)
    have ok : PyData.strOk x = true := by
      unfold PyData.strOk
      rw [← Array.all_toList]
      exact List.all_eq_true.mpr fun c hc => decide_eq_true (h2 c hc)
    refine ⟨?_, Nat.zero_le _, rfl, rfl, ?_⟩
    · rw [PyData.canLay0]; exact ok
    · rw [PyData.shown]
      have z := StrLaws.reprText_len x fun c hc => Nat.lt_trans (h2 c hc) (by decide)
      have hl : x.length ≤ 30 := by rw [← size_len]; exact h1
      omega
  | _ => cases h
theorem fit_of : ∀ {n : Nat} {d : D}, Tidy n d → Fit n d
  | 0, _, h => fit0 h 0
  | n + 1, _, .inl h => fit0 h _
  | n + 1, _, .inr ⟨l, e, hl, h⟩ => by
    have f : ∀ x ∈ l, Fit n x := fun x hx => fit_of (h x hx)
    have f2 := lay_of fun x hx => (f x hx).lay
    have f3 := depth_of (n := n) fun x hx => (f x hx).dep
    have f4 := showAll_of fun x hx => (f x hx).shw
    have f5 := dictAll_of fun x hx => (f x hx).nod
    obtain ⟨f6, f7⟩ := lens_of fun x hx => (f x hx).len
    have f8 : Bd n * l.length ≤ Bd n * 10 := Nat.mul_le_mul_left _ hl
    rcases e with rfl | rfl
    · refine ⟨by rw [PyData.canLay0]; exact f2, by rw [PyData.depth]; omega, by rw [PyData.showable]; exact f4, by rw [PyData.hasDict]; exact f5, ?_⟩
      rw [PyData.shown]
      have z := listText_len_le (PyData.shownAll l)
      show _ ≤ 10 * Bd n + 30
      omega
    · refine ⟨by rw [PyData.canLay0]; exact f2, by rw [PyData.depth]; omega, by rw [PyData.showable]; exact f4, by rw [PyData.hasDict]; exact f5, ?_⟩
      rw [PyData.shown]
      have z := tupleText_len_le (PyData.shownAll l)
      show _ ≤ 10 * Bd n + 30
      omega
theorem Fit.repr {n : Nat} {d : D} (h : Fit n d) (hn : n ≤ 4) : oRepr d = some (.str d.shown) := by
  have hb : Bd n ≤ 16777216 := by
    have : ∀ n, n ≤ 4 → Bd n ≤ 16777216 := by decide
    exact this n hn
  have hl := h.len
  have hd := h.dep
  unfold oRepr
  rw [if_pos]
  rw [h.shw, h.nod, decide_eq_true (by omega), decide_eq_true (by omega)]
  rfl
theorem Tidy.repr {n : Nat} {d : D} (h : Tidy n d) (hn : n ≤ 4) : oRepr d = some (.str d.shown) := (fit_of h).repr hn
theorem Tidy.sh {n : Nat} {d : D} (h : Tidy n d) (hn : n ≤ 4) : SeqAt.shaped d = true := by
  have f := fit_of h
  unfold SeqAt.shaped
  have := f.dep
  rw [f.lay, decide_eq_true (by omega)]; rfl
theorem neS (x y : Str) : oNe (.str x) (.str y) = some (.bool (!decide (x = y))) := by
  show some (PyData.bool (!PyData.eqv (.str x) (.str y))) = _
  congr 2
theorem repr_rg : ∀ i : Nat, i < 16 → oRepr (.tuple (rgD ((i : Int) + 1))) = some (.str (PyData.tuple (rgD ((i : Int) + 1))).shown) := by
  intro i hi
  unfold oRepr
  have h : ∀ j : Nat, j < 16 → ((PyData.tuple (rgD ((j : Int) + 1))).showable && (!(PyData.tuple (rgD ((j : Int) + 1))).hasDict || noL (.tuple (rgD ((j : Int) + 1)))) && decide ((PyData.tuple (rgD ((j : Int) + 1))).shown.length ≤ 16777216) && decide ((PyData.tuple (rgD ((j : Int) + 1))).depth ≤ 90)) = true := by decide +kernel
  rw [if_pos (h i hi)]
end K02
set_option maxRecDepth 100000
set_option maxHeartbeats 1000000
namespace K02
open PySem PySem.Spec PyProof.Rows L2 Zz
def EL : List Str := ["e1", "e2", "deed", "x", "red", "blue", "one", "z9", "kept", "p", "q9", "goal"]
/-- good sets -/
structure GL (L : Sets) : Prop where
  nd : (names L).Nodup
  ln : L.length ≤ 3
  ne : L ≠ []
  nm : ∀ p ∈ L, okS p.1 = true
  few : ∀ p ∈ L, p.2.length ≤ 4 ∧ p.2 ≠ [] ∧ p.2.Nodup
  el : ∀ p ∈ L, ∀ x ∈ p.2, okS x = true
  inE : ∀ p ∈ L, ∀ x ∈ p.2, x ∈ EL
theorem look_mem {s : Str} {ms : List Str} : ∀ {L : Sets}, look L s = some ms → (s, ms) ∈ L
  | [], h => by cases h
  | p :: L, h => by
    unfold look at h
    rw [List.find?_cons] at h
    by_cases e : p.1 = s
    · simp only [e, decide_true] at h
      cases (Option.some.inj h : p.2 = ms)
      subst e
      exact List.mem_cons_self
    · simp only [e, decide_false] at h
      exact List.mem_cons_of_mem _ (look_mem h)
theorem tidy_strs {l : List Str} (hl : l.length ≤ 10) (h : ∀ x ∈ l, okS x = true) : Tidy 1 (.tuple (l.map .str)) :=
  Tidy.tup (by rw [List.length_map]; exact hl) fun d hd => by
    obtain ⟨x, hx, rfl⟩ := List.mem_map.mp hd
    exact h x hx
theorem repr_vals {L : Sets} (G : GL L) {t : D} (h : smallD L t = true) : ∃ x, oRepr (.tuple (valsD L t)) = some (.str x) := by
  rcases small_cases h with ⟨i, rfl, h1, h2⟩ | rfl | ⟨s, ms, rfl, hl⟩
  · obtain ⟨j, rfl⟩ : ∃ j : Nat, i = (j : Int) := ⟨i.toNat, by omega⟩
    exact ⟨_, repr_rg j (by omega)⟩
  · exact ⟨_, (Tidy.tup (n := 0) (by simp [valsD]) (by intro x hx; simp [valsD] at hx; rcases hx with rfl | rfl <;> rfl)).repr (by decide)⟩
  · have m := look_mem hl
    have e : valsD L (.tuple [.str "one", .str s]) = ms.map .str := by simp [valsD, hl]
    rw [e]
    have f := G.few _ m
    exact ⟨_, (tidy_strs (by omega) (G.el _ m)).repr (by decide)⟩
def turn1 : SD := (sSeq (sSet 5 (dFn1 oRepr (dVar 4))) (sSeq (sSet 6 (dLst (dCons (dCall fn_u_law_is_type (dCons (dVar 0) (dCons (dVar 4) dNil))) (dCons (dCall fn_u_law_is_small (dCons (dVar 0) (dCons (dVar 4) dNil))) dNil)))) (sSeq (sIf (toB (dBin oNe (dFn1 oRepr (dLst (dCons (dCall fn_is_type (dCons (dVar 0) (dCons (dVar 4) dNil))) (dCons (dCall fn_is_small (dCons (dVar 0) (dCons (dVar 4) dNil))) dNil)))) (dFn1 oRepr (dVar 6)))) (sRet (dC (.bool false))) sNil) (sSeq (sSet 7 (dIf (toT (dCall fn_u_law_is_small (dCons (dVar 0) (dCons (dVar 4) dNil)))) (dFn1 oRepr (dFn1 oTuple (dCall fn_u_law_values (dCons (dVar 0) (dCons (dVar 4) dNil))))) (dFn1 oRepr (dC (.str "kind"))))) (sIf (tOrD (toB (dBin oNe (dFn1 oRepr (dCall fn_u_law_told (dCons (dVar 0) (dCons (dVar 4) dNil)))) (dVar 7))) (toB (dBin oNe (dFn1 oRepr (dVar 4)) (dVar 5)))) (sRet (dC (.bool false))) sNil)))))
theorem bools_tidy (a b : Bool) : Tidy 1 (.list [.bool a, .bool b]) := Tidy.lst (by simp) (by intro x hx; simp at hx; rcases hx with rfl | rfl <;> rfl)
theorem turn1_f {L : Sets} (G : GL L) {t : D} (ht : Tidy 4 t) (s1 s2 s3 s5 s6 s7 s8 s9 : Option Val) (S : List Cell) :
    ∃ o5 o6 o7, turn1 [some (.d (setsD L)), s1, s2, s3, some (.d t), s5, s6, s7, s8, s9] S = .nx [some (.d (setsD L)), s1, s2, s3, some (.d t), o5, o6, o7, s8, s9] S := by
  have ln := G.ln
  have hz : L.length ≤ 16777216 := by omega
  have sh := ht.sh (by decide)
  have f1 := law_type_f L G.nd t sh
  have f2 := law_small_f L G.nd t sh
  have f3 := type_f L hz t
  have f4 := small_f L hz t
  have f5 := told_f L hz t
  have r1 := ht.repr (by decide)
  have r2 := (bools_tidy (typeD L t) (smallD L t)).repr (by decide)
  cases hs : smallD L t
  · rw [hs] at f2 f4 r2
    have e : toldD L t = .str "kind" := by unfold toldD; rw [hs]; rfl
    have r3 : oRepr (.str "kind") = some (.str (PyData.str "kind").shown) := (Tidy.of0 (n := 0) (d := .str "kind") (by decide +kernel)).repr (by decide)
    rw [e] at f5
    refine ⟨some (.d (.str t.shown)), some (.d (.list [.bool (typeD L t), .bool false])), some (.d (.str (PyData.str "kind").shown)), ?_⟩
    unfold turn1
    simp [Zz.iteA, Zz.sSeq, Zz.sIf, Zz.sRet, Zz.sNil, Zz.sSet, Zz.sExpr, Zz.sRetN, Zz.sAsg, Zz.toTup, Zz.toCons, Zz.toNil, Zz.toName, Zz.tOrD, Zz.tAndD, Zz.tNotD, Zz.toB, Zz.toBr, Zz.toT, Zz.truD, Zz.dFn1, Zz.on1, Zz.dVar, Zz.dBin, Zz.on2, Zz.dChain, Zz.dNot, Zz.dAnd, Zz.dOr, Zz.dIf, Zz.dTup, Zz.dLst, Zz.dNil, Zz.dCons, Zz.frzs, Zz.dCall, Zz.oLe, Zz.oLt, Zz.oGt, Zz.oGe, Zz.oCmp, r1, r2, r3, f1, f2, f3, f4, f5, neS]
  · obtain ⟨x, r3⟩ := repr_vals G hs
    have f6 := law_values_f L G.nd t hs
    rw [hs] at f2 f4 r2
    have e : toldD L t = .tuple (valsD L t) := by unfold toldD; rw [hs]; rfl
    rw [e] at f5
    refine ⟨some (.d (.str t.shown)), some (.d (.list [.bool (typeD L t), .bool true])), some (.d (.str x)), ?_⟩
    unfold turn1
    simp [Zz.iteA, Zz.sSeq, Zz.sIf, Zz.sRet, Zz.sNil, Zz.sSet, Zz.sExpr, Zz.sRetN, Zz.sAsg, Zz.toTup, Zz.toCons, Zz.toNil, Zz.toName, Zz.tOrD, Zz.tAndD, Zz.tNotD, Zz.toB, Zz.toBr, Zz.toT, Zz.truD, Zz.dFn1, Zz.on1, Zz.dVar, Zz.dBin, Zz.on2, Zz.dChain, Zz.dNot, Zz.dAnd, Zz.dOr, Zz.dIf, Zz.dTup, Zz.dLst, Zz.dNil, Zz.dCons, Zz.frzs, Zz.dCall, Zz.oLe, Zz.oLt, Zz.oGt, Zz.oGe, Zz.oCmp, r1, r2, r3, f1, f2, f3, f4, f5, f6, neS, oTuple]
theorem loop1_f {L : Sets} (G : GL L) (s1 s2 s3 s8 s9 : Option Val) (S : List Cell) : ∀ (ts : List D), (∀ t ∈ ts, Tidy 4 t) → ∀ s4 s5 s6 s7 : Option Val,
    ∃ o4 o5 o6 o7, forGo (toName 4) turn1 ts [some (.d (setsD L)), s1, s2, s3, s4, s5, s6, s7, s8, s9] S = .nx [some (.d (setsD L)), s1, s2, s3, o4, o5, o6, o7, s8, s9] S
  | [], _, s4, s5, s6, s7 => ⟨s4, s5, s6, s7, rfl⟩
  | t :: ts, h, s4, s5, s6, s7 => by
    obtain ⟨o5, o6, o7, e⟩ := turn1_f G (h t List.mem_cons_self) s1 s2 s3 s5 s6 s7 s8 s9 S
    obtain ⟨p4, p5, p6, p7, e2⟩ := loop1_f G s1 s2 s3 s8 s9 S ts (fun x hx => h x (List.mem_cons_of_mem _ hx)) (some (.d t)) o5 o6 o7
    refine ⟨p4, p5, p6, p7, ?_⟩
    rw [forGo]
    show (match turn1 [some (.d (setsD L)), s1, s2, s3, some (.d t), s5, s6, s7, s8, s9] S with | .nx ρ2 S2 => forGo (toName 4) turn1 ts ρ2 S2 | .ct ρ2 S2 => forGo (toName 4) turn1 ts ρ2 S2 | .bk ρ2 S2 => .nx ρ2 S2 | .rt v S2 => .rt v S2 | .ex x ρ2 S2 => .ex x ρ2 S2 | .st => .st) = _
    rw [e]
    exact e2
end K02
set_option maxRecDepth 100000
set_option maxHeartbeats 1000000
namespace K02
open PySem PySem.Spec PyProof.Rows L2 Zz
def baseL : Sets := [("jobs", ["e1", "e2", "deed", "x"]), ("hands", ["red", "blue", "one", "z9"]), ("a", ["kept", "p", "q9", "goal"])]
def rotL (r : Nat) : Sets := baseL.drop r ++ baseL.take r
def cutL (p : Str × List Str) (v : Nat) : Str × List Str := (p.1, p.2.take v)
def turnS : SD := (sExpr (dApp (dVar 2) (dTup (dCons (dBin oIx (dBin oIx (dVar 1) (dVar 3)) (dC (.int 0))) (dCons (dSl (dBin oIx (dBin oIx (dVar 1) (dVar 3)) (dC (.int 1))) pNone (pSome (dBin oIx (dLst (dCons (dC (.int 2)) (dCons (dC (.int 3)) (dCons (dC (.int 1)) (dCons (dC (.int 2)) (dCons (dC (.int 4)) (dCons (dC (.int 2)) dNil))))))) (dBin oMod (dBin oDiv (dBin oDiv (dVar 0) (dC (.int 3))) (dBin oIx (dLst (dCons (dC (.int 1)) (dCons (dC (.int 6)) (dCons (dC (.int 36)) dNil)))) (dVar 3))) (dC (.int 6)))))) dNil)))))
theorem mod_at (i j : Int) (h : j ≠ 0) : oMod (.int i) (.int j) = some (.int (i.fmod j)) := by show (if j ≠ 0 then _ else _) = _; rw [if_pos h]
theorem div_at (i j : Int) (h : j ≠ 0) (h2 : j.natAbs < 1073741824) : oDiv (.int i) (.int j) = some (.int (i.fdiv j)) := by show (if j ≠ 0 ∧ j.natAbs < 1073741824 then _ else _) = _; rw [if_pos ⟨h, h2⟩]
theorem cut_take (l : List D) (k : Nat) : Zz.cutD l none (some (k : Int)) = l.take k := by
  unfold Zz.cutD
  rw [HT.sIx_none, HT.sIx_nat, Nat.sub_zero, List.drop_zero]
  rcases Nat.le_total k l.length with h | h
  · rw [Nat.min_eq_left h]
  · rw [Nat.min_eq_right h, List.take_length, List.take_of_length_le h]
theorem cut_drop (l : List D) (k : Nat) : Zz.cutD l (some (k : Int)) none = l.drop k := by
  unfold Zz.cutD
  rw [HT.sIx_none, HT.sIx_nat]
  rcases Nat.le_total k l.length with h | h
  · rw [Nat.min_eq_left h, List.take_of_length_le (by rw [List.length_drop]; exact Nat.le_refl _)]
  · rw [Nat.min_eq_right h, List.drop_length, List.drop_eq_nil_of_le h, List.take_nil]
def steps : List D := [.int 2, .int 3, .int 1, .int 2, .int 4, .int 2]
theorem step_at (x : Int) : ∃ v : Nat, 1 ≤ v ∧ v ≤ 4 ∧ oIx (.list steps) (.int (x.fmod 6)) = some (.int (v : Int)) := by
  have h0 := Int.fmod_nonneg_of_pos x (b := 6) (by decide)
  have h1 := Int.fmod_lt_of_pos x (b := 6) (by decide)
  generalize x.fmod 6 = i at h0 h1
  obtain ⟨j, rfl⟩ : ∃ j : Nat, i = (j : Int) := ⟨i.toNat, by omega⟩
  have hj : j < 6 := by omega
  show ∃ v : Nat, 1 ≤ v ∧ v ≤ 4 ∧ atI steps (j : Int) = some (.int (v : Int))
  match j, hj with
  | 0, _ => exact ⟨2, by decide, by decide, rfl⟩
  | 1, _ => exact ⟨3, by decide, by decide, rfl⟩
  | 2, _ => exact ⟨1, by decide, by decide, rfl⟩
  | 3, _ => exact ⟨2, by decide, by decide, rfl⟩
  | 4, _ => exact ⟨4, by decide, by decide, rfl⟩
  | 5, _ => exact ⟨2, by decide, by decide, rfl⟩
def ones : List D := [.int 1, .int 6, .int 36]
theorem turnS_f (n : Int) (c0 c1 : Cell) (rows acc : List D) (k : Nat) (p : Str × List Str) (q : Int) (hp : atI rows (k : Int) = some (rowD p)) (hq : atI ones (k : Int) = some (.int q)) (hq0 : q ≠ 0 ∧ q.natAbs < 1073741824) (ha : acc.length < 100) (o : Option Val) :
    ∃ v : Nat, 1 ≤ v ∧ v ≤ 4 ∧ turnS [some (.d (.int n)), some (.c 2), some (.c 3), some (.d (.int (k : Int)))] [c0, c1, .lst rows, .lst acc] = .nx [some (.d (.int n)), some (.c 2), some (.c 3), some (.d (.int (k : Int)))] [c0, c1, .lst rows, .lst (acc ++ [rowD (cutL p v)])] := by
  obtain ⟨v, h1, h4, hv⟩ := step_at ((n.fdiv 3).fdiv q)
  refine ⟨v, h1, h4, ?_⟩
  have e1 := div_at n 3 (by decide) (by decide)
  have e2 := div_at (n.fdiv 3) q hq0.1 hq0.2
  have e3 := mod_at ((n.fdiv 3).fdiv q) 6 (by decide)
  have i1 : oIx (.list rows) (.int (k : Int)) = some (rowD p) := hp
  have i2 : oIx (.list ones) (.int (k : Int)) = some (.int q) := hq
  have i3 : oIx (.tuple [.str p.1, .tuple (p.2.map .str)]) (.int 0) = some (.str p.1) := atI0 _ _
  have i4 : oIx (.tuple [.str p.1, .tuple (p.2.map .str)]) (.int 1) = some (.tuple (p.2.map .str)) := atI1 _ _ _
  unfold ones at i2
  unfold steps at hv
  have la : acc.length < 16777216 := by omega
  unfold turnS
  simp [Zz.iteA, Zz.sSeq, Zz.sIf, Zz.sRet, Zz.sNil, Zz.sSet, Zz.sExpr, Zz.sRetN, Zz.sAsg, Zz.toTup, Zz.toCons, Zz.toNil, Zz.toName, Zz.tOrD, Zz.tAndD, Zz.tNotD, Zz.toB, Zz.toBr, Zz.toT, Zz.truD, Zz.dFn1, Zz.on1, Zz.dVar, Zz.dBin, Zz.on2, Zz.dChain, Zz.dNot, Zz.dAnd, Zz.dOr, Zz.dIf, Zz.dTup, Zz.dLst, Zz.dNil, Zz.dCons, Zz.frzs, Zz.dCall, Zz.oLe, Zz.oLt, Zz.oGt, Zz.oGe, Zz.oCmp, dApp, isLst, rd, i1, i2, i3, i4, e1, e2, e3, hv, dSl, pNone, pSome, oSl, cut_take, appM, push, la, cutL, rowD, List.map_take]
def goodB (L : Sets) : Bool := decide (names L).Nodup && (decide (L.length ≤ 3) && (!L.isEmpty && (L.all fun p => okS p.1 && (decide (p.2.length ≤ 4) && (!p.2.isEmpty && (decide p.2.Nodup && p.2.all fun x => okS x && decide (x ∈ EL)))))))
theorem GL.of {L : Sets} (h : goodB L = true) : GL L := by
  unfold goodB at h
  simp only [Bool.and_eq_true, decide_eq_true_eq, List.all_eq_true, Bool.not_eq_true'] at h
  obtain ⟨h1, h2, h3, h4⟩ := h
  exact ⟨h1, h2, fun z => (by subst z; cases h3), fun p hp => (h4 p hp).1, fun p hp => ⟨(h4 p hp).2.1, fun z => (by have := (h4 p hp).2.2.1; rw [z] at this; cases this), (h4 p hp).2.2.2.1⟩, fun p hp x hx => ((h4 p hp).2.2.2.2 x hx).1, fun p hp x hx => ((h4 p hp).2.2.2.2 x hx).2⟩
def mkL (r j a b d : Nat) : Sets := ((rotL r).zipWith cutL [a, b, d]).take j
theorem mk_good : ∀ r, r < 3 → ∀ j, j < 3 → ∀ a, a < 4 → ∀ b, b < 4 → ∀ d, d < 4 → goodB (mkL r (j + 1) (a + 1) (b + 1) (d + 1)) = true := by decide +kernel
theorem fmod_nat (x : Int) (m : Nat) (h : 0 < m) : ∃ j : Nat, x.fmod (m : Int) = (j : Int) ∧ j < m := by
  have h0 := Int.fmod_nonneg_of_pos x (b := (m : Int)) (by omega)
  have h1 := Int.fmod_lt_of_pos x (b := (m : Int)) (by omega)
  exact ⟨(x.fmod (m : Int)).toNat, by omega, by omega⟩
theorem cd0 (l : List D) : Zz.cutD l (some 0) none = l.drop 0 := cut_drop l 0
theorem ct0 (l : List D) : Zz.cutD l none (some 0) = l.take 0 := cut_take l 0
theorem cd1 (l : List D) : Zz.cutD l (some 1) none = l.drop 1 := cut_drop l 1
theorem ct1 (l : List D) : Zz.cutD l none (some 1) = l.take 1 := cut_take l 1
theorem cd2 (l : List D) : Zz.cutD l (some 2) none = l.drop 2 := cut_drop l 2
theorem ct2 (l : List D) : Zz.cutD l none (some 2) = l.take 2 := cut_take l 2
theorem cd3 (l : List D) : Zz.cutD l (some 3) none = l.drop 3 := cut_drop l 3
theorem ct3 (l : List D) : Zz.cutD l none (some 3) = l.take 3 := cut_take l 3
theorem cd4 (l : List D) : Zz.cutD l (some 4) none = l.drop 4 := cut_drop l 4
theorem ct4 (l : List D) : Zz.cutD l none (some 4) = l.take 4 := cut_take l 4
theorem par_f (n : Int) (c : Cell) : ∃ r, r < 3 ∧ (sPar 1 2 (dCons (dAddC (dSl (dVar 1) (pSome (dBin oMod (dVar 0) (dC (.int 3)))) pNone) (dSl (dVar 1) pNone (pSome (dBin oMod (dVar 0) (dC (.int 3)))))) (dCons (dLstC dNil) dNil))) [some (.d (.int n)), some (.c 1), none, none] [c, .lst (baseL.map rowD)] = .nx [some (.d (.int n)), some (.c 2), some (.c 3), none] [c, .lst (baseL.map rowD), .lst ((rotL r).map rowD), .lst []] := by
  obtain ⟨r, e, hr⟩ : ∃ j : Nat, n.fmod 3 = (j : Int) ∧ j < 3 := fmod_nat n 3 (by decide)
  refine ⟨r, hr, ?_⟩
  have e1 := mod_at n 3 (by decide)
  rw [e] at e1
  match r, hr, e1 with
  | 0, _, e1 => simp [Zz.iteA, Zz.sSeq, Zz.sIf, Zz.sRet, Zz.sNil, Zz.sSet, Zz.sExpr, Zz.sRetN, Zz.sAsg, Zz.toTup, Zz.toCons, Zz.toNil, Zz.toName, Zz.tOrD, Zz.tAndD, Zz.tNotD, Zz.toB, Zz.toBr, Zz.toT, Zz.truD, Zz.dFn1, Zz.on1, Zz.dVar, Zz.dBin, Zz.on2, Zz.dChain, Zz.dNot, Zz.dAnd, Zz.dOr, Zz.dIf, Zz.dTup, Zz.dLst, Zz.dNil, Zz.dCons, Zz.frzs, Zz.dCall, Zz.oLe, Zz.oLt, Zz.oGt, Zz.oGe, Zz.oCmp, sPar, dAddC, catM, dLstC, newCell, dSl, pSome, pNone, oSl, e1, rd, cd0, cd1, cd2, ct0, ct1, ct2, baseL, rotL, rowD]
  | 1, _, e1 => simp [Zz.iteA, Zz.sSeq, Zz.sIf, Zz.sRet, Zz.sNil, Zz.sSet, Zz.sExpr, Zz.sRetN, Zz.sAsg, Zz.toTup, Zz.toCons, Zz.toNil, Zz.toName, Zz.tOrD, Zz.tAndD, Zz.tNotD, Zz.toB, Zz.toBr, Zz.toT, Zz.truD, Zz.dFn1, Zz.on1, Zz.dVar, Zz.dBin, Zz.on2, Zz.dChain, Zz.dNot, Zz.dAnd, Zz.dOr, Zz.dIf, Zz.dTup, Zz.dLst, Zz.dNil, Zz.dCons, Zz.frzs, Zz.dCall, Zz.oLe, Zz.oLt, Zz.oGt, Zz.oGe, Zz.oCmp, sPar, dAddC, catM, dLstC, newCell, dSl, pSome, pNone, oSl, e1, rd, cd0, cd1, cd2, ct0, ct1, ct2, baseL, rotL, rowD]
  | 2, _, e1 => simp [Zz.iteA, Zz.sSeq, Zz.sIf, Zz.sRet, Zz.sNil, Zz.sSet, Zz.sExpr, Zz.sRetN, Zz.sAsg, Zz.toTup, Zz.toCons, Zz.toNil, Zz.toName, Zz.tOrD, Zz.tAndD, Zz.tNotD, Zz.toB, Zz.toBr, Zz.toT, Zz.truD, Zz.dFn1, Zz.on1, Zz.dVar, Zz.dBin, Zz.on2, Zz.dChain, Zz.dNot, Zz.dAnd, Zz.dOr, Zz.dIf, Zz.dTup, Zz.dLst, Zz.dNil, Zz.dCons, Zz.frzs, Zz.dCall, Zz.oLe, Zz.oLt, Zz.oGt, Zz.oGe, Zz.oCmp, sPar, dAddC, catM, dLstC, newCell, dSl, pSome, pNone, oSl, e1, rd, cd0, cd1, cd2, ct0, ct1, ct2, baseL, rotL, rowD]
theorem loopS_f (n : Int) (c0 c1 : Cell) (r : Nat) (hr : r < 3) (j : Nat) (hj : j < 3) : ∃ a b d, a < 4 ∧ b < 4 ∧ d < 4 ∧ ∃ o, forGo (toName 3) turnS ((List.range (j + 1)).map fun i : Nat => .int (0 + (i : Int))) [some (.d (.int n)), some (.c 2), some (.c 3), none] [c0, c1, .lst ((rotL r).map rowD), .lst []]
    = .nx [some (.d (.int n)), some (.c 2), some (.c 3), o] [c0, c1, .lst ((rotL r).map rowD), .lst ((mkL r (j + 1) (a + 1) (b + 1) (d + 1)).map rowD)] := by
  obtain ⟨p0, p1, p2, hp⟩ : ∃ p0 p1 p2, rotL r = [p0, p1, p2] := by
    match r, hr with
    | 0, _ => exact ⟨_, _, _, rfl⟩
    | 1, _ => exact ⟨_, _, _, rfl⟩
    | 2, _ => exact ⟨_, _, _, rfl⟩
  have q0 : atI ((rotL r).map rowD) ((0 : Nat) : Int) = some (rowD p0) := by rw [hp]; rfl
  have q1 : atI ((rotL r).map rowD) ((1 : Nat) : Int) = some (rowD p1) := by rw [hp]; rfl
  have q2 : atI ((rotL r).map rowD) ((2 : Nat) : Int) = some (rowD p2) := by rw [hp]; rfl
  obtain ⟨a, a1, a2, ea⟩ := turnS_f n c0 c1 ((rotL r).map rowD) [] 0 p0 1 q0 rfl ⟨by decide, by decide⟩ (by decide) none
  obtain ⟨b, b1, b2, eb⟩ := turnS_f n c0 c1 ((rotL r).map rowD) [rowD (cutL p0 a)] 1 p1 6 q1 rfl ⟨by decide, by decide⟩ (by simp) none
  obtain ⟨d, d1, d2, ed⟩ := turnS_f n c0 c1 ((rotL r).map rowD) [rowD (cutL p0 a), rowD (cutL p1 b)] 2 p2 36 q2 rfl ⟨by decide, by decide⟩ (by simp) none
  refine ⟨a - 1, b - 1, d - 1, by omega, by omega, by omega, ?_⟩
  rw [show a - 1 + 1 = a by omega, show b - 1 + 1 = b by omega, show d - 1 + 1 = d by omega]
  unfold mkL
  simp only [List.nil_append, List.cons_append] at ea eb ed
  match j, hj with
  | 0, _ =>
    refine ⟨some (.d (.int ((0 : Nat) : Int))), ?_⟩
    rw [hp] at ea ⊢
    simp only [List.range, List.range.loop, List.map_cons, List.map_nil, forGo, toName, List.set, List.zipWith, List.take]
    simp only [List.map_cons, List.map_nil] at ea
    rw [show (PyData.int (0 + ((0 : Nat) : Int))) = .int ((0 : Nat) : Int) from rfl, ea]
    rfl
  | 1, _ =>
    refine ⟨some (.d (.int ((1 : Nat) : Int))), ?_⟩
    rw [hp] at ea eb ⊢
    simp only [List.range, List.range.loop, List.map_cons, List.map_nil, forGo, toName, List.set, List.zipWith, List.take]
    simp only [List.map_cons, List.map_nil] at ea eb
    rw [show (PyData.int (0 + ((0 : Nat) : Int))) = .int ((0 : Nat) : Int) from rfl, show (PyData.int (0 + ((1 : Nat) : Int))) = .int ((1 : Nat) : Int) from rfl, ea]
    simp only [List.set]
    rw [eb]
    rfl
  | 2, _ =>
    refine ⟨some (.d (.int ((2 : Nat) : Int))), ?_⟩
    rw [hp] at ea eb ed ⊢
    simp only [List.range, List.range.loop, List.map_cons, List.map_nil, forGo, toName, List.set, List.zipWith, List.take]
    simp only [List.map_cons, List.map_nil] at ea eb ed
    rw [show (PyData.int (0 + ((0 : Nat) : Int))) = .int ((0 : Nat) : Int) from rfl, show (PyData.int (0 + ((1 : Nat) : Int))) = .int ((1 : Nat) : Int) from rfl, show (PyData.int (0 + ((2 : Nat) : Int))) = .int ((2 : Nat) : Int) from rfl, ea]
    simp only [List.set]
    rw [eb]
    simp only [List.set]
    rw [ed]
    rfl
theorem sFor_at {it : Env' → M (List D)} {g : Tg} {b : SD} {ρ : Env'} {S S1 : List Cell} {ds : List D} (h : it ρ S = .ok ds S1) : sFor it g b ρ S = forGo g b ds ρ S1 := by
  unfold sFor
  rw [h]
  rfl
theorem sets_f (n : Int) (c : Cell) : ∃ L, GL L ∧ fn_u_law_sets [.d (.int n)] [c] = .ok (.d (setsD L)) [c] := by
  obtain ⟨r, hr, e3⟩ := par_f n c
  obtain ⟨j, ej, hj⟩ : ∃ j : Nat, (n.fdiv 648).fmod 3 = (j : Int) ∧ j < 3 := fmod_nat (n.fdiv 648) 3 (by decide)
  obtain ⟨a, b, d, ha, hb, hd, o, e4⟩ := loopS_f n c (.lst (baseL.map rowD)) r hr j hj
  refine ⟨_, GL.of (mk_good r hr j hj a ha b hb d hd), ?_⟩
  have e1 : (sSet 1 (dLstC (dCons (dTup (dCons (dC (.str "jobs")) (dCons (dTup (dCons (dC (.str "e1")) (dCons (dC (.str "e2")) (dCons (dC (.str "deed")) (dCons (dC (.str "x")) dNil))))) dNil))) (dCons (dTup (dCons (dC (.str "hands")) (dCons (dTup (dCons (dC (.str "red")) (dCons (dC (.str "blue")) (dCons (dC (.str "one")) (dCons (dC (.str "z9")) dNil))))) dNil))) dNil)))) [some (.d (.int n)), none, none, none] [c] = .nx [some (.d (.int n)), some (.c 1), none, none] [c, .lst ((baseL.take 2).map rowD)] := rfl
  have e2 : (sExpr (dApp (dVar 1) (dTup (dCons (dC (.str "a")) (dCons (dTup (dCons (dC (.str "kept")) (dCons (dC (.str "p")) (dCons (dC (.str "q9")) (dCons (dC (.str "goal")) dNil))))) dNil))))) [some (.d (.int n)), some (.c 1), none, none] [c, .lst ((baseL.take 2).map rowD)] = .nx [some (.d (.int n)), some (.c 1), none, none] [c, .lst (baseL.map rowD)] := rfl
  have e5 : (itRng (dBin oAdd (dC (.int 1)) (dBin oMod (dBin oDiv (dVar 0) (dC (.int 648))) (dC (.int 3))))) [some (.d (.int n)), some (.c 2), some (.c 3), none] [c, .lst (baseL.map rowD), .lst ((rotL r).map rowD), .lst []] = .ok ((List.range (j + 1)).map fun i : Nat => .int (0 + (i : Int))) [c, .lst (baseL.map rowD), .lst ((rotL r).map rowD), .lst []] := by
    have z := itRng_at (f := dBin oAdd (dC (.int 1)) (dBin oMod (dBin oDiv (dVar 0) (dC (.int 648))) (dC (.int 3)))) (ρ := [some (.d (.int n)), some (.c 2), some (.c 3), none]) (S := [c, .lst (baseL.map rowD), .lst ((rotL r).map rowD), .lst []]) (j := 1 + (n.fdiv 648).fmod 3)
      (dBin_at rfl (dBin_at (dBin_at rfl rfl rfl rfl (div_at n 648 (by decide) (by decide))) rfl rfl rfl (mod_at _ 3 (by decide))) rfl rfl rfl) (by omega)
    rw [show (1 + (n.fdiv 648).fmod 3).toNat = j + 1 by omega] at z
    exact z
  have key : body_u_law_sets [some (.d (.int n)), none, none, none] [c] = .rt (.d (setsD (mkL r (j + 1) (a + 1) (b + 1) (d + 1)))) [c, .lst (baseL.map rowD), .lst ((rotL r).map rowD), .lst ((mkL r (j + 1) (a + 1) (b + 1) (d + 1)).map rowD)] := by
    show sSeq (sSet 1 (dLstC (dCons (dTup (dCons (dC (.str "jobs")) (dCons (dTup (dCons (dC (.str "e1")) (dCons (dC (.str "e2")) (dCons (dC (.str "deed")) (dCons (dC (.str "x")) dNil))))) dNil))) (dCons (dTup (dCons (dC (.str "hands")) (dCons (dTup (dCons (dC (.str "red")) (dCons (dC (.str "blue")) (dCons (dC (.str "one")) (dCons (dC (.str "z9")) dNil))))) dNil))) dNil)))) (sSeq (sExpr (dApp (dVar 1) (dTup (dCons (dC (.str "a")) (dCons (dTup (dCons (dC (.str "kept")) (dCons (dC (.str "p")) (dCons (dC (.str "q9")) (dCons (dC (.str "goal")) dNil))))) dNil))))) (sSeq (sPar 1 2 (dCons (dAddC (dSl (dVar 1) (pSome (dBin oMod (dVar 0) (dC (.int 3)))) pNone) (dSl (dVar 1) pNone (pSome (dBin oMod (dVar 0) (dC (.int 3)))))) (dCons (dLstC dNil) dNil))) (sSeq (sFor (itRng (dBin oAdd (dC (.int 1)) (dBin oMod (dBin oDiv (dVar 0) (dC (.int 648))) (dC (.int 3))))) (toName 3) turnS) (sRet (dFn1 oTuple (dVar 2)))))) _ _ = _
    rw [sSeq_nx e1, sSeq_nx e2, sSeq_nx e3, sSeq_nx ((sFor_at e5).trans e4)]
    rfl
  have z := body_rt (np := 1) (nl := 4) (b := body_u_law_sets) (as := [.d (.int n)]) (S := [c]) rfl key
  exact z
end K02
set_option maxRecDepth 100000
set_option maxHeartbeats 2000000
namespace K02
open PySem PySem.Spec PyProof.Rows L2 Zz
theorem look_of {p : Str × List Str} : ∀ {L : Sets}, (names L).Nodup → p ∈ L → look L p.1 = some p.2
  | q :: L, hn, hp => by
    have h1 := List.nodup_cons.mp hn
    unfold look
    rw [List.find?_cons]
    by_cases e : q.1 = p.1
    · simp only [e, decide_true]
      rcases List.mem_cons.mp hp with rfl | hp
      · rfl
      · exact absurd (show q.1 ∈ List.map (fun x => x.1) L from by rw [e]; exact List.mem_map.mpr ⟨p, hp, rfl⟩) h1.1
    · simp only [e, decide_false]
      rcases List.mem_cons.mp hp with rfl | hp
      · exact absurd rfl e
      · exact look_of h1.2 hp
/-- small types of few values -/
inductive Few (L : Sets) (s : Str) : D → Prop
  | num (i : Nat) : 1 ≤ i → i ≤ 3 → Few L s (.tuple [.str "num", .int (i : Int)])
  | truth : Few L s (.tuple [.str "truth"])
  | one : Few L s (.tuple [.str "one", .str s])
inductive Kind (L : Sets) : D → Prop
  | num (i : Nat) : 1 ≤ i → i ≤ 15 → Kind L (.tuple [.str "num", .int (i : Int)])
  | truth : Kind L (.tuple [.str "truth"])
  | one (s : Str) (ms : List Str) : look L s = some ms → Kind L (.tuple [.str "one", .str s])
  | some (s : Str) (ms : List Str) : look L s = some ms → Kind L (.tuple [.str "some", .str s])
  | map (s : Str) (ms : List Str) (k : D) : look L s = some ms → Few L s k → Kind L (.tuple [.str "map", .str s, k])
theorem kind_f {L : Sets} (G : GL L) (n : Int) (S : List Cell) : ∃ k, Kind L k ∧ fn_u_law_kind [.d (.int n), .d (setsD L)] S = .ok (.d k) S := by
  have hpos : 0 < L.length := by cases L with | nil => exact absurd rfl G.ne | cons a b => simp
  obtain ⟨j, ej, hj⟩ := fmod_nat n L.length hpos
  obtain ⟨p, hp, ep⟩ : ∃ p, p ∈ L ∧ atI (L.map rowD) (j : Int) = some (rowD p) := ⟨L[j], List.getElem_mem hj, atI_nat (by simp [List.getElem?_map, hj])⟩
  have hl := look_of G.nd hp
  obtain ⟨x, ex, hx⟩ : ∃ j : Nat, (n.fdiv 3).fmod 15 = (j : Int) ∧ j < 15 := fmod_nat _ 15 (by decide)
  obtain ⟨y, ey, hy⟩ : ∃ j : Nat, (n.fdiv 3).fmod 3 = (j : Int) ∧ j < 3 := fmod_nat _ 3 (by decide)
  obtain ⟨z, ez, hz⟩ : ∃ j : Nat, (n.fdiv 3).fmod 2 = (j : Int) ∧ j < 2 := fmod_nat _ 2 (by decide)
  obtain ⟨u, eu, hu⟩ : ∃ j : Nat, (n.fdiv 45).fmod 3 = (j : Int) ∧ j < 3 := fmod_nat _ 3 (by decide)
  obtain ⟨w, ew, hw⟩ : ∃ j : Nat, (n.fdiv 135).fmod 7 = (j : Int) ∧ j < 7 := fmod_nat _ 7 (by decide)
  have l1 : oLen (setsD L) = some (.int L.length) := by show some (PyData.int (L.map rowD).length) = _; rw [List.length_map]
  have m1 := mod_at n L.length (by omega)
  rw [ej] at m1
  have i1 : oIx (setsD L) (.int (j : Int)) = some (rowD p) := ep
  have i2 : oIx (rowD p) (.int 0) = some (.str p.1) := atI0 _ _
  have d3 := div_at n 3 (by decide) (by decide)
  have d45 := div_at n 45 (by decide) (by decide)
  have d135 := div_at n 135 (by decide) (by decide)
  have mx := mod_at (n.fdiv 3) 15 (by decide)
  have my := mod_at (n.fdiv 3) 3 (by decide)
  have mz := mod_at (n.fdiv 3) 2 (by decide)
  have mu := mod_at (n.fdiv 45) 3 (by decide)
  have mw := mod_at (n.fdiv 135) 7 (by decide)
  rw [ex] at mx; rw [ey] at my; rw [ez] at mz; rw [eu] at mu; rw [ew] at mw
  have a1 : ∀ q : Nat, oAdd (.int 1) (.int (q : Int)) = some (.int ((q + 1 : Nat) : Int)) := fun q => by
    show some (PyData.int (1 + (q : Int))) = _
    rw [show (1 + (q : Int)) = ((q + 1 : Nat) : Int) by omega]
  let small : List D := [.tuple [.str "num", .int ((x + 1 : Nat) : Int)], .tuple [.str "truth"], .tuple [.str "one", .str p.1], .tuple [.str "num", .int ((y + 1 : Nat) : Int)]]
  obtain ⟨f, hf, ef⟩ : ∃ f, Few L p.1 f ∧ oIx (.list small) (.int ((u + 1 : Nat) : Int)) = some f := by
    match u, hu with
    | 0, _ => exact ⟨_, .truth, rfl⟩
    | 1, _ => exact ⟨_, .one, rfl⟩
    | 2, _ => exact ⟨_, .num (y + 1) (by omega) (by omega), rfl⟩
  let all : List D := small ++ [.tuple [.str "some", .str p.1], .tuple [.str "map", .str p.1, f], .tuple [.str "map", .str p.1, .tuple [.str "num", .int ((z + 1 : Nat) : Int)]]]
  obtain ⟨k, hk, ek⟩ : ∃ k, Kind L k ∧ oIx (.list all) (.int (w : Int)) = some k := by
    match w, hw with
    | 0, _ => exact ⟨_, .num (x + 1) (by omega) (by omega), rfl⟩
    | 1, _ => exact ⟨_, .truth, rfl⟩
    | 2, _ => exact ⟨_, .one _ _ hl, rfl⟩
    | 3, _ => exact ⟨_, .num (y + 1) (by omega) (by omega), rfl⟩
    | 4, _ => exact ⟨_, .some _ _ hl, rfl⟩
    | 5, _ => exact ⟨_, .map _ _ _ hl hf, rfl⟩
    | 6, _ => exact ⟨_, .map _ _ _ hl (.num (z + 1) (by omega) (by omega)), rfl⟩
  have ea : oAdd (.list small) (.list [.tuple [.str "some", .str p.1], .tuple [.str "map", .str p.1, f], .tuple [.str "map", .str p.1, .tuple [.str "num", .int ((z + 1 : Nat) : Int)]]]) = some (.list all) := rfl
  refine ⟨k, hk, body_ok ?_⟩
  show body_u_law_kind [some (.d (.int n)), some (.d (setsD L)), none, none, none] S = _
  unfold body_u_law_kind
  have E2 : ∀ (ρ : Env') (S : List Cell), ρ[0]? = some (some (.d (.int n))) → ρ[1]? = some (some (.d (setsD L))) → dBin oIx (dBin oIx (dVar 1) (dBin oMod (dVar 0) (dFn1 oLen (dVar 1)))) (dC (.int 0)) ρ S = .ok (.d (.str p.1)) S := fun ρ S h0 h1 =>
    dBin_at (dBin_at (dVar_at h1) (dBin_at (dVar_at h0) (dFn1_at (dVar_at h1) rfl l1) rfl rfl m1) rfl rfl i1) rfl rfl rfl i2
  have X : ∀ (ρ : Env') (S : List Cell) (b : Int) (q : Nat), b ≠ 0 → ρ[0]? = some (some (.d (.int n))) → (n.fdiv 3).fmod b = (q : Int) → dBin oAdd (dC (.int 1)) (dBin oMod (dBin oDiv (dVar 0) (dC (.int 3))) (dC (.int b))) ρ S = .ok (.d (.int ((q + 1 : Nat) : Int))) S := fun ρ S b q hb h0 e =>
    dBin_at rfl (dBin_at (dBin_at (dVar_at h0) rfl rfl rfl d3) rfl rfl rfl (mod_at _ b hb)) rfl rfl (by rw [e]; exact a1 q)
  have U : ∀ (ρ : Env') (S : List Cell), ρ[0]? = some (some (.d (.int n))) → dBin oAdd (dC (.int 1)) (dBin oMod (dBin oDiv (dVar 0) (dC (.int 45))) (dC (.int 3))) ρ S = .ok (.d (.int ((u + 1 : Nat) : Int))) S := fun ρ S h0 =>
    dBin_at rfl (dBin_at (dBin_at (dVar_at h0) rfl rfl rfl d45) rfl rfl rfl mu) rfl rfl (a1 u)
  rw [sSeq_nx (sSet_at (E2 _ S rfl rfl))]
  rw [sSeq_nx (sSet_at (dLst_at (dCons_at (dTup_at (dCons_at rfl (dCons_at (X _ S 15 x (by decide) rfl ex) rfl)) rfl (by show 2 ≤ 16777216; decide)) (dCons_at rfl (dCons_at (dTup_at (dCons_at rfl (dCons_at rfl rfl)) rfl (by show 2 ≤ 16777216; decide)) (dCons_at (dTup_at (dCons_at rfl (dCons_at (X _ S 3 y (by decide) rfl ey) rfl)) rfl (by show 2 ≤ 16777216; decide)) rfl)))) rfl (by show 4 ≤ 16777216; decide)))]
  rw [sSeq_nx (sSet_at (dBin_at rfl (dLst_at (dCons_at (dTup_at (dCons_at rfl (dCons_at rfl rfl)) rfl (by show 2 ≤ 16777216; decide)) (dCons_at (dTup_at (dCons_at rfl (dCons_at rfl (dCons_at (dBin_at rfl (U _ S rfl) rfl rfl ef) rfl))) rfl (by show 3 ≤ 16777216; decide)) (dCons_at (dTup_at (dCons_at rfl (dCons_at rfl (dCons_at (dTup_at (dCons_at rfl (dCons_at (X _ S 2 z (by decide) rfl ez) rfl)) rfl (by show 2 ≤ 16777216; decide)) rfl))) rfl (by show 3 ≤ 16777216; decide)) rfl))) rfl (by show 3 ≤ 16777216; decide)) rfl rfl ea))]
  exact sRet_at (dBin_at rfl (dBin_at (dBin_at rfl rfl rfl rfl d135) rfl rfl rfl mw) rfl rfl ek)
end K02
set_option maxRecDepth 100000
set_option maxHeartbeats 2000000
namespace K02
open PySem PySem.Spec PyProof.Rows L2 Zz
section
variable {ρ : Env'} {S S1 S2 S3 T : List Cell} {f g : Env' → M Val} {v u : Val}
theorem pSome_at {i : Int} (h : f ρ S = .ok v S1) (hr : rd S1 v = some (.int i)) : pSome f ρ S = .ok (some i) S1 := by
  unfold pSome
  show (f ρ S).bind _ = _
  rw [h]
  show (match rd S1 v with | some (.int i) => Res.ok (some i) S1 | _ => .st) = _
  rw [hr]
theorem dSl_at {p p' : PtD} {a c : D} {lo hi : Option Int} (h : f ρ S = .ok v S1) (hp : p ρ S1 = .ok lo S2) (hp' : p' ρ S2 = .ok hi S3) (hr : rd S3 v = some a) (e : oSl a lo hi = some c) : dSl f p p' ρ S = .ok (.d c) S3 := by
  unfold dSl
  show (f ρ S).bind _ = _
  rw [h]
  show (p ρ S1).bind _ = _
  rw [hp]
  show (p' ρ S2).bind _ = _
  rw [hp']
  show (match rd S3 v with | some a => (match oSl a lo hi with | some c => Res.ok (Val.d c) S3 | none => .st) | none => .st) = _
  rw [hr]
  show (match oSl a lo hi with | some c => Res.ok (Val.d c) S3 | none => .st) = _
  rw [e]
theorem dLstC_at {g : Env' → M (List Val)} {xs : List Val} {ds : List D} (h : g ρ S = .ok xs S1) (h2 : frzs xs S1 = .ok ds S2) (hz : ds.length ≤ 16777216) : dLstC g ρ S = .ok (.c S2.length) (S2 ++ [.lst ds]) := by
  unfold dLstC
  show (g ρ S).bind _ = _
  rw [h]
  show (frzs xs S1).bind _ = _
  rw [h2]
  show (if ds.length ≤ 16777216 then newCell ds else M.st) S2 = _
  rw [if_pos hz]
  rfl
theorem dAddC_at {xs ys : List D} (h : f ρ S = .ok v S1) (h2 : g ρ S1 = .ok u S2) (hr : rd S2 v = some (.list xs)) (hr2 : rd S2 u = some (.list ys)) (hz : xs.length + ys.length ≤ 16777216) : dAddC f g ρ S = .ok (.c S2.length) (S2 ++ [.lst (xs ++ ys)]) := by
  unfold dAddC
  show (f ρ S).bind _ = _
  rw [h]
  show (g ρ S1).bind _ = _
  rw [h2]
  unfold catM
  simp only [Res.bind, hr, hr2]
  rw [if_pos hz]
  rfl
theorem dApp_at {l : Nat} {d : D} (hf : f ρ S = .ok (.c l) S1) (hi : isLst S1 (.c l) = true) (hg : g ρ S1 = .ok (.d d) S2) (hp : push l d S2 = some T) : dApp f g ρ S = .ok (.d .none) T := by
  unfold dApp
  show (f ρ S).bind _ = _
  rw [hf]
  show (if isLst S1 (.c l) = true then ((g ρ S1).bind fun y => appM (.c l) y) else .st) = _
  rw [if_pos hi, hg]
  show appM (.c l) (.d d) S2 = _
  show ((M.ret d S2).bind fun d S => match push l d S with | some T => Res.ok (Val.d .none) T | none => .st) = _
  show (match push l d S2 with | some T => Res.ok (Val.d .none) T | none => .st) = _
  rw [hp]
end
theorem cut_sub (xs : List D) (lo hi : Option Int) : (Zz.cutD xs lo hi).length ≤ xs.length ∧ ∀ x ∈ Zz.cutD xs lo hi, x ∈ xs := by
  unfold Zz.cutD
  exact ⟨by rw [List.length_take, List.length_drop]; omega, fun x hx => List.mem_of_mem_drop (List.mem_of_mem_take hx)⟩
theorem addT (x y : List D) (h : x.length + y.length ≤ 16777216) : oAdd (.tuple x) (.tuple y) = some (.tuple (x ++ y)) := by
  show (if x.length + y.length ≤ 16777216 then _ else _) = _
  rw [if_pos h]
theorem kind_tidy {L : Sets} (G : GL L) {k : D} (h : Kind L k) : ∃ l, k = .tuple l ∧ 1 ≤ l.length ∧ l.length ≤ 3 ∧ ∀ x ∈ l, Tidy 1 x := by
  have lw : ∀ x : Str, okS x = true → Tidy 1 (.str x) := fun x hx => Tidy.of0 (d := .str x) hx 1
  have li : ∀ i : Nat, i ≤ 15 → Tidy 1 (.int (i : Int)) := fun i hi => Tidy.of0 (d := .int (i : Int)) (by
    have : ∀ i : Nat, i < 16 → okI (i : Int) = true := by decide +kernel
    exact this i (by omega)) 1
  have nm : ∀ s ms, look L s = some ms → okS s = true := fun s ms e => G.nm _ (look_mem e)
  cases h with
  | num i h1 h2 => exact ⟨_, rfl, by simp, by simp, by intro x hx; simp at hx; rcases hx with rfl | rfl; exact lw _ (by decide +kernel); exact li _ (by omega)⟩
  | truth => exact ⟨_, rfl, by simp, by simp, by intro x hx; simp at hx; subst hx; exact lw _ (by decide +kernel)⟩
  | one s ms e => exact ⟨_, rfl, by simp, by simp, by intro x hx; simp at hx; rcases hx with rfl | rfl; exact lw _ (by decide +kernel); exact lw _ (nm _ _ e)⟩
  | some s ms e => exact ⟨_, rfl, by simp, by simp, by intro x hx; simp at hx; rcases hx with rfl | rfl; exact lw _ (by decide +kernel); exact lw _ (nm _ _ e)⟩
  | map s ms k e f =>
    refine ⟨_, rfl, by simp, by simp, fun x hx => ?_⟩
    simp at hx
    rcases hx with rfl | rfl | rfl
    · exact lw _ (by decide +kernel)
    · exact lw _ (nm _ _ e)
    · cases f with
      | num i h1 h2 =>
        refine Tidy.tup (by simp) fun x hx => ?_
        simp at hx
        rcases hx with rfl | rfl
        · exact (by decide +kernel : leafB (.str "num") = true)
        · have : ∀ i : Nat, i < 16 → okI (i : Int) = true := by decide +kernel
          exact this i (by omega)
      | truth =>
        refine Tidy.tup (by simp) fun x hx => ?_
        simp at hx
        subst hx
        exact (by decide +kernel : leafB (.str "truth") = true)
      | one =>
        refine Tidy.tup (by simp) fun x hx => ?_
        simp at hx
        rcases hx with rfl | rfl
        · exact (by decide +kernel : leafB (.str "one") = true)
        · exact nm _ _ e
theorem pow_at (i j : Int) (h0 : 0 ≤ j) (h1 : j ≤ 1000000) (h2 : i.natAbs < 2 ^ 64) : oPow (.int i) (.int j) = some (.int (i ^ j.toNat)) := by
  show (if 0 ≤ j ∧ j ≤ 1000000 ∧ i.natAbs < 2 ^ 64 then some (PyData.int (i ^ j.toNat)) else none) = _
  rw [if_pos ⟨h0, h1, h2⟩]
theorem app_tidy {n : Nat} {x y : List D} (hx : ∀ d ∈ x, Tidy n d) (hy : ∀ d ∈ y, Tidy n d) : ∀ d ∈ x ++ y, Tidy n d := fun d hd => (List.mem_append.mp hd).elim (hx d) (hy d)
theorem odd_kind_f {L : Sets} (G : GL L) {k : D} (hk : Kind L k) (n : Int) (c : Cell) : ∃ t, Tidy 4 t ∧ fn_u_law_odd_kind [.d (.int n), .d (setsD L), .d k] [c] = .ok (.d t) [c] := by
  obtain ⟨l, rfl, hl1, hl3, hl⟩ := kind_tidy G hk
  obtain ⟨p, L', rfl⟩ : ∃ p L', L = p :: L' := by cases L with | nil => exact absurd rfl G.ne | cons p L' => exact ⟨p, L', rfl⟩
  have hp : p ∈ p :: L' := List.mem_cons_self
  obtain ⟨m0, ms, em⟩ : ∃ m0 ms, p.2 = m0 :: ms := by
    have := (G.few p hp).2.1
    cases e : p.2 with
    | nil => exact absurd e this
    | cons a b => exact ⟨a, b, rfl⟩
  have w : ∀ (x : Str) (n : Nat), okS x = true → Tidy n (.str x) := fun x n hx => Tidy.of0 (d := .str x) hx n
  have wi : ∀ (x : Int) (n : Nat), okI x = true → Tidy n (.int x) := fun x n hx => Tidy.of0 (d := .int x) hx n
  have kt : Tidy 2 (.tuple l) := Tidy.tup (by omega) hl
  have wp := w p.1 3 (G.nm p hp)
  obtain ⟨i, ei, hi⟩ : ∃ j : Nat, n.fmod 11 = (j : Int) ∧ j < 11 := fmod_nat _ 11 (by decide)
  let OD : List D := [.none, .int 0, .int 16, .bool true, .int (-1), .str "1", .str "nobody", .tuple [.str "truth"], .int (10 ^ (30 : Int).toNat), .str m0, .list [.tuple l]]
  obtain ⟨odd, ho, eo⟩ : ∃ odd, Tidy 3 odd ∧ oIx (.list OD) (.int (i : Int)) = some odd := by
    match i, hi with
    | 0, _ => exact ⟨_, Tidy.of0 (d := .none) rfl 3, rfl⟩
    | 1, _ => exact ⟨_, wi 0 3 (by decide +kernel), rfl⟩
    | 2, _ => exact ⟨_, wi 16 3 (by decide +kernel), rfl⟩
    | 3, _ => exact ⟨_, Tidy.of0 (d := .bool true) rfl 3, rfl⟩
    | 4, _ => exact ⟨_, wi (-1) 3 (by decide +kernel), rfl⟩
    | 5, _ => exact ⟨_, w "1" 3 (by decide +kernel), rfl⟩
    | 6, _ => exact ⟨_, w "nobody" 3 (by decide +kernel), rfl⟩
    | 7, _ => exact ⟨_, Tidy.tup (by simp) (fun x hx => by simp at hx; subst hx; exact w "truth" 2 (by decide +kernel)), rfl⟩
    | 8, _ => exact ⟨_, wi (10 ^ (30 : Int).toNat) 3 (by decide +kernel), rfl⟩
    | 9, _ => exact ⟨_, w m0 3 (G.el p hp m0 (by rw [em]; exact List.mem_cons_self)), rfl⟩
    | 10, _ => exact ⟨_, Tidy.lst (by simp) (fun x hx => by simp at hx; subst hx; exact kt), rfl⟩
  have hl' : ∀ x ∈ l, Tidy 3 x := fun x hx => (hl x hx).le (by decide)
  have ho' : ∀ x ∈ [odd], Tidy 3 x := fun x hx => by simp at hx; subst hx; exact ho
  have cs := cut_sub l
  have two : ∀ s : Str, okS s = true → Tidy 4 (.tuple [.str s, odd]) := fun s hs => Tidy.tup (by simp) fun x hx => by
    simp at hx
    rcases hx with rfl | rfl
    · exact w s 3 hs
    · exact ho
  let A1 : List D := (Zz.cutD l none (some 1) ++ [odd]) ++ Zz.cutD l (some 2) none
  let A2 : List D := [odd] ++ Zz.cutD l (some 1) none
  have tA1 : Tidy 4 (.tuple A1) := Tidy.tup (by have := (cs none (some 1)).1; have := (cs (some 2) none).1; simp [A1]; omega) (app_tidy (app_tidy (fun x hx => hl' x ((cs _ _).2 x hx)) ho') fun x hx => hl' x ((cs _ _).2 x hx))
  have tA2 : Tidy 4 (.tuple A2) := Tidy.tup (by have := (cs (some 1) none).1; simp [A2]; omega) (app_tidy ho' fun x hx => hl' x ((cs _ _).2 x hx))
  have tA3 : Tidy 4 (.tuple (l ++ [odd])) := Tidy.tup (by simp; omega) (app_tidy hl' ho')
  have tA4 : Tidy 4 (.tuple (Zz.cutD l none (some (-1)))) := Tidy.tup (by have := (cs none (some (-1))).1; omega) fun x hx => hl' x ((cs _ _).2 x hx)
  have tA5 : Tidy 4 (.list l) := Tidy.lst (by omega) hl'
  have tA7 : Tidy 4 (.tuple l.reverse) := Tidy.tup (by rw [List.length_reverse]; omega) fun x hx => hl' x (List.mem_reverse.mp hx)
  let AS : List D := [.tuple A1, .tuple A2, .tuple (l ++ [odd]), .tuple (Zz.cutD l none (some (-1))), .list l, odd, .tuple l.reverse]
  let BS : List D := [.tuple [.str "map", .str p.1, .tuple l], .tuple [.str "map", .str p.1, odd], .tuple [.str "some", odd], .tuple [.str "one", odd], .tuple [.str "num", odd]]
  obtain ⟨u, eu, hu⟩ : ∃ j : Nat, (n.fdiv 11).fmod 13 = (j : Int) ∧ j < 13 := fmod_nat _ 13 (by decide)
  obtain ⟨t, ht, et⟩ : ∃ t, Tidy 4 t ∧ oIx (.list ((AS ++ BS) ++ [.tuple [.str "truth", odd]])) (.int (u : Int)) = some t := by
    match u, hu with
    | 0, _ => exact ⟨_, tA1, rfl⟩
    | 1, _ => exact ⟨_, tA2, rfl⟩
    | 2, _ => exact ⟨_, tA3, rfl⟩
    | 3, _ => exact ⟨_, tA4, rfl⟩
    | 4, _ => exact ⟨_, tA5, rfl⟩
    | 5, _ => exact ⟨_, ho.up, rfl⟩
    | 6, _ => exact ⟨_, tA7, rfl⟩
    | 7, _ => exact ⟨_, Tidy.tup (by simp) (fun x hx => by simp at hx; rcases hx with rfl | rfl | rfl; exact w "map" 3 (by decide +kernel); exact wp; exact kt.up), rfl⟩
    | 8, _ => exact ⟨_, Tidy.tup (by simp) (fun x hx => by simp at hx; rcases hx with rfl | rfl | rfl; exact w "map" 3 (by decide +kernel); exact wp; exact ho), rfl⟩
    | 9, _ => exact ⟨_, two "some" (by decide +kernel), rfl⟩
    | 10, _ => exact ⟨_, two "one" (by decide +kernel), rfl⟩
    | 11, _ => exact ⟨_, two "num" (by decide +kernel), rfl⟩
    | 12, _ => exact ⟨_, two "truth" (by decide +kernel), rfl⟩
  refine ⟨t, ht, ?_⟩
  let S0 : List Cell := [c]
  let ρ0 : Env' := [some (.d (.int n)), some (.d (setsD (p :: L'))), some (.d (.tuple l)), none, none]
  let ρ1 : Env' := [some (.d (.int n)), some (.d (setsD (p :: L'))), some (.d (.tuple l)), some (.d odd), none]
  have h0 : ∀ (o o' : Option Val) (S : List Cell), dBin oIx (dBin oIx (dVar 1) (dC (.int 0))) (dC (.int 0)) [some (.d (.int n)), some (.d (setsD (p :: L'))), some (.d (.tuple l)), o, o'] S = .ok (.d (.str p.1)) S := fun o o' S => dBin_at (x := rowD p) (dBin_at (x := setsD (p :: L')) rfl rfl rfl rfl (atI0 _ _)) rfl rfl rfl (atI0 _ _)
  have hm0 : dBin oIx (dBin oIx (dBin oIx (dVar 1) (dC (.int 0))) (dC (.int 1))) (dC (.int 0)) ρ0 S0 = .ok (.d (.str m0)) S0 :=
    dBin_at (x := .tuple (p.2.map .str)) (dBin_at (x := rowD p) (dBin_at (x := setsD (p :: L')) rfl rfl rfl rfl (atI0 _ _)) rfl rfl rfl (atI1 _ _ _)) rfl rfl rfl (by rw [em]; exact atI0 _ _)
  have pw : oPow (.int 10) (.int 30) = some (.int (10 ^ (30 : Int).toNat)) := pow_at 10 30 (by decide) (by decide) (by decide)
  have st1 : (sSet 3 (dBin oIx (dLst (dCons (dC (.none)) (dCons (dC (.int 0)) (dCons (dC (.int 16)) (dCons (dC (.bool true)) (dCons (dFn1 oNeg (dC (.int 1))) (dCons (dC (.str "1")) (dCons (dC (.str "nobody")) (dCons (dTup (dCons (dC (.str "truth")) dNil)) (dCons (dBin oPow (dC (.int 10)) (dC (.int 30))) (dCons (dBin oIx (dBin oIx (dBin oIx (dVar 1) (dC (.int 0))) (dC (.int 1))) (dC (.int 0))) (dCons (dLst (dCons (dVar 2) dNil)) dNil)))))))))))) (dBin oMod (dVar 0) (dC (.int 11))))) ρ0 S0 = .nx ρ1 S0 := sSet_at (dBin_at (dLst_at (ds := OD) (dCons_at rfl (dCons_at rfl (dCons_at rfl (dCons_at rfl (dCons_at rfl (dCons_at rfl (dCons_at rfl (dCons_at (dTup_at (dCons_at rfl rfl) rfl (by show 1 ≤ 16777216; decide)) (dCons_at (dBin_at rfl rfl rfl rfl pw) (dCons_at hm0 (dCons_at (dLst_at (dCons_at rfl rfl) rfl (by show 1 ≤ 16777216; decide)) rfl))))))))))) rfl (by show 11 ≤ 16777216; decide)) (dBin_at rfl rfl rfl rfl (mod_at n 11 (by decide))) rfl rfl (by rw [ei]; exact eo))
  have lc := fun a b => (cs a b).1
  have st2 : (sSet 4 (dLstC (dCons (dBin oAdd (dBin oAdd (dSl (dVar 2) pNone (pSome (dC (.int 1)))) (dTup (dCons (dVar 3) dNil))) (dSl (dVar 2) (pSome (dC (.int 2))) pNone)) (dCons (dBin oAdd (dTup (dCons (dVar 3) dNil)) (dSl (dVar 2) (pSome (dC (.int 1))) pNone)) (dCons (dBin oAdd (dVar 2) (dTup (dCons (dVar 3) dNil))) (dCons (dSl (dVar 2) pNone (pSome (dFn1 oNeg (dC (.int 1))))) (dCons (dFn1 oList (dVar 2)) (dCons (dVar 3) (dCons (dFn1 oRev (dVar 2)) dNil))))))))) ρ1 S0 = .nx (ρ1.set 4 (some (.c 1))) [c, .lst AS] := by
    have c1 := lc none (some 1)
    have c2 := lc (some 2) none
    have c3 := lc (some 1) none
    refine sSet_at (v := .c 1) (dLstC_at (S2 := S0) (ds := AS) (dCons_at (dBin_at (dBin_at (dSl_at rfl rfl (pSome_at rfl rfl) rfl rfl) (dTup_at (dCons_at rfl rfl) rfl (by show 1 ≤ 16777216; decide)) rfl rfl (addT _ _ (by simp; omega))) (dSl_at rfl (pSome_at rfl rfl) rfl rfl rfl) rfl rfl (addT _ _ (by simp; omega)))
      (dCons_at (dBin_at (dTup_at (dCons_at rfl rfl) rfl (by show 1 ≤ 16777216; decide)) (dSl_at rfl (pSome_at rfl rfl) rfl rfl rfl) rfl rfl (addT _ _ (by simp; omega)))
      (dCons_at (dBin_at rfl (dTup_at (dCons_at rfl rfl) rfl (by show 1 ≤ 16777216; decide)) rfl rfl (addT _ _ (by simp; omega)))
      (dCons_at (dSl_at rfl rfl (pSome_at rfl rfl) rfl rfl) (dCons_at rfl (dCons_at rfl (dCons_at rfl rfl))))))) rfl (by show 7 ≤ 16777216; decide))
  have tup3 : ∀ (x : D) (f : Env' → M Val) (ρ : Env') (S : List Cell), f ρ S = .ok (.d x) S → (∃ o o', ρ = [some (.d (.int n)), some (.d (setsD (p :: L'))), some (.d (.tuple l)), o, o']) → dTup (dCons (dC (.str "map")) (dCons (dBin oIx (dBin oIx (dVar 1) (dC (.int 0))) (dC (.int 0))) (dCons f dNil))) ρ S = .ok (.d (.tuple [.str "map", .str p.1, x])) S := fun x f ρ S hf ⟨o, o', e⟩ => by
    subst e
    exact dTup_at (dCons_at rfl (dCons_at (h0 _ _ _) (dCons_at hf rfl))) rfl (by show 3 ≤ 16777216; decide)
  have st3 : (sSet 4 (dAddC (dVar 4) (dLst (dCons (dTup (dCons (dC (.str "map")) (dCons (dBin oIx (dBin oIx (dVar 1) (dC (.int 0))) (dC (.int 0))) (dCons (dVar 2) dNil)))) (dCons (dTup (dCons (dC (.str "map")) (dCons (dBin oIx (dBin oIx (dVar 1) (dC (.int 0))) (dC (.int 0))) (dCons (dVar 3) dNil)))) (dCons (dTup (dCons (dC (.str "some")) (dCons (dVar 3) dNil))) (dCons (dTup (dCons (dC (.str "one")) (dCons (dVar 3) dNil))) (dCons (dTup (dCons (dC (.str "num")) (dCons (dVar 3) dNil))) dNil)))))))) (ρ1.set 4 (some (.c 1))) [c, .lst AS] = .nx (ρ1.set 4 (some (.c 2))) [c, .lst AS, .lst (AS ++ BS)] :=
    sSet_at (v := .c 2) (dAddC_at (S1 := [c, .lst AS]) (S2 := [c, .lst AS]) (xs := AS) (ys := BS) rfl (dLst_at (ds := BS) (dCons_at (tup3 (.tuple l) _ _ _ rfl ⟨_, _, rfl⟩) (dCons_at (tup3 odd _ _ _ rfl ⟨_, _, rfl⟩) (dCons_at (dTup_at (ds := [.str "some", odd]) (dCons_at rfl (dCons_at rfl rfl)) rfl (by show 2 ≤ 16777216; decide)) (dCons_at (dTup_at (ds := [.str "one", odd]) (dCons_at rfl (dCons_at rfl rfl)) rfl (by show 2 ≤ 16777216; decide)) (dCons_at (dTup_at (ds := [.str "num", odd]) (dCons_at rfl (dCons_at rfl rfl)) rfl (by show 2 ≤ 16777216; decide)) rfl))))) rfl (by show 5 ≤ 16777216; decide)) rfl rfl (by show 7 + 5 ≤ 16777216; decide))
  have st4 : (sExpr (dApp (dVar 4) (dTup (dCons (dC (.str "truth")) (dCons (dVar 3) dNil))))) (ρ1.set 4 (some (.c 2))) [c, .lst AS, .lst (AS ++ BS)] = .nx (ρ1.set 4 (some (.c 2))) [c, .lst AS, .lst ((AS ++ BS) ++ [.tuple [.str "truth", odd]])] :=
    sExpr_at (v := .d .none) (dApp_at (l := 2) rfl rfl (dTup_at (dCons_at rfl (dCons_at rfl rfl)) rfl (by show 2 ≤ 16777216; decide)) rfl)
  have key : body_u_law_odd_kind ρ0 S0 = .rt (.d t) [c, .lst AS, .lst ((AS ++ BS) ++ [.tuple [.str "truth", odd]])] := by
    unfold body_u_law_odd_kind
    rw [sSeq_nx st1, sSeq_nx st2, sSeq_nx st3, sSeq_nx st4]
    exact sRet_at (dBin_at rfl (dBin_at (dBin_at rfl rfl rfl rfl (div_at n 11 (by decide) (by decide))) rfl rfl rfl (mod_at _ 13 (by decide))) rfl rfl (by rw [eu]; exact et))
  exact body_rt (np := 3) (nl := 5) (b := body_u_law_odd_kind) (as := [.d (.int n), .d (setsD (p :: L')), .d (.tuple l)]) (S := [c]) rfl key
end K02
set_option maxRecDepth 100000
set_option maxHeartbeats 2000000
namespace K02
open PySem PySem.Spec PyProof.Rows L2 Zz
def tups (R : List (List D)) : List D := R.map .tuple
def ext (R : List (List D)) (o : D) : List (List D) := R.map fun r => r ++ [o]
def step (b : Bool) (vals : List D) (R : List (List D)) (m : D) : List (List D) := (if b then R else []) ++ (if b then [m] else vals).flatMap (ext R)
def innerB : SD := (sSet 2 (dBin oAdd (dVar 2) (dLc (itAny (dVar 4)) (toName 6) (fun l => kTest (fun _ => M.ret true) (kPush l (dBin oAdd (dVar 6) (dTup (dCons (dVar 5) dNil))))) [6])))
def outerB : SD := sSeq ((sPar 4 2 (dCons (dVar 2) (dCons (dIf (toB (dBin oEq (dBin oIx (dVar 1) (dC (.int 0))) (dC (.str "some")))) (dFn1 oList (dVar 2)) (dLst dNil)) dNil)))) (sFor ((itAny (dIf (toB (dBin oEq (dBin oIx (dVar 1) (dC (.int 0))) (dC (.str "some")))) (dLst (dCons (dVar 3) dNil)) (dCall fn_u_law_values (dCons (dVar 0) (dCons (dBin oIx (dVar 1) (dC (.int 2))) dNil)))))) (toName 5) innerB)
theorem comp_row (s k f n o w : D) (R : List (List D)) (hR : R.length ≤ 16777216) (hr : ∀ r ∈ R, r.length ≤ 1000) (x : Option Val) (S : List Cell) :
    (dLc (itAny (dVar 4)) (toName 6) (fun l => kTest (fun _ => M.ret true) (kPush l (dBin oAdd (dVar 6) (dTup (dCons (dVar 5) dNil))))) [6]) [some (.d s), some (.d k), some (.d f), some (.d n), some (.d (.list (tups R))), some (.d o), x] S = .ok (.d (.list (tups (ext R o)))) S := by
  have hit : itAny (dVar 4) [some (.d s), some (.d k), some (.d f), some (.d n), some (.d (.list (tups R))), some (.d o), x] S = .ok (tups R) S := itAny_at (d := .list (tups R)) rfl rfl
  rw [dLc_pure (ρ1 := fun d => [some (.d s), some (.d k), some (.d f), some (.d n), some (.d (.list (tups R))), some (.d o), some (.d d)]) (p := fun _ => true) (v := fun d => match d with | .tuple r => .tuple (r ++ [o]) | d => d) hit (by unfold tups; rw [List.length_map]; exact hR) (fun d _ => rfl) (fun d _ R => rfl) fun d hd _ R' => ?_]
  · rw [filter_yes]
    unfold tups ext
    rw [List.map_map, List.map_map]
    rfl
  · obtain ⟨r, hr', rfl⟩ := List.mem_map.mp hd
    have := hr r hr'
    exact dBin_at rfl (dTup_at (dCons_at rfl rfl) rfl (by show 1 ≤ 16777216; decide)) rfl rfl (addT _ _ (by simp; omega))
theorem inner_f (s k n : D) (R : List (List D)) (hr : ∀ r ∈ R, r.length ≤ 1000) (S : List Cell) : ∀ (os : List D) (acc : List (List D)) (o x : Option Val), acc.length + os.length * R.length ≤ 100000 → R.length ≤ 100000 →
    ∃ o' x', forGo (toName 5) innerB os [some (.d s), some (.d k), some (.d (.list (tups acc))), some (.d n), some (.d (.list (tups R))), o, x] S
      = .nx [some (.d s), some (.d k), some (.d (.list (tups (acc ++ os.flatMap (ext R))))), some (.d n), some (.d (.list (tups R))), o', x'] S
  | [], acc, o, x, _, _ => ⟨o, x, by rw [List.flatMap_nil, List.append_nil]; rfl⟩
  | a :: os, acc, o, x, h, h2 => by
    rw [List.length_cons, Nat.succ_mul] at h
    have le : (ext R a).length = R.length := by unfold ext; rw [List.length_map]
    obtain ⟨o', x', e⟩ := inner_f s k n R hr S os (acc ++ ext R a) (some (.d a)) x (by rw [List.length_append, le]; omega) h2
    refine ⟨o', x', ?_⟩
    rw [forGo]
    have t1 : innerB [some (.d s), some (.d k), some (.d (.list (tups acc))), some (.d n), some (.d (.list (tups R))), some (.d a), x] S
        = .nx [some (.d s), some (.d k), some (.d (.list (tups (acc ++ ext R a)))), some (.d n), some (.d (.list (tups R))), some (.d a), x] S := by
      refine sSet_at (dBin_at rfl (comp_row s k (.list (tups acc)) n a a R (by omega) hr x S) rfl rfl ?_)
      have la : (tups acc).length = acc.length := by unfold tups; rw [List.length_map]
      have lb : (tups (ext R a)).length = R.length := by unfold tups; rw [List.length_map, le]
      show (if (tups acc).length + (tups (ext R a)).length ≤ 16777216 then some (PyData.list (tups acc ++ tups (ext R a))) else none) = _
      rw [if_pos (by omega)]
      unfold tups
      rw [List.map_append]
    show (match innerB [some (.d s), some (.d k), some (.d (.list (tups acc))), some (.d n), some (.d (.list (tups R))), some (.d a), x] S with | .nx ρ2 S2 => forGo (toName 5) innerB os ρ2 S2 | .ct ρ2 S2 => forGo (toName 5) innerB os ρ2 S2 | .bk ρ2 S2 => .nx ρ2 S2 | .rt v S2 => .rt v S2 | .ex x ρ2 S2 => .ex x ρ2 S2 | .st => .st) = _
    rw [t1]
    show forGo (toName 5) innerB os _ S = _
    rw [e, List.flatMap_cons, List.append_assoc]
theorem outer_f {L : Sets} (k : D) (b : Bool) (vals : List D) (S : List Cell)
    (hk : ∀ (o2 o3 o4 o5 o6 : Option Val), toB (dBin oEq (dBin oIx (dVar 1) (dC (.int 0))) (dC (.str "some"))) [some (.d (setsD L)), some (.d k), o2, o3, o4, o5, o6] S = .ok b S)
    (hv : b = false → ∀ (o2 o3 o4 o5 o6 : Option Val), dCall fn_u_law_values (dCons (dVar 0) (dCons (dBin oIx (dVar 1) (dC (.int 2))) dNil)) [some (.d (setsD L)), some (.d k), o2, o3, o4, o5, o6] S = .ok (.d (.list vals)) S)
    (R : List (List D)) (m : D) (hR : R.length ≤ 1000) (hr : ∀ r ∈ R, r.length ≤ 1000) (hl : vals.length ≤ 20) (o4 o5 o6 : Option Val) :
    ∃ o5' o6', outerB [some (.d (setsD L)), some (.d k), some (.d (.list (tups R))), some (.d m), o4, o5, o6] S = .nx [some (.d (setsD L)), some (.d k), some (.d (.list (tups (step b vals R m)))), some (.d m), some (.d (.list (tups R))), o5', o6'] S := by
  have e1 : (sPar 4 2 (dCons (dVar 2) (dCons (dIf (toB (dBin oEq (dBin oIx (dVar 1) (dC (.int 0))) (dC (.str "some")))) (dFn1 oList (dVar 2)) (dLst dNil)) dNil))) [some (.d (setsD L)), some (.d k), some (.d (.list (tups R))), some (.d m), o4, o5, o6] S = .nx [some (.d (setsD L)), some (.d k), some (.d (.list (tups (if b then R else [])))), some (.d m), some (.d (.list (tups R))), o5, o6] S := by
    have z := hk (some (.d (.list (tups R)))) (some (.d m)) o4 o5 o6
    cases b
    · have q : dIf (toB (dBin oEq (dBin oIx (dVar 1) (dC (.int 0))) (dC (.str "some")))) (dFn1 oList (dVar 2)) (dLst dNil) [some (.d (setsD L)), some (.d k), some (.d (.list (tups R))), some (.d m), o4, o5, o6] S = .ok (.d (.list [])) S := (dIf_f z).trans rfl
      unfold sPar
      rw [dCons_at (S1 := S) (x := .d (.list (tups R))) rfl (dCons_at q rfl)]
      rfl
    · have q : dIf (toB (dBin oEq (dBin oIx (dVar 1) (dC (.int 0))) (dC (.str "some")))) (dFn1 oList (dVar 2)) (dLst dNil) [some (.d (setsD L)), some (.d k), some (.d (.list (tups R))), some (.d m), o4, o5, o6] S = .ok (.d (.list (tups R))) S := (dIf_t z).trans rfl
      unfold sPar
      rw [dCons_at (S1 := S) (x := .d (.list (tups R))) rfl (dCons_at q rfl)]
      rfl
  have e2 : (itAny (dIf (toB (dBin oEq (dBin oIx (dVar 1) (dC (.int 0))) (dC (.str "some")))) (dLst (dCons (dVar 3) dNil)) (dCall fn_u_law_values (dCons (dVar 0) (dCons (dBin oIx (dVar 1) (dC (.int 2))) dNil))))) [some (.d (setsD L)), some (.d k), some (.d (.list (tups (if b then R else [])))), some (.d m), some (.d (.list (tups R))), o5, o6] S = .ok (if b then [m] else vals) S := by
    have z := hk (some (.d (.list (tups (if b then R else []))))) (some (.d m)) (some (.d (.list (tups R)))) o5 o6
    cases b
    · exact itAny_at (d := .list vals) ((dIf_f z).trans (hv rfl _ _ _ _ _)) rfl
    · exact itAny_at (d := .list [m]) ((dIf_t z).trans rfl) rfl
  have hn : (if b then R else []).length + (if b then [m] else vals).length * R.length ≤ 100000 := by
    cases b
    · show 0 + vals.length * R.length ≤ 100000
      have := Nat.mul_le_mul hl hR
      omega
    · show R.length + 1 * R.length ≤ 100000
      omega
  obtain ⟨o5', o6', e3⟩ := inner_f (setsD L) k m R hr S (if b then [m] else vals) (if b then R else []) o5 o6 hn (by omega)
  refine ⟨o5', o6', ?_⟩
  unfold outerB
  rw [sSeq_nx e1, sFor_at e2]
  exact e3
theorem step_len (b : Bool) (vals : List D) (hl : vals.length ≤ 4) (R : List (List D)) (m : D) : (step b vals R m).length ≤ 4 * R.length := by
  have fl : ∀ os : List D, (os.flatMap (ext R)).length = os.length * R.length := fun os => by
    induction os with
    | nil => simp
    | cons a os ih => rw [List.flatMap_cons, List.length_append, ih, List.length_cons, Nat.succ_mul]; unfold ext; rw [List.length_map]; omega
  unfold step
  rw [List.length_append, fl]
  cases b
  · have := Nat.mul_le_mul_right R.length hl
    show 0 + vals.length * R.length ≤ _
    omega
  · show R.length + 1 * R.length ≤ _
    omega
theorem step_row (b : Bool) (vals : List D) (R : List (List D)) (m : D) (n : Nat) (h : ∀ r ∈ R, r.length ≤ n) : ∀ r ∈ step b vals R m, r.length ≤ n + 1 := by
  intro r hr
  unfold step at hr
  rcases List.mem_append.mp hr with hr | hr
  · cases b
    · cases hr
    · have := h r hr; omega
  · obtain ⟨o, _, hr⟩ := List.mem_flatMap.mp hr
    obtain ⟨r', hr', rfl⟩ := List.mem_map.mp hr
    have := h r' hr'
    simp
    omega
theorem outers_f {L : Sets} (k : D) (b : Bool) (vals : List D) (S : List Cell)
    (hk : ∀ (o2 o3 o4 o5 o6 : Option Val), toB (dBin oEq (dBin oIx (dVar 1) (dC (.int 0))) (dC (.str "some"))) [some (.d (setsD L)), some (.d k), o2, o3, o4, o5, o6] S = .ok b S)
    (hv : b = false → ∀ (o2 o3 o4 o5 o6 : Option Val), dCall fn_u_law_values (dCons (dVar 0) (dCons (dBin oIx (dVar 1) (dC (.int 2))) dNil)) [some (.d (setsD L)), some (.d k), o2, o3, o4, o5, o6] S = .ok (.d (.list vals)) S)
    (hl : vals.length ≤ 4) : ∀ (ms : List D) (i : Nat) (R : List (List D)) (o3 o4 o5 o6 : Option Val), i + ms.length ≤ 4 → R.length ≤ 4 ^ i → (∀ r ∈ R, r.length ≤ i) →
    ∃ o3' o4' o5' o6', forGo (toName 3) outerB ms [some (.d (setsD L)), some (.d k), some (.d (.list (tups R))), o3, o4, o5, o6] S = .nx [some (.d (setsD L)), some (.d k), some (.d (.list (tups (ms.foldl (step b vals) R)))), o3', o4', o5', o6'] S
  | [], _, R, o3, o4, o5, o6, _, _, _ => ⟨o3, o4, o5, o6, rfl⟩
  | m :: ms, i, R, o3, o4, o5, o6, hi, h1, h2 => by
    rw [List.length_cons] at hi
    have p4 : 4 ^ i ≤ 64 := by
      have : ∀ i, i < 4 → 4 ^ i ≤ 64 := by decide
      exact this i (by omega)
    obtain ⟨o5', o6', e⟩ := outer_f k b vals S hk hv R m (by omega) (fun r hr => by have := h2 r hr; omega) (by omega) o4 o5 o6
    have h3 := step_len b vals hl R m
    obtain ⟨q3, q4, q5, q6, e2⟩ := outers_f k b vals S hk hv hl ms (i + 1) (step b vals R m) (some (.d m)) (some (.d (.list (tups R)))) o5' o6' (by omega) (by rw [Nat.pow_succ]; omega) (step_row b vals R m i h2)
    refine ⟨q3, q4, q5, q6, ?_⟩
    rw [forGo]
    show (match outerB [some (.d (setsD L)), some (.d k), some (.d (.list (tups R))), some (.d m), o4, o5, o6] S with | .nx ρ2 S2 => forGo (toName 3) outerB ms ρ2 S2 | .ct ρ2 S2 => forGo (toName 3) outerB ms ρ2 S2 | .bk ρ2 S2 => .nx ρ2 S2 | .rt v S2 => .rt v S2 | .ex x ρ2 S2 => .ex x ρ2 S2 | .st => .st) = _
    rw [e]
    exact e2
theorem few_small {L : Sets} {s : Str} {ms : List Str} {k : D} (h : Few L s k) (e : look L s = some ms) : smallD L k = true := by
  cases h with
  | num i h1 h2 => simp [smallD, h1]; omega
  | truth => simp [smallD]
  | one =>
    have z := look_some s L
    rw [e] at z
    have z2 : s ∈ names L := of_decide_eq_true z.symm
    simp [smallD, lits, hasD, z2]
theorem few_vals {L : Sets} (G : GL L) {s : Str} {ms : List Str} {k : D} (h : Few L s k) (e : look L s = some ms) : (valsD L k).length ≤ 4 := by
  cases h with
  | num i h1 h2 => simp [valsD, rgD]; omega
  | truth => simp [valsD]
  | one =>
    have := (G.few _ (look_mem e)).1
    simp [valsD, lits, e]
    exact this
/-- all values of a kind -/
def allD (L : Sets) : D → List D
  | .tuple [.str t, .str s] => if t = "some" then tups ((((look L s).getD []).map .str).foldl (step true []) [[]]) else valsD L (.tuple [.str t, .str s])
  | .tuple [.str t, .str s, k] => if t = "map" then tups ((((look L s).getD []).map .str).foldl (step false (valsD L k)) [[]]) else []
  | d => valsD L d
end K02
set_option maxRecDepth 100000
set_option maxHeartbeats 2000000
namespace K02
open PySem PySem.Spec PyProof.Rows L2 Zz
theorem all_some {L : Sets} (G : GL L) (s : Str) (ms : List Str) (e : look L s = some ms) (S : List Cell) : body_u_law_all_values [some (.d (setsD L)), some (.d (.tuple [.str "some", .str s])), none, none, none, none, none] S = .rt (.d (.list (allD L (.tuple [.str "some", .str s])))) S := by
  have m := look_mem e
  have f := G.few _ m
  obtain ⟨o3, o4, o5, o6, e4⟩ := outers_f (L := L) (.tuple [.str "some", .str s]) true [] S (fun o2 o3 o4 o5 o6 => by simp [Zz.iteA, Zz.sSeq, Zz.sIf, Zz.sRet, Zz.sNil, Zz.sSet, Zz.sExpr, Zz.sRetN, Zz.sAsg, Zz.toTup, Zz.toCons, Zz.toNil, Zz.toName, Zz.tOrD, Zz.tAndD, Zz.tNotD, Zz.toB, Zz.toBr, Zz.toT, Zz.truD, Zz.dFn1, Zz.on1, Zz.dVar, Zz.dBin, Zz.on2, Zz.dChain, Zz.dNot, Zz.dAnd, Zz.dOr, Zz.dIf, Zz.dTup, Zz.dLst, Zz.dNil, Zz.dCons, Zz.frzs, Zz.dCall, Zz.oLe, Zz.oLt, Zz.oGt, Zz.oGe, Zz.oCmp, oIx, atI0, eqS]) (fun z => nomatch z) (by simp) (ms.map .str) 0 [[]] none none none none (by simp; exact f.1) (by simp) (by simp)
  have e1 : (sIf (toB (dBin oNotIn (dBin oIx (dVar 1) (dC (.int 0))) (dTup (dCons (dC (.str "some")) (dCons (dC (.str "map")) dNil))))) (sRet (dCall fn_u_law_values (dCons (dVar 0) (dCons (dVar 1) dNil)))) sNil) [some (.d (setsD L)), some (.d (.tuple [.str "some", .str s])), none, none, none, none, none] S = .nx [some (.d (setsD L)), some (.d (.tuple [.str "some", .str s])), none, none, none, none, none] S := by simp [Zz.iteA, Zz.sSeq, Zz.sIf, Zz.sRet, Zz.sNil, Zz.sSet, Zz.sExpr, Zz.sRetN, Zz.sAsg, Zz.toTup, Zz.toCons, Zz.toNil, Zz.toName, Zz.tOrD, Zz.tAndD, Zz.tNotD, Zz.toB, Zz.toBr, Zz.toT, Zz.truD, Zz.dFn1, Zz.on1, Zz.dVar, Zz.dBin, Zz.on2, Zz.dChain, Zz.dNot, Zz.dAnd, Zz.dOr, Zz.dIf, Zz.dTup, Zz.dLst, Zz.dNil, Zz.dCons, Zz.frzs, Zz.dCall, Zz.oLe, Zz.oLt, Zz.oGt, Zz.oGe, Zz.oCmp, oIx, atI0, notSM, lits]
  have e2 : (sSet 2 (dLst (dCons (dTup dNil) dNil))) [some (.d (setsD L)), some (.d (.tuple [.str "some", .str s])), none, none, none, none, none] S = .nx [some (.d (setsD L)), some (.d (.tuple [.str "some", .str s])), some (.d (.list (tups [[]]))), none, none, none, none] S := sSet_at (dLst_at (ds := [.tuple []]) (dCons_at (dTup_at (ds := []) rfl rfl (by show 0 ≤ 16777216; decide)) rfl) rfl (by show 1 ≤ 16777216; decide))
  have e3 : (itAny (dBin oIx (dFn1 oDictOf (dVar 0)) (dBin oIx (dVar 1) (dC (.int 1))))) [some (.d (setsD L)), some (.d (.tuple [.str "some", .str s])), some (.d (.list (tups [[]]))), none, none, none, none] S = .ok (ms.map .str) S :=
    itAny_at (d := .tuple (ms.map .str)) (dBin_at (dFn1_at rfl rfl (dict_f L G.nd)) (dBin_at rfl rfl rfl rfl (atI1 _ _ _)) rfl rfl (by rw [ixK, e]; rfl)) rfl
  have ea : allD L (.tuple [.str "some", .str s]) = tups ((ms.map PyData.str).foldl (step true []) [[]]) := by simp [allD, e]
  rw [ea]
  show sSeq (sIf (toB (dBin oNotIn (dBin oIx (dVar 1) (dC (.int 0))) (dTup (dCons (dC (.str "some")) (dCons (dC (.str "map")) dNil))))) (sRet (dCall fn_u_law_values (dCons (dVar 0) (dCons (dVar 1) dNil)))) sNil) (sSeq (sSet 2 (dLst (dCons (dTup dNil) dNil))) (sSeq (sFor (itAny (dBin oIx (dFn1 oDictOf (dVar 0)) (dBin oIx (dVar 1) (dC (.int 1))))) (toName 3) outerB) (sRet (dVar 2)))) _ S = _
  rw [sSeq_nx e1, sSeq_nx e2, sSeq_nx ((sFor_at e3).trans e4)]
  rfl
theorem all_map {L : Sets} (G : GL L) (s : Str) (ms : List Str) (k : D) (e : look L s = some ms) (fw : Few L s k) (S : List Cell) : body_u_law_all_values [some (.d (setsD L)), some (.d (.tuple [.str "map", .str s, k])), none, none, none, none, none] S = .rt (.d (.list (allD L (.tuple [.str "map", .str s, k])))) S := by
  have m := look_mem e
  have f := G.few _ m
  have hs := few_small fw e
  have v := law_values_f L G.nd k hs
  obtain ⟨o3, o4, o5, o6, e4⟩ := outers_f (L := L) (.tuple [.str "map", .str s, k]) false (valsD L k) S (fun o2 o3 o4 o5 o6 => by simp [Zz.iteA, Zz.sSeq, Zz.sIf, Zz.sRet, Zz.sNil, Zz.sSet, Zz.sExpr, Zz.sRetN, Zz.sAsg, Zz.toTup, Zz.toCons, Zz.toNil, Zz.toName, Zz.tOrD, Zz.tAndD, Zz.tNotD, Zz.toB, Zz.toBr, Zz.toT, Zz.truD, Zz.dFn1, Zz.on1, Zz.dVar, Zz.dBin, Zz.on2, Zz.dChain, Zz.dNot, Zz.dAnd, Zz.dOr, Zz.dIf, Zz.dTup, Zz.dLst, Zz.dNil, Zz.dCons, Zz.frzs, Zz.dCall, Zz.oLe, Zz.oLt, Zz.oGt, Zz.oGe, Zz.oCmp, oIx, atI0, eqS, lits]) (fun z o2 o3 o4 o5 o6 => (dCall_at (dCons_at rfl (dCons_at (dBin_at rfl rfl rfl rfl (atI2 _ _ _ _)) rfl))).trans (v S)) (few_vals G fw e) (ms.map .str) 0 [[]] none none none none (by simp; exact f.1) (by simp) (by simp)
  have e1 : (sIf (toB (dBin oNotIn (dBin oIx (dVar 1) (dC (.int 0))) (dTup (dCons (dC (.str "some")) (dCons (dC (.str "map")) dNil))))) (sRet (dCall fn_u_law_values (dCons (dVar 0) (dCons (dVar 1) dNil)))) sNil) [some (.d (setsD L)), some (.d (.tuple [.str "map", .str s, k])), none, none, none, none, none] S = .nx [some (.d (setsD L)), some (.d (.tuple [.str "map", .str s, k])), none, none, none, none, none] S := by simp [Zz.iteA, Zz.sSeq, Zz.sIf, Zz.sRet, Zz.sNil, Zz.sSet, Zz.sExpr, Zz.sRetN, Zz.sAsg, Zz.toTup, Zz.toCons, Zz.toNil, Zz.toName, Zz.tOrD, Zz.tAndD, Zz.tNotD, Zz.toB, Zz.toBr, Zz.toT, Zz.truD, Zz.dFn1, Zz.on1, Zz.dVar, Zz.dBin, Zz.on2, Zz.dChain, Zz.dNot, Zz.dAnd, Zz.dOr, Zz.dIf, Zz.dTup, Zz.dLst, Zz.dNil, Zz.dCons, Zz.frzs, Zz.dCall, Zz.oLe, Zz.oLt, Zz.oGt, Zz.oGe, Zz.oCmp, oIx, atI0, notSM, lits]
  have e2 : (sSet 2 (dLst (dCons (dTup dNil) dNil))) [some (.d (setsD L)), some (.d (.tuple [.str "map", .str s, k])), none, none, none, none, none] S = .nx [some (.d (setsD L)), some (.d (.tuple [.str "map", .str s, k])), some (.d (.list (tups [[]]))), none, none, none, none] S := sSet_at (dLst_at (ds := [.tuple []]) (dCons_at (dTup_at (ds := []) rfl rfl (by show 0 ≤ 16777216; decide)) rfl) rfl (by show 1 ≤ 16777216; decide))
  have e3 : (itAny (dBin oIx (dFn1 oDictOf (dVar 0)) (dBin oIx (dVar 1) (dC (.int 1))))) [some (.d (setsD L)), some (.d (.tuple [.str "map", .str s, k])), some (.d (.list (tups [[]]))), none, none, none, none] S = .ok (ms.map .str) S :=
    itAny_at (d := .tuple (ms.map .str)) (dBin_at (dFn1_at rfl rfl (dict_f L G.nd)) (dBin_at rfl rfl rfl rfl (atI1 _ _ _)) rfl rfl (by rw [ixK, e]; rfl)) rfl
  have ea : allD L (.tuple [.str "map", .str s, k]) = tups ((ms.map PyData.str).foldl (step false (valsD L k)) [[]]) := by simp [allD, e]
  rw [ea]
  show sSeq (sIf (toB (dBin oNotIn (dBin oIx (dVar 1) (dC (.int 0))) (dTup (dCons (dC (.str "some")) (dCons (dC (.str "map")) dNil))))) (sRet (dCall fn_u_law_values (dCons (dVar 0) (dCons (dVar 1) dNil)))) sNil) (sSeq (sSet 2 (dLst (dCons (dTup dNil) dNil))) (sSeq (sFor (itAny (dBin oIx (dFn1 oDictOf (dVar 0)) (dBin oIx (dVar 1) (dC (.int 1))))) (toName 3) outerB) (sRet (dVar 2)))) _ S = _
  rw [sSeq_nx e1, sSeq_nx e2, sSeq_nx ((sFor_at e3).trans e4)]
  rfl
theorem all_small {L : Sets} (w : Str) (r : List D) (hw : (decide (w = "some") || decide (w = "map")) = false) (S : List Cell) (v : fn_u_law_values [.d (setsD L), .d (.tuple (.str w :: r))] S = .ok (.d (.list (valsD L (.tuple (.str w :: r))))) S) (h3 : allD L (.tuple (.str w :: r)) = valsD L (.tuple (.str w :: r))) :
    body_u_law_all_values [some (.d (setsD L)), some (.d (.tuple (.str w :: r))), none, none, none, none, none] S = .rt (.d (.list (allD L (.tuple (.str w :: r))))) S := by
  have e1 : (sIf (toB (dBin oNotIn (dBin oIx (dVar 1) (dC (.int 0))) (dTup (dCons (dC (.str "some")) (dCons (dC (.str "map")) dNil))))) (sRet (dCall fn_u_law_values (dCons (dVar 0) (dCons (dVar 1) dNil)))) sNil) [some (.d (setsD L)), some (.d (.tuple (.str w :: r))), none, none, none, none, none] S = .rt (.d (.list (valsD L (.tuple (.str w :: r))))) S := by
    have n := notSM w
    rw [hw] at n
    exact (sIf_t (toB_at (dBin_at (dBin_at rfl rfl rfl rfl (atI0 _ _)) (dTup_at (ds := [.str "some", .str "map"]) (dCons_at rfl (dCons_at rfl rfl)) rfl (by show 2 ≤ 16777216; decide)) rfl rfl n))).trans (sRet_at ((dCall_at (dCons_at rfl (dCons_at rfl rfl))).trans v))
  unfold body_u_law_all_values
  rw [sSeq_rt e1, h3]
theorem sm_num {L : Sets} (i : Nat) (h1 : 1 ≤ i) (h2 : i ≤ 15) : smallD L (.tuple [.str "num", .int (i : Int)]) = true := by
  unfold smallD
  simp only [if_true]
  rw [decide_eq_true (by omega), decide_eq_true (by omega)]
  rfl
theorem all_num {L : Sets} (G : GL L) (i : Nat) (h1 : 1 ≤ i) (h2 : i ≤ 15) (S : List Cell) : body_u_law_all_values [some (.d (setsD L)), some (.d (.tuple [.str "num", .int (i : Int)])), none, none, none, none, none] S = .rt (.d (.list (allD L (.tuple [.str "num", .int (i : Int)])))) S :=
  all_small "num" [.int (i : Int)] (by decide +kernel) S (law_values_f L G.nd _ (sm_num i h1 h2) S) (by unfold allD; rfl)
theorem all_truth {L : Sets} (G : GL L) (S : List Cell) : body_u_law_all_values [some (.d (setsD L)), some (.d (.tuple [.str "truth"])), none, none, none, none, none] S = .rt (.d (.list (allD L (.tuple [.str "truth"])))) S :=
  all_small "truth" [] (by decide +kernel) S (law_values_f L G.nd _ (by simp [smallD]) S) (by unfold allD; rfl)
theorem all_one {L : Sets} (G : GL L) (s : Str) (ms : List Str) (e : look L s = some ms) (S : List Cell) : body_u_law_all_values [some (.d (setsD L)), some (.d (.tuple [.str "one", .str s])), none, none, none, none, none] S = .rt (.d (.list (allD L (.tuple [.str "one", .str s])))) S :=
  all_small "one" [.str s] (by decide +kernel) S (law_values_f L G.nd _ (few_small .one e) S) (by simp [allD, lits])
theorem all_b {L : Sets} (G : GL L) {k : D} (h : Kind L k) (S : List Cell) : body_u_law_all_values [some (.d (setsD L)), some (.d k), none, none, none, none, none] S = .rt (.d (.list (allD L k))) S := by
  cases h with
  | num i h1 h2 => exact all_num G i h1 h2 S
  | truth => exact all_truth G S
  | one s ms e => exact all_one G s ms e S
  | some s ms e => exact all_some G s ms e S
  | map s ms k e fw => exact all_map G s ms k e fw S
theorem all_f {L : Sets} (G : GL L) {k : D} (h : Kind L k) (S : List Cell) : fn_u_law_all_values [.d (setsD L), .d k] S = .ok (.d (.list (allD L k))) S := body_ok (all_b G h S)
end K02
set_option maxRecDepth 100000
set_option maxHeartbeats 2000000
namespace K02
open PySem PySem.Spec PyProof.Rows L2 Zz
/-! ### what repr tells apart -/
def ch (d : D) : List Nat := d.shown.cps.toList
def tl : List D → List Nat
  | [] => []
  | y :: r => 44 :: 32 :: (ch y ++ tl r)
theorem cps_app (x y : Str) : (x ++ y).cps.toList = x.cps.toList ++ y.cps.toList := by
  show (x.cps ++ y.cps).toList = _
  simp
theorem join_ch : ∀ (r : List D) (x : D), (Str.join ", " (PyData.shownAll (x :: r))).cps.toList = ch x ++ tl r
  | [], x => by
    rw [PyData.shownAll, PyData.shownAll]
    show (PyData.shown x).cps.toList = ch x ++ []
    rw [List.append_nil]
    rfl
  | y :: r, x => by
    have ih := join_ch r y
    have e2 : PyData.shownAll (y :: r) = y.shown :: PyData.shownAll r := by rw [PyData.shownAll]
    have e1 : PyData.shownAll (x :: y :: r) = x.shown :: y.shown :: PyData.shownAll r := by rw [PyData.shownAll, e2]
    rw [e2] at ih
    rw [e1]
    have e3 : Str.join ", " (x.shown :: y.shown :: PyData.shownAll r) = x.shown ++ (", " : Str) ++ Str.join ", " (y.shown :: PyData.shownAll r) := by
      rw [Str.join]
      intro z; cases z
    rw [e3, cps_app, cps_app, ih]
    show (ch x ++ [44, 32]) ++ (ch y ++ tl r) = ch x ++ tl (y :: r)
    rw [tl, List.append_assoc]
    rfl
theorem from_ch : ∀ (r : List D) (k : Nat) (acc : Str), (textFrom (k + 1) acc (PyData.shownAll r)).cps.toList = acc.cps.toList ++ tl r
  | [], k, acc => by rw [PyData.shownAll]; show acc.cps.toList = acc.cps.toList ++ []; rw [List.append_nil]
  | y :: r, k, acc => by
    rw [PyData.shownAll, textFrom, from_ch r, cps_app, cps_app, tl, if_pos (by omega)]
    show (acc.cps.toList ++ [44, 32]) ++ ch y ++ tl r = _
    simp
theorem ch_tup0 : ch (.tuple []) = [40, 41] := by decide +kernel
theorem ch_tup1 (x : D) : ch (.tuple [x]) = 40 :: (ch x ++ [44, 41]) := by
  unfold ch
  rw [PyData.shown, tupleText, cps_app, cps_app, join_ch [] x]
  simp [PyData.shownAll, tl, ch]
  rfl
theorem ch_tup2 (x y : D) (r : List D) : ch (.tuple (x :: y :: r)) = 40 :: (ch x ++ (tl (y :: r) ++ [41])) := by
  unfold ch
  rw [PyData.shown, tupleText, cps_app, cps_app, join_ch (y :: r) x]
  have e : ((PyData.shownAll (x :: y :: r)).length == 1) = false := by
    rw [PyData.shownAll, PyData.shownAll]
    rfl
  rw [e]
  show [40] ++ (ch x ++ tl (y :: r)) ++ [41] = _
  simp [ch]
theorem ch_lst0 : ch (.list []) = [91, 93] := by decide +kernel
theorem ch_lst1 (x : D) (r : List D) : ch (.list (x :: r)) = 91 :: (ch x ++ (tl r ++ [93])) := by
  unfold ch
  rw [PyData.shown, listText, PyData.shownAll, textFrom, cps_app, from_ch r 0, cps_app, cps_app, if_neg (by omega)]
  show [91] ++ [] ++ ch x ++ tl r ++ [93] = _
  simp [ch]
def sepB (c : Nat) : Bool := c == 44 || (c == 41 || c == 93)
/-- an end: nothing, or a sign that parts -/
def Term : List Nat → Prop
  | [] => True
  | c :: _ => sepB c = true
theorem tok : ∀ {a b r r' : List Nat}, (∀ c ∈ a, sepB c = false) → (∀ c ∈ b, sepB c = false) → Term r → Term r' → a ++ r = b ++ r' → a = b ∧ r = r'
  | [], [], _, _, _, _, _, _, h => ⟨rfl, h⟩
  | [], c :: b, r, r', _, hb, hr, _, h => by
    have h' : r = c :: (b ++ r') := h
    subst h'
    have := hb c List.mem_cons_self
    rw [show sepB c = true from hr] at this
    cases this
  | c :: a, [], r, r', ha, _, _, hr, h => by
    have h' : r' = c :: (a ++ r) := h.symm
    subst h'
    have := ha c List.mem_cons_self
    rw [show sepB c = true from hr] at this
    cases this
  | c :: a, d :: b, r, r', ha, hb, hr, hr', h => by
    have h' : c :: (a ++ r) = d :: (b ++ r') := h
    injection h' with h1 h2
    obtain ⟨h3, h4⟩ := tok (fun x hx => ha x (List.mem_cons_of_mem _ hx)) (fun x hx => hb x (List.mem_cons_of_mem _ hx)) hr hr' h2
    exact ⟨by rw [h1, h3], h4⟩
/-- the leaves -/
def VI : List Int := [0, 1, 2, 3, 4, 5, 6, 7, 8, 9, 10, 11, 12, 13, 14, 15]
def VU : List D := [.bool true, .bool false] ++ VI.map .int ++ EL.map .str
def US : List Str := ["nobody", "True", "False", "0", "1", "2", "3", "4", "5", "6", "7", "8", "9", "10", "11", "12", "13", "14", "15"]
def U : List D := VU ++ ([.none, .int 16, .int (-1), .int (10 ^ 30)] ++ US.map .str)
theorem u_sep : (U.all fun u => !(ch u).isEmpty && (ch u).all fun c => !(sepB c) && (c != 40 && c != 91)) = true := by decide +kernel
theorem u_nodup : (U.map ch).Nodup := by decide +kernel
theorem u_ch {u : D} (h : u ∈ U) : ch u ≠ [] ∧ ∀ c ∈ ch u, sepB c = false ∧ c ≠ 40 ∧ c ≠ 91 := by
  have z := List.all_eq_true.mp u_sep u h
  simp only [Bool.and_eq_true, Bool.not_eq_true', List.all_eq_true, bne_iff_ne] at z
  exact ⟨fun e => by rw [e] at z; exact absurd z.1 (by simp), fun c hc => z.2 c hc⟩
theorem inj_of {A B : Type} (f : A → B) : ∀ {l : List A}, (l.map f).Nodup → ∀ {a b : A}, a ∈ l → b ∈ l → f a = f b → a = b
  | x :: l, h, a, b, ha, hb, e => by
    have h1 := List.nodup_cons.mp h
    rcases List.mem_cons.mp ha with za | za
    · rcases List.mem_cons.mp hb with zb | zb
      · rw [za, zb]
      · exact absurd (List.mem_map.mpr ⟨b, zb, by rw [← e, za]⟩) h1.1
    · rcases List.mem_cons.mp hb with zb | zb
      · exact absurd (List.mem_map.mpr ⟨a, za, by rw [e, zb]⟩) h1.1
      · exact inj_of f h1.2 za zb e
def Pl : Nat → D → Prop
  | 0, d => d ∈ U
  | n + 1, d => d ∈ U ∨ ∃ l : List D, (d = .list l ∨ d = .tuple l) ∧ ∀ x ∈ l, Pl n x
/-- how it begins -/
theorem Pl.head : ∀ {n : Nat} {d : D}, Pl n d → ∃ c t, ch d = c :: t ∧ sepB c = false ∧ ((d ∈ U ∧ c ≠ 40 ∧ c ≠ 91) ∨ (∃ l, d = .list l ∧ c = 91) ∨ ∃ l, d = .tuple l ∧ c = 40) := fun {n d} h => by
  have leaf : d ∈ U → ∃ c t, ch d = c :: t ∧ sepB c = false ∧ ((d ∈ U ∧ c ≠ 40 ∧ c ≠ 91) ∨ (∃ l, d = .list l ∧ c = 91) ∨ ∃ l, d = .tuple l ∧ c = 40) := fun h => by
    obtain ⟨h1, h2⟩ := u_ch h
    cases e : ch d with
    | nil => exact absurd e h1
    | cons c t =>
      have z := h2 c (by rw [e]; exact List.mem_cons_self)
      exact ⟨c, t, rfl, z.1, .inl ⟨h, z.2⟩⟩
  cases n with
  | zero => exact leaf h
  | succ n =>
    rcases h with h | ⟨l, rfl | rfl, h⟩
    · exact leaf h
    · cases l with
      | nil => exact ⟨91, _, ch_lst0, rfl, .inr (.inl ⟨_, rfl, rfl⟩)⟩
      | cons x r => exact ⟨91, _, ch_lst1 x r, rfl, .inr (.inl ⟨_, rfl, rfl⟩)⟩
    · match l with
      | [] => exact ⟨40, _, ch_tup0, rfl, .inr (.inr ⟨_, rfl, rfl⟩)⟩
      | [x] => exact ⟨40, _, ch_tup1 x, rfl, .inr (.inr ⟨_, rfl, rfl⟩)⟩
      | x :: y :: r => exact ⟨40, _, ch_tup2 x y r, rfl, .inr (.inr ⟨_, rfl, rfl⟩)⟩
def Inj (d : D) : Prop := ∀ m e r r', Pl m e → Term r → Term r' → ch d ++ r = ch e ++ r' → d = e ∧ r = r'
theorem tl_inj {m : Nat} {c c' : Nat} (hc : c = 41 ∨ c = 93) (hc' : c' = 41 ∨ c' = 93) : ∀ (l l' : List D) (r r' : List Nat), (∀ x ∈ l, Inj x) → (∀ x ∈ l', Pl m x) → tl l ++ (c :: r) = tl l' ++ (c' :: r') → l = l' ∧ c = c' ∧ r = r'
  | [], [], r, r', _, _, h => by
    have h' : c :: r = c' :: r' := h
    injection h' with h1 h2
    exact ⟨rfl, h1, h2⟩
  | [], y :: l', r, r', _, _, h => by
    have h' : c :: r = 44 :: _ := h
    injection h' with h1 h2
    omega
  | x :: l, [], r, r', _, _, h => by
    have h' : 44 :: _ = c' :: r' := h
    injection h' with h1 h2
    omega
  | x :: l, y :: l', r, r', hl, hl', h => by
    have h' : 44 :: 32 :: (ch x ++ tl l ++ (c :: r)) = 44 :: 32 :: (ch y ++ tl l' ++ (c' :: r')) := h
    injection h' with _ h1
    injection h1 with _ h2
    rw [List.append_assoc, List.append_assoc] at h2
    have tm : ∀ (l : List D) (c : Nat) (r : List Nat), (c = 41 ∨ c = 93) → Term (tl l ++ (c :: r)) := fun l c r hc => by
      cases l with
      | nil => rcases hc with rfl | rfl <;> exact rfl
      | cons a b => exact rfl
    obtain ⟨e1, e2⟩ := hl x List.mem_cons_self m y _ _ (hl' y List.mem_cons_self) (tm _ _ _ hc) (tm _ _ _ hc') h2
    obtain ⟨e3, e4⟩ := tl_inj hc hc' l l' r r' (fun z hz => hl z (List.mem_cons_of_mem _ hz)) (fun z hz => hl' z (List.mem_cons_of_mem _ hz)) e2
    exact ⟨by rw [e1, e3], e4⟩
theorem Pl.sub {n : Nat} {l : List D} {d : D} (hd : d = .list l ∨ d = .tuple l) (h : Pl n d) : ∃ m, ∀ x ∈ l, Pl m x := by
  have no : d ∉ U := fun z => by
    have nl : (U.all fun u => match u with | .list _ => false | .tuple _ => false | _ => true) = true := by decide +kernel
    have := List.all_eq_true.mp nl d z
    rcases hd with rfl | rfl <;> cases this
  cases n with
  | zero => exact absurd h no
  | succ n =>
    rcases h with h | ⟨l', e, h⟩
    · exact absurd h no
    · refine ⟨n, ?_⟩
      rcases hd with rfl | rfl <;> rcases e with e | e <;> cases e <;> exact h
theorem Pl.inj : ∀ {n : Nat} {d : D}, Pl n d → Inj d := by
  have leaf : ∀ {d : D}, d ∈ U → Inj d := fun {d} h m e r r' he hr hr' q => by
    obtain ⟨c, t, e1, e2, e3⟩ := he.head
    obtain ⟨h1, h2⟩ := u_ch h
    obtain ⟨c0, t0, e0⟩ : ∃ c t, ch d = c :: t := by
      cases z : ch d with
      | nil => exact absurd z h1
      | cons c t => exact ⟨c, t, rfl⟩
    have q2 : c0 :: (t0 ++ r) = c :: (t ++ r') := by rw [e0, e1] at q; exact q
    have ec : c0 = c := by injection q2
    have z0 := h2 c0 (by rw [e0]; exact List.mem_cons_self)
    rcases e3 with ⟨hu, _⟩ | ⟨l, _, e5⟩ | ⟨l, _, e5⟩
    · obtain ⟨e6, e7⟩ := tok (fun c hc => (h2 c hc).1) (fun c hc => ((u_ch hu).2 c hc).1) hr hr' q
      exact ⟨inj_of ch u_nodup h hu e6, e7⟩
    · exact absurd (ec.trans e5) z0.2.2
    · exact absurd (ec.trans e5) z0.2.1
  intro n
  induction n with
  | zero => exact fun {d} h => leaf h
  | succ n ih =>
    intro d h
    rcases h with h | ⟨l, e, hl⟩
    · exact leaf h
    · have il : ∀ x ∈ l, Inj x := fun x hx => ih (hl x hx)
      have hd : ∀ {x : D} {m : Nat}, Pl m x → ∀ (s : List Nat) (c : Nat) (r : List Nat), sepB c = true → ch x ++ s ≠ c :: r := fun {x m} hx s c r hc q => by
        obtain ⟨c0, t, e1, e2, _⟩ := hx.head
        rw [e1] at q
        have : c0 = c := by injection q
        rw [this, hc] at e2
        cases e2
      rcases e with rfl | rfl
      · intro m e r r' he hr hr' q
        have he' := he
        obtain ⟨c, t, e1, e2, e3⟩ := he.head
        obtain ⟨t0, e0⟩ : ∃ t, ch (.list l) = 91 :: t := by
          cases l with
          | nil => exact ⟨_, ch_lst0⟩
          | cons x l => exact ⟨_, ch_lst1 x l⟩
        have ec : 91 = c := by rw [e0, e1] at q; injection q
        rcases e3 with ⟨_, _, e5⟩ | ⟨l', rfl, _⟩ | ⟨_, _, e5⟩
        · exact absurd ec.symm e5
        · obtain ⟨m', hs⟩ := Pl.sub (.inl rfl) he
          cases l with
          | nil =>
            cases l' with
            | nil =>
              rw [ch_lst0] at q
              exact ⟨rfl, List.append_cancel_left q⟩
            | cons y l' =>
              rw [ch_lst0, ch_lst1] at q
              have q2 : 91 :: 93 :: r = 91 :: (ch y ++ (tl l' ++ [93]) ++ r') := q
              injection q2 with _ q3
              rw [List.append_assoc] at q3
              exact absurd q3.symm (hd (hs y List.mem_cons_self) _ _ _ rfl)
          | cons x l =>
            cases l' with
            | nil =>
              rw [ch_lst0, ch_lst1] at q
              have q2 : 91 :: (ch x ++ (tl l ++ [93]) ++ r) = 91 :: 93 :: r' := q
              injection q2 with _ q3
              rw [List.append_assoc] at q3
              exact absurd q3 (hd (hl x List.mem_cons_self) _ _ _ rfl)
            | cons y l' =>
              rw [ch_lst1, ch_lst1] at q
              have q2 : 91 :: (ch x ++ (tl l ++ [93]) ++ r) = 91 :: (ch y ++ (tl l' ++ [93]) ++ r') := q
              injection q2 with _ q3
              simp only [List.append_assoc] at q3
              have tm : ∀ (l : List D) (s : List Nat), Term (tl l ++ ([93] ++ s)) := fun l s => by cases l <;> exact rfl
              obtain ⟨f1, f2⟩ := il x List.mem_cons_self m' y _ _ (hs y List.mem_cons_self) (tm _ _) (tm _ _) q3
              obtain ⟨f3, f4, f5⟩ := tl_inj (m := m') (.inr rfl) (.inr rfl) l l' r r' (fun z hz => il z (List.mem_cons_of_mem _ hz)) (fun z hz => hs z (List.mem_cons_of_mem _ hz)) f2
              exact ⟨by rw [f1, f3], f5⟩
        · omega
      · intro m e r r' he hr hr' q
        obtain ⟨c, t, e1, e2, e3⟩ := he.head
        obtain ⟨t0, e0⟩ : ∃ t, ch (.tuple l) = 40 :: t := by
          match l with
          | [] => exact ⟨_, ch_tup0⟩
          | [x] => exact ⟨_, ch_tup1 x⟩
          | x :: y :: l => exact ⟨_, ch_tup2 x y l⟩
        have ec : 40 = c := by rw [e0, e1] at q; injection q
        rcases e3 with ⟨_, e5, _⟩ | ⟨_, _, e5⟩ | ⟨l', rfl, _⟩
        · exact absurd ec.symm e5
        · omega
        · obtain ⟨m', hs⟩ := Pl.sub (.inr rfl) he
          match l, l', hl, il, hs, q with
          | [], [], _, _, _, q =>
            rw [ch_tup0] at q
            exact ⟨rfl, List.append_cancel_left q⟩
          | [], [y], _, _, hs, q =>
            rw [ch_tup0, ch_tup1] at q
            have q2 : 40 :: 41 :: r = 40 :: (ch y ++ [44, 41] ++ r') := q
            injection q2 with _ q3
            rw [List.append_assoc] at q3
            exact absurd q3.symm (hd (hs y List.mem_cons_self) _ _ _ rfl)
          | [], y :: z :: l', _, _, hs, q =>
            rw [ch_tup0, ch_tup2] at q
            have q2 : 40 :: 41 :: r = 40 :: (ch y ++ (tl (z :: l') ++ [41]) ++ r') := q
            injection q2 with _ q3
            rw [List.append_assoc] at q3
            exact absurd q3.symm (hd (hs y List.mem_cons_self) _ _ _ rfl)
          | [x], [], hl, _, _, q =>
            rw [ch_tup0, ch_tup1] at q
            have q2 : 40 :: (ch x ++ [44, 41] ++ r) = 40 :: 41 :: r' := q
            injection q2 with _ q3
            rw [List.append_assoc] at q3
            exact absurd q3 (hd (hl x List.mem_cons_self) _ _ _ rfl)
          | [x], [y], _, il, hs, q =>
            rw [ch_tup1, ch_tup1] at q
            have q2 : 40 :: (ch x ++ [44, 41] ++ r) = 40 :: (ch y ++ [44, 41] ++ r') := q
            injection q2 with _ q3
            rw [List.append_assoc, List.append_assoc] at q3
            obtain ⟨f1, f2⟩ := il x List.mem_cons_self m' y _ _ (hs y List.mem_cons_self) (by exact rfl) (by exact rfl) q3
            exact ⟨by rw [f1], List.append_cancel_left f2⟩
          | [x], y :: z :: l', _, il, hs, q =>
            rw [ch_tup1, ch_tup2] at q
            have q2 : 40 :: (ch x ++ [44, 41] ++ r) = 40 :: (ch y ++ (tl (z :: l') ++ [41]) ++ r') := q
            injection q2 with _ q3
            simp only [List.append_assoc] at q3
            obtain ⟨f1, f2⟩ := il x List.mem_cons_self m' y _ _ (hs y List.mem_cons_self) (by exact rfl) (by exact rfl) q3
            have f3 : 44 :: 41 :: r = 44 :: 32 :: _ := f2
            injection f3 with _ f4
            injection f4 with f5 _
            omega
          | x :: w :: l, [], hl, _, _, q =>
            rw [ch_tup0, ch_tup2] at q
            have q2 : 40 :: (ch x ++ (tl (w :: l) ++ [41]) ++ r) = 40 :: 41 :: r' := q
            injection q2 with _ q3
            rw [List.append_assoc] at q3
            exact absurd q3 (hd (hl x List.mem_cons_self) _ _ _ rfl)
          | x :: w :: l, [y], _, il, hs, q =>
            rw [ch_tup1, ch_tup2] at q
            have q2 : 40 :: (ch x ++ (tl (w :: l) ++ [41]) ++ r) = 40 :: (ch y ++ [44, 41] ++ r') := q
            injection q2 with _ q3
            simp only [List.append_assoc] at q3
            obtain ⟨f1, f2⟩ := il x List.mem_cons_self m' y _ _ (hs y List.mem_cons_self) (by exact rfl) (by exact rfl) q3
            have f3 : 44 :: 32 :: _ = 44 :: 41 :: r' := f2
            injection f3 with _ f4
            injection f4 with f5 _
            omega
          | x :: w :: l, y :: z :: l', _, il, hs, q =>
            rw [ch_tup2, ch_tup2] at q
            have q2 : 40 :: (ch x ++ (tl (w :: l) ++ [41]) ++ r) = 40 :: (ch y ++ (tl (z :: l') ++ [41]) ++ r') := q
            injection q2 with _ q3
            simp only [List.append_assoc] at q3
            obtain ⟨f1, f2⟩ := il x List.mem_cons_self m' y _ _ (hs y List.mem_cons_self) (by exact rfl) (by exact rfl) q3
            obtain ⟨f3, f4, f5⟩ := tl_inj (m := m') (.inl rfl) (.inl rfl) (w :: l) (z :: l') r r' (fun z hz => il z (List.mem_cons_of_mem _ hz)) (fun z hz => hs z (List.mem_cons_of_mem _ hz)) f2
            exact ⟨by rw [f1, f3], f5⟩
theorem shown_inj {n m : Nat} {d e : D} (h : Pl n d) (g : Pl m e) (q : d.shown = e.shown) : d = e :=
  (h.inj m e [] [] g trivial trivial (by unfold ch; rw [q])).1
end K02
set_option maxRecDepth 100000
set_option maxHeartbeats 2000000
namespace K02
open PySem PySem.Spec PyProof.Rows L2 Zz
theorem u_leaf {d : D} (h : d ∈ U) : leafB d = true := by
  have z : (U.all leafB) = true := by decide +kernel
  exact List.all_eq_true.mp z d h
theorem vu_u {d : D} (h : d ∈ VU) : d ∈ U := List.mem_append_left _ h
structure PT (n : Nat) (d : D) : Prop where
  pl : Pl n d
  ty : Tidy n d
theorem PT.of {d : D} (h : d ∈ U) : ∀ n, PT n d
  | 0 => ⟨h, u_leaf h⟩
  | n + 1 => ⟨.inl h, .inl (u_leaf h)⟩
theorem PT.tup {n : Nat} {l : List D} (hl : l.length ≤ 10) (h : ∀ x ∈ l, PT n x) : PT (n + 1) (.tuple l) := ⟨.inr ⟨l, .inr rfl, fun x hx => (h x hx).pl⟩, Tidy.tup hl fun x hx => (h x hx).ty⟩
theorem PT.lst {n : Nat} {l : List D} (hl : l.length ≤ 10) (h : ∀ x ∈ l, PT n x) : PT (n + 1) (.list l) := ⟨.inr ⟨l, .inl rfl, fun x hx => (h x hx).pl⟩, Tidy.lst hl fun x hx => (h x hx).ty⟩
theorem PT.up {n : Nat} {d : D} (h : PT n d) : PT (n + 1) d := by
  have pu : ∀ {n : Nat} {d : D}, Pl n d → Pl (n + 1) d := by
    intro n
    induction n with
    | zero => exact fun {d} h => .inl h
    | succ n ih =>
      intro d h
      rcases h with h | ⟨l, e, h⟩
      · exact .inl h
      · exact .inr ⟨l, e, fun x hx => ih (h x hx)⟩
  exact ⟨pu h.pl, h.ty.up⟩
/-- what a value looks like -/
def One (d : D) : Prop := d ∈ VU ∨ ∃ l : List D, d = .tuple l ∧ l.length ≤ 4 ∧ ∀ x ∈ l, x ∈ VU
theorem One.pt {d : D} (h : One d) : PT 1 d := by
  rcases h with h | ⟨l, rfl, hl, h⟩
  · exact PT.of (vu_u h) 1
  · exact PT.tup (by omega) fun x hx => PT.of (vu_u (h x hx)) 0
theorem mem_x (s : Str) (h : (US.contains s || EL.contains s) = true) : (PyData.str s) ∈ U := by
  rcases Bool.or_eq_true_iff.mp h with h | h
  · exact List.mem_append_right _ (List.mem_append_right _ (List.mem_map.mpr ⟨s, List.contains_iff_mem.mp h, rfl⟩))
  · exact List.mem_append_left _ (List.mem_append_right _ (List.mem_map.mpr ⟨s, List.contains_iff_mem.mp h, rfl⟩))
theorem vu_str {d : D} (h : d ∈ VU) : ∃ s, oStr d = some (.str s) ∧ (PyData.str s) ∈ U := by
  have z : (VU.all fun d => match oStr d with | some (.str s) => US.contains s || EL.contains s | _ => false) = true := by decide +kernel
  have q := List.all_eq_true.mp z d h
  cases e : oStr d with
  | none => rw [e] at q; cases q
  | some x =>
    rw [e] at q
    cases x with
    | str s => exact ⟨s, rfl, mem_x s q⟩
    | _ => cases q
theorem vu_flat {d : D} (h : d ∈ VU) : isB "tuple" d = false := by
  have z : (VU.all fun d => !(isB "tuple" d)) = true := by decide +kernel
  have q := List.all_eq_true.mp z d h
  simpa using q
theorem ptapp {n : Nat} {x y : List D} (hx : ∀ d ∈ x, PT n d) (hy : ∀ d ∈ y, PT n d) : ∀ d ∈ x ++ y, PT n d := fun d hd => (List.mem_append.mp hd).elim (hx d) (hy d)
def OV : List D := [.none, .int (-1), .int 16, .bool true, .str "x", .str "nobody", .tuple [], .int 1, .int (10 ^ (30 : Int).toNat), .str "e1", .bool false]
theorem ov_at (i : Nat) (hi : i < 11) : ∃ odd, PT 1 odd ∧ oIx (.list OV) (.int (i : Int)) = some odd := by
  have inU : ∀ d : D, d ∈ U → PT 1 d := fun d h => PT.of h 1
  have v1 : ∀ i : Int, i ∈ VI → (PyData.int i) ∈ U := fun i h => List.mem_append_left _ (List.mem_append_left _ (List.mem_append_right _ (List.mem_map.mpr ⟨i, h, rfl⟩)))
  have v2 : ∀ d : D, d ∈ ([.none, .int 16, .int (-1), .int (10 ^ 30)] : List D) → d ∈ U := fun d h => List.mem_append_right _ (List.mem_append_left _ h)
  match i, hi with
  | 0, _ => exact ⟨_, inU _ (v2 _ (by simp)), rfl⟩
  | 1, _ => exact ⟨_, inU _ (v2 (.int (-1)) (by simp)), rfl⟩
  | 2, _ => exact ⟨_, inU _ (v2 (.int 16) (by simp)), rfl⟩
  | 3, _ => exact ⟨_, inU _ (List.mem_append_left _ (List.mem_append_left _ (List.mem_append_left _ (by simp)))), rfl⟩
  | 4, _ => exact ⟨_, inU _ (mem_x "x" (by decide +kernel)), rfl⟩
  | 5, _ => exact ⟨_, inU _ (mem_x "nobody" (by decide +kernel)), rfl⟩
  | 6, _ => exact ⟨_, PT.tup (by simp) (fun x hx => by cases hx), rfl⟩
  | 7, _ => exact ⟨_, inU _ (v1 1 (by simp [VI])), rfl⟩
  | 8, _ => exact ⟨_, inU _ (v2 (.int (10 ^ 30)) (by simp)), rfl⟩
  | 9, _ => exact ⟨_, inU _ (mem_x "e1" (by decide +kernel)), rfl⟩
  | 10, _ => exact ⟨_, inU _ (List.mem_append_left _ (List.mem_append_left _ (List.mem_append_left _ (by simp)))), rfl⟩
theorem max_at (i j : Int) : ∃ k, oMax (.int i) (.int j) = some (.int k) ∧ j ≤ k ∧ i ≤ k := by
  unfold oMax
  refine ⟨_, rfl, ?_, ?_⟩ <;> (try split) <;> omega
theorem odd_value_f {one : D} (ho : One one) (n : Int) (S : List Cell) : ∃ t, PT 2 t ∧ fn_u_law_odd_value [.d (.int n), .d one] S = .ok (.d t) S := by
  obtain ⟨i, ei, hi⟩ : ∃ j : Nat, n.fmod 11 = (j : Int) ∧ j < 11 := fmod_nat _ 11 (by decide)
  obtain ⟨odd, po, eo⟩ := ov_at i hi
  have pw : oPow (.int 10) (.int 30) = some (.int (10 ^ (30 : Int).toNat)) := pow_at 10 30 (by decide) (by decide) (by decide)
  have st1 : (sSet 2 (dBin oIx (dLst (dCons (dC (.none)) (dCons (dFn1 oNeg (dC (.int 1))) (dCons (dC (.int 16)) (dCons (dC (.bool true)) (dCons (dC (.str "x")) (dCons (dC (.str "nobody")) (dCons (dTup dNil) (dCons (dC (.int 1)) (dCons (dBin oPow (dC (.int 10)) (dC (.int 30))) (dCons (dC (.str "e1")) (dCons (dC (.bool false)) dNil)))))))))))) (dBin oMod (dVar 0) (dC (.int 11))))) [some (.d (.int n)), some (.d one), none, none, none] S = .nx [some (.d (.int n)), some (.d one), some (.d odd), none, none] S :=
    sSet_at (dBin_at (dLst_at (ds := OV) (dCons_at rfl (dCons_at rfl (dCons_at rfl (dCons_at rfl (dCons_at rfl (dCons_at rfl (dCons_at (dTup_at (ds := []) rfl rfl (by show 0 ≤ 16777216; decide)) (dCons_at rfl (dCons_at (dBin_at rfl rfl rfl rfl pw) (dCons_at rfl (dCons_at rfl rfl))))))))))) rfl (by show 11 ≤ 16777216; decide)) (dBin_at rfl rfl rfl rfl (mod_at n 11 (by decide))) rfl rfl (by rw [ei]; exact eo))
  have d11 := div_at n 11 (by decide) (by decide)
  rcases ho with ho | ⟨l, rfl, hl, hv⟩
  · obtain ⟨s, es, hs⟩ := vu_str ho
    have hb := vu_flat ho
    have p1 : PT 0 one := PT.of (vu_u ho) 0
    obtain ⟨u, eu, hu⟩ : ∃ j : Nat, (n.fdiv 11).fmod 5 = (j : Int) ∧ j < 5 := fmod_nat _ 5 (by decide)
    obtain ⟨t, pt, et⟩ : ∃ t, PT 2 t ∧ oIx (.list [odd, odd, .tuple [one], .list [one], .str s]) (.int (u : Int)) = some t := by
      match u, hu with
      | 0, _ => exact ⟨_, po.up, rfl⟩
      | 1, _ => exact ⟨_, po.up, rfl⟩
      | 2, _ => exact ⟨_, (PT.tup (by simp) fun x hx => by simp at hx; subst hx; exact p1).up, rfl⟩
      | 3, _ => exact ⟨_, (PT.lst (by simp) fun x hx => by simp at hx; subst hx; exact p1).up, rfl⟩
      | 4, _ => exact ⟨_, PT.of hs 2, rfl⟩
    refine ⟨t, pt, body_ok ?_⟩
    show body_u_law_odd_value [some (.d (.int n)), some (.d one), none, none, none] S = _
    have st2 : (sIf (tNotD (toB (dFn1 (oIsB "tuple") (dVar 1)))) (sRet (dBin oIx (dLst (dCons (dVar 2) (dCons (dVar 2) (dCons (dTup (dCons (dVar 1) dNil)) (dCons (dLst (dCons (dVar 1) dNil)) (dCons (dFn1 oStr (dVar 1)) dNil)))))) (dBin oMod (dBin oDiv (dVar 0) (dC (.int 11))) (dC (.int 5))))) sNil) [some (.d (.int n)), some (.d one), some (.d odd), none, none] S = .rt (.d t) S :=
      (sIf_t (tNotD_at (b := false) (toB_at (dFn1_at rfl rfl (by show some (PyData.bool (isB "tuple" one)) = _; rw [hb]))))).trans
        (sRet_at (dBin_at (dLst_at (ds := [odd, odd, .tuple [one], .list [one], .str s]) (dCons_at rfl (dCons_at rfl (dCons_at (dTup_at (ds := [one]) (dCons_at rfl rfl) rfl (by show 1 ≤ 16777216; decide)) (dCons_at (dLst_at (ds := [one]) (dCons_at rfl rfl) rfl (by show 1 ≤ 16777216; decide)) (dCons_at (dFn1_at rfl rfl es) rfl))))) rfl (by show 5 ≤ 16777216; decide)) (dBin_at (dBin_at rfl rfl rfl rfl d11) rfl rfl rfl (mod_at _ 5 (by decide))) rfl rfl (by rw [eu]; exact et)))
    unfold body_u_law_odd_value
    rw [sSeq_nx st1, sSeq_rt st2]
  · have p1 : ∀ x ∈ l, PT 1 x := fun x hx => PT.of (vu_u (hv x hx)) 1
    have po' : ∀ x ∈ [odd], PT 1 x := fun x hx => by simp at hx; subst hx; exact po
    obtain ⟨mx, em, m1, m2⟩ := max_at 1 l.length
    have ma := mod_at (n.fdiv 11) mx (by omega)
    generalize hat : (n.fdiv 11).fmod mx = at_ at ma
    have cs := cut_sub l
    have pc : ∀ lo hi, ∀ x ∈ Zz.cutD l lo hi, PT 1 x := fun lo hi x hx => p1 x ((cs lo hi).2 x hx)
    have lc := fun lo hi => (cs lo hi).1
    let A1 : List D := (Zz.cutD l none (some at_) ++ [odd]) ++ Zz.cutD l (some (at_ + 1)) none
    let A3 : List D := l ++ Zz.cutD l none (some 1)
    let AS : List D := [.tuple A1, .tuple l.reverse, .tuple A3, .tuple (Zz.cutD l (some 1) none), .list l, odd, .tuple (l ++ [odd]), .tuple []]
    have c1 := lc none (some at_)
    have c2 := lc (some (at_ + 1)) none
    have c3 := lc none (some 1)
    have c4 := lc (some 1) none
    obtain ⟨u, eu, hu⟩ : ∃ j : Nat, (n.fdiv 77).fmod 8 = (j : Int) ∧ j < 8 := fmod_nat _ 8 (by decide)
    obtain ⟨t, pt, et⟩ : ∃ t, PT 2 t ∧ oIx (.list AS) (.int (u : Int)) = some t := by
      match u, hu with
      | 0, _ => exact ⟨_, PT.tup (by simp; omega) (ptapp (ptapp (pc _ _) po') (pc _ _)), rfl⟩
      | 1, _ => exact ⟨_, PT.tup (by rw [List.length_reverse]; omega) (fun x hx => p1 x (List.mem_reverse.mp hx)), rfl⟩
      | 2, _ => exact ⟨_, PT.tup (by simp; omega) (ptapp p1 (pc _ _)), rfl⟩
      | 3, _ => exact ⟨_, PT.tup (by omega) (pc _ _), rfl⟩
      | 4, _ => exact ⟨_, PT.lst (by omega) p1, rfl⟩
      | 5, _ => exact ⟨_, po.up, rfl⟩
      | 6, _ => exact ⟨_, PT.tup (by simp; omega) (ptapp p1 po'), rfl⟩
      | 7, _ => exact ⟨_, PT.tup (by simp) (fun x hx => by cases hx), rfl⟩
    refine ⟨t, pt, body_ok ?_⟩
    show body_u_law_odd_value [some (.d (.int n)), some (.d (.tuple l)), none, none, none] S = _
    have st2 : (sIf (tNotD (toB (dFn1 (oIsB "tuple") (dVar 1)))) (sRet (dBin oIx (dLst (dCons (dVar 2) (dCons (dVar 2) (dCons (dTup (dCons (dVar 1) dNil)) (dCons (dLst (dCons (dVar 1) dNil)) (dCons (dFn1 oStr (dVar 1)) dNil)))))) (dBin oMod (dBin oDiv (dVar 0) (dC (.int 11))) (dC (.int 5))))) sNil) [some (.d (.int n)), some (.d (.tuple l)), some (.d odd), none, none] S = .nx [some (.d (.int n)), some (.d (.tuple l)), some (.d odd), none, none] S :=
      sIf_skip (tNotD_at (b := true) (toB_at (dFn1_at rfl rfl rfl)))
    have st3 : (sSet 3 (dBin oMod (dBin oDiv (dVar 0) (dC (.int 11))) (dBin oMax (dC (.int 1)) (dFn1 oLen (dVar 1))))) [some (.d (.int n)), some (.d (.tuple l)), some (.d odd), none, none] S = .nx [some (.d (.int n)), some (.d (.tuple l)), some (.d odd), some (.d (.int at_)), none] S :=
      sSet_at (dBin_at (dBin_at rfl rfl rfl rfl d11) (dBin_at rfl (dFn1_at rfl rfl rfl) rfl rfl em) rfl rfl ma)
    have st4 : (sSet 4 (dLst (dCons (dBin oAdd (dBin oAdd (dSl (dVar 1) pNone (pSome (dVar 3))) (dTup (dCons (dVar 2) dNil))) (dSl (dVar 1) (pSome (dBin oAdd (dVar 3) (dC (.int 1)))) pNone)) (dCons (dFn1 oRev (dVar 1)) (dCons (dBin oAdd (dVar 1) (dSl (dVar 1) pNone (pSome (dC (.int 1))))) (dCons (dSl (dVar 1) (pSome (dC (.int 1))) pNone) (dCons (dFn1 oList (dVar 1)) (dCons (dVar 2) (dCons (dBin oAdd (dVar 1) (dTup (dCons (dVar 2) dNil))) (dCons (dTup dNil) dNil)))))))))) [some (.d (.int n)), some (.d (.tuple l)), some (.d odd), some (.d (.int at_)), none] S = .nx [some (.d (.int n)), some (.d (.tuple l)), some (.d odd), some (.d (.int at_)), some (.d (.list AS))] S :=
      sSet_at (dLst_at (ds := AS) (dCons_at (dBin_at (dBin_at (dSl_at rfl rfl (pSome_at rfl rfl) rfl rfl) (dTup_at (ds := [odd]) (dCons_at rfl rfl) rfl (by show 1 ≤ 16777216; decide)) rfl rfl (addT _ _ (by simp; omega))) (dSl_at rfl (pSome_at (dBin_at rfl rfl rfl rfl rfl) rfl) rfl rfl rfl) rfl rfl (addT _ _ (by simp; omega)))
        (dCons_at (dFn1_at rfl rfl rfl) (dCons_at (dBin_at rfl (dSl_at rfl rfl (pSome_at rfl rfl) rfl rfl) rfl rfl (addT _ _ (by omega))) (dCons_at (dSl_at rfl (pSome_at rfl rfl) rfl rfl rfl) (dCons_at (dFn1_at rfl rfl rfl) (dCons_at rfl (dCons_at (dBin_at rfl (dTup_at (ds := [odd]) (dCons_at rfl rfl) rfl (by show 1 ≤ 16777216; decide)) rfl rfl (addT _ _ (by simp; omega)))
        (dCons_at (dTup_at (ds := []) rfl rfl (by show 0 ≤ 16777216; decide)) rfl)))))))) rfl (by show 8 ≤ 16777216; decide))
    unfold body_u_law_odd_value
    rw [sSeq_nx st1, sSeq_nx st2, sSeq_nx st3, sSeq_nx st4]
    exact sRet_at (dBin_at rfl (dBin_at (dBin_at rfl rfl rfl rfl (div_at n 77 (by decide) (by decide))) rfl rfl rfl (mod_at _ 8 (by decide))) rfl rfl (by rw [eu]; exact et))
end K02
set_option maxRecDepth 100000
set_option maxHeartbeats 2000000
namespace K02
open PySem PySem.Spec PyProof.Rows L2 Zz
theorem mem_rg (i j : Int) : (PyData.int j) ∈ rgD (i + 1) ↔ 0 ≤ j ∧ j ≤ i := by
  unfold rgD
  rw [List.mem_map]
  constructor
  · rintro ⟨a, ha, e⟩
    have := List.mem_range.mp ha
    have e2 : (0 : Int) + (a : Int) = j := PyData.int.inj e
    omega
  · rintro ⟨h0, h1⟩
    refine ⟨j.toNat, List.mem_range.mpr (by omega), ?_⟩
    congr 1
    omega
theorem rg_int (i : Int) (d : D) (h : d ∈ rgD i) : ∃ j, d = .int j := by
  obtain ⟨a, _, rfl⟩ := List.mem_map.mp h
  exact ⟨_, rfl⟩
theorem vals_vu {L : Sets} (G : GL L) {k : D} (h : smallD L k = true) : ∀ d ∈ valsD L k, d ∈ VU := by
  intro d hd
  rcases small_cases h with ⟨i, rfl, h1, h2⟩ | rfl | ⟨s, ms, rfl, hl⟩
  · have e : valsD L (.tuple [.str "num", .int i]) = rgD (i + 1) := by simp [valsD]
    rw [e] at hd
    obtain ⟨j, rfl⟩ := rg_int _ _ hd
    obtain ⟨h3, h4⟩ := (mem_rg i j).mp hd
    refine List.mem_append_left _ (List.mem_append_right _ (List.mem_map.mpr ⟨j, ?_, rfl⟩))
    obtain ⟨u, rfl⟩ : ∃ u : Nat, j = (u : Int) := ⟨j.toNat, by omega⟩
    have z : ∀ u : Nat, u < 16 → ((u : Int) ∈ VI) := by decide
    exact z u (by omega)
  · simp [valsD] at hd
    rcases hd with rfl | rfl
    · exact List.mem_append_left _ (List.mem_append_left _ (by simp))
    · exact List.mem_append_left _ (List.mem_append_left _ (by simp))
  · have e : valsD L (.tuple [.str "one", .str s]) = ms.map .str := by simp [valsD, hl]
    rw [e] at hd
    obtain ⟨x, hx, rfl⟩ := List.mem_map.mp hd
    exact List.mem_append_right _ (List.mem_map.mpr ⟨x, G.inE _ (look_mem hl) x hx, rfl⟩)
theorem mem_ext {R : List (List D)} {o : D} {r : List D} : r ∈ ext R o ↔ ∃ r0 ∈ R, r = r0 ++ [o] := by
  unfold ext
  rw [List.mem_map]
  exact ⟨fun ⟨a, h, e⟩ => ⟨a, h, e.symm⟩, fun ⟨a, h, e⟩ => ⟨a, h, e.symm⟩⟩
theorem fold_map (vals : List D) : ∀ (ms : List D) (R : List (List D)) (r : List D), r ∈ ms.foldl (step false vals) R ↔ ∃ r0 ∈ R, ∃ s, r = r0 ++ s ∧ s.length = ms.length ∧ ∀ x ∈ s, x ∈ vals
  | [], R, r => by
    constructor
    · intro h; exact ⟨r, h, [], by simp, rfl, fun x hx => nomatch hx⟩
    · rintro ⟨r0, h, s, rfl, hs, _⟩
      cases s with
      | nil => rw [List.append_nil]; exact h
      | cons a b => cases hs
  | m :: ms, R, r => by
    rw [List.foldl_cons, fold_map vals ms]
    have st : ∀ r, r ∈ step false vals R m ↔ ∃ o ∈ vals, ∃ r0 ∈ R, r = r0 ++ [o] := fun r => by
      show r ∈ [] ++ vals.flatMap (ext R) ↔ _
      rw [List.nil_append, List.mem_flatMap]
      constructor
      · rintro ⟨o, ho, h⟩; exact ⟨o, ho, mem_ext.mp h⟩
      · rintro ⟨o, ho, h⟩; exact ⟨o, ho, mem_ext.mpr h⟩
    constructor
    · rintro ⟨r1, h1, s, rfl, hs, hv⟩
      obtain ⟨o, ho, r0, h0, rfl⟩ := (st r1).mp h1
      exact ⟨r0, h0, o :: s, by simp, by simp [hs], fun x hx => (List.mem_cons.mp hx).elim (fun e => e ▸ ho) (hv x)⟩
    · rintro ⟨r0, h0, s, rfl, hs, hv⟩
      cases s with
      | nil => cases hs
      | cons o s => exact ⟨r0 ++ [o], (st _).mpr ⟨o, hv o List.mem_cons_self, r0, h0, rfl⟩, s, by simp, by simpa using hs, fun x hx => hv x (List.mem_cons_of_mem _ hx)⟩
theorem fold_some : ∀ (ms : List D) (R : List (List D)) (r : List D), r ∈ ms.foldl (step true []) R ↔ ∃ r0 ∈ R, ∃ s, r = r0 ++ s ∧ List.Sublist s ms
  | [], R, r => by
    constructor
    · intro h; exact ⟨r, h, [], by simp, List.Sublist.slnil⟩
    · rintro ⟨r0, h, s, rfl, hs⟩
      rw [List.sublist_nil.mp hs, List.append_nil]
      exact h
  | m :: ms, R, r => by
    rw [List.foldl_cons, fold_some ms]
    have st : ∀ r, r ∈ step true [] R m ↔ (r ∈ R ∨ ∃ r0 ∈ R, r = r0 ++ [m]) := fun r => by
      show r ∈ R ++ [m].flatMap (ext R) ↔ _
      rw [List.mem_append, List.flatMap_cons, List.flatMap_nil, List.append_nil, mem_ext]
    constructor
    · rintro ⟨r1, h1, s, rfl, hs⟩
      rcases (st r1).mp h1 with h | ⟨r0, h, rfl⟩
      · exact ⟨r1, h, s, rfl, hs.cons m⟩
      · exact ⟨r0, h, m :: s, by simp, hs.cons_cons m⟩
    · rintro ⟨r0, h0, s, rfl, hs⟩
      cases hs with
      | cons _ h => exact ⟨r0, (st r0).mpr (.inl h0), s, rfl, h⟩
      | cons_cons _ h => exact ⟨r0 ++ [m], (st _).mpr (.inr ⟨r0, h0, rfl⟩), _, by simp, h⟩
theorem mem_tups {r : List D} {R : List (List D)} : (PyData.tuple r) ∈ tups R ↔ r ∈ R := by
  unfold tups
  rw [List.mem_map]
  exact ⟨fun ⟨a, h, e⟩ => by cases e; exact h, fun h => ⟨r, h, rfl⟩⟩
theorem all_map_mem {L : Sets} {s : Str} {ms : List Str} {k d : D} (e : look L s = some ms) : d ∈ allD L (.tuple [.str "map", .str s, k]) ↔ ∃ r, d = .tuple r ∧ r.length = ms.length ∧ ∀ x ∈ r, x ∈ valsD L k := by
  have ea : allD L (.tuple [.str "map", .str s, k]) = tups ((ms.map PyData.str).foldl (step false (valsD L k)) [[]]) := by simp [allD, e]
  rw [ea]
  constructor
  · intro h
    obtain ⟨r, hr, rfl⟩ := List.mem_map.mp h
    obtain ⟨r0, h0, t, rfl, ht, hv⟩ := (fold_map _ _ _ _).mp hr
    rw [List.length_map] at ht
    have : r0 = [] := by simpa using h0
    subst this
    exact ⟨_, rfl, by simpa using ht, by simpa using hv⟩
  · rintro ⟨r, rfl, hr, hv⟩
    exact mem_tups.mpr ((fold_map _ _ _ _).mpr ⟨[], by simp, r, by simp, by rw [List.length_map]; exact hr, hv⟩)
theorem all_some_mem {L : Sets} {s : Str} {ms : List Str} {d : D} (e : look L s = some ms) : d ∈ allD L (.tuple [.str "some", .str s]) ↔ ∃ r, d = .tuple r ∧ List.Sublist r (ms.map .str) := by
  have ea : allD L (.tuple [.str "some", .str s]) = tups ((ms.map PyData.str).foldl (step true []) [[]]) := by simp [allD, e]
  rw [ea]
  constructor
  · intro h
    obtain ⟨r, hr, rfl⟩ := List.mem_map.mp h
    obtain ⟨r0, h0, t, rfl, ht⟩ := (fold_some _ _ _).mp hr
    have : r0 = [] := by simpa using h0
    subst this
    exact ⟨_, rfl, by simpa using ht⟩
  · rintro ⟨r, rfl, hr⟩
    exact mem_tups.mpr ((fold_some _ _ _).mpr ⟨[], by simp, r, by simp, hr⟩)
theorem sm_num' {L : Sets} (i : Nat) (h1 : 1 ≤ i) (h2 : i ≤ 15) : smallD L (.tuple [.str "num", .int (i : Int)]) = true := sm_num i h1 h2
theorem all_one_ {L : Sets} (G : GL L) {k : D} (hk : Kind L k) : ∀ d ∈ allD L k, One d := by
  intro d hd
  cases hk with
  | num i h1 h2 =>
    have e : allD L (.tuple [.str "num", .int (i : Int)]) = valsD L (.tuple [.str "num", .int (i : Int)]) := by unfold allD; rfl
    rw [e] at hd
    exact .inl (vals_vu G (sm_num i h1 h2) d hd)
  | truth =>
    have e : allD L (.tuple [.str "truth"]) = valsD L (.tuple [.str "truth"]) := by unfold allD; rfl
    rw [e] at hd
    exact .inl (vals_vu G (by simp [smallD]) d hd)
  | one s ms e =>
    have ea : allD L (.tuple [.str "one", .str s]) = valsD L (.tuple [.str "one", .str s]) := by simp [allD, lits]
    rw [ea] at hd
    exact .inl (vals_vu G (few_small .one e) d hd)
  | some s ms e =>
    obtain ⟨r, rfl, hr⟩ := (all_some_mem e).mp hd
    have f := G.few _ (look_mem e)
    have hl := hr.length_le
    rw [List.length_map] at hl
    refine .inr ⟨r, rfl, Nat.le_trans hl f.1, fun x hx => ?_⟩
    obtain ⟨y, hy, rfl⟩ := List.mem_map.mp (hr.subset hx)
    exact List.mem_append_right _ (List.mem_map.mpr ⟨y, G.inE _ (look_mem e) y hy, rfl⟩)
  | map s ms k e fw =>
    obtain ⟨r, rfl, hr, hv⟩ := (all_map_mem e).mp hd
    have f := G.few _ (look_mem e)
    exact .inr ⟨r, rfl, by rw [hr]; exact f.1, fun x hx => vals_vu G (few_small fw e) x (hv x hx)⟩
end K02
set_option maxRecDepth 100000
set_option maxHeartbeats 2000000
namespace K02
open PySem PySem.Spec PyProof.Rows L2 Zz
/-- what is_value tells of scalars -/
def scalV (L : Sets) (k item : D) : Bool := match k, item with
  | .tuple [_, .int i], .int j => decide (0 ≤ j) && decide (j ≤ i)
  | .tuple [_], .bool _ => true
  | .tuple [_, .str s], .str x => decide (x ∈ (look L s).getD [])
  | _, _ => false
theorem body_is {n : Nat} {L : Sets} {k item : D} {v : D} {S : List Cell} (h : body_is_value (fn_is_value n) [some (.d (setsD L)), some (.d k), some (.d item), none, none, none] S = .rt (.d v) S) : fn_is_value (n + 1) [.d (setsD L), .d k, .d item] S = .ok (.d v) S :=
  body_ok (np := 3) (nl := 6) (b := body_is_value (fn_is_value n)) (as := [.d (setsD L), .d k, .d item]) h
theorem iv_num (n : Nat) (L : Sets) (i : Int) (item : D) (S : List Cell) : fn_is_value (n + 1) [.d (setsD L), .d (.tuple [.str "num", .int i]), .d item] S = .ok (.d (.bool (scalV L (.tuple [.str "num", .int i]) item))) S := by
  refine body_is ?_
  unfold body_is_value
  cases item with
  | int j =>
    by_cases h0 : 0 ≤ j
    · simp [Zz.iteA, Zz.sSeq, Zz.sIf, Zz.sRet, Zz.sNil, Zz.sSet, Zz.sExpr, Zz.sRetN, Zz.sAsg, Zz.toTup, Zz.toCons, Zz.toNil, Zz.toName, Zz.tOrD, Zz.tAndD, Zz.tNotD, Zz.toB, Zz.toBr, Zz.toT, Zz.truD, Zz.dFn1, Zz.on1, Zz.dVar, Zz.dBin, Zz.on2, Zz.dChain, Zz.dNot, Zz.dAnd, Zz.dOr, Zz.dIf, Zz.dTup, Zz.dLst, Zz.dNil, Zz.dCons, Zz.frzs, Zz.dCall, Zz.oLe, Zz.oLt, Zz.oGt, Zz.oGe, Zz.oCmp, oIx, atI0, atI1, eqS, lits, whole_f, scalV, h0]
    · simp [Zz.iteA, Zz.sSeq, Zz.sIf, Zz.sRet, Zz.sNil, Zz.sSet, Zz.sExpr, Zz.sRetN, Zz.sAsg, Zz.toTup, Zz.toCons, Zz.toNil, Zz.toName, Zz.tOrD, Zz.tAndD, Zz.tNotD, Zz.toB, Zz.toBr, Zz.toT, Zz.truD, Zz.dFn1, Zz.on1, Zz.dVar, Zz.dBin, Zz.on2, Zz.dChain, Zz.dNot, Zz.dAnd, Zz.dOr, Zz.dIf, Zz.dTup, Zz.dLst, Zz.dNil, Zz.dCons, Zz.frzs, Zz.dCall, Zz.oLe, Zz.oLt, Zz.oGt, Zz.oGe, Zz.oCmp, oIx, atI0, atI1, eqS, lits, whole_f, scalV, h0]
  | _ => simp [Zz.iteA, Zz.sSeq, Zz.sIf, Zz.sRet, Zz.sNil, Zz.sSet, Zz.sExpr, Zz.sRetN, Zz.sAsg, Zz.toTup, Zz.toCons, Zz.toNil, Zz.toName, Zz.tOrD, Zz.tAndD, Zz.tNotD, Zz.toB, Zz.toBr, Zz.toT, Zz.truD, Zz.dFn1, Zz.on1, Zz.dVar, Zz.dBin, Zz.on2, Zz.dChain, Zz.dNot, Zz.dAnd, Zz.dOr, Zz.dIf, Zz.dTup, Zz.dLst, Zz.dNil, Zz.dCons, Zz.frzs, Zz.dCall, Zz.oLe, Zz.oLt, Zz.oGt, Zz.oGe, Zz.oCmp, oIx, atI0, atI1, eqS, lits, whole_f, scalV]
theorem iv_truth (n : Nat) (L : Sets) (item : D) (S : List Cell) : fn_is_value (n + 1) [.d (setsD L), .d (.tuple [.str "truth"]), .d item] S = .ok (.d (.bool (scalV L (.tuple [.str "truth"]) item))) S := by
  refine body_is ?_
  unfold body_is_value
  cases item <;> simp [Zz.iteA, Zz.sSeq, Zz.sIf, Zz.sRet, Zz.sNil, Zz.sSet, Zz.sExpr, Zz.sRetN, Zz.sAsg, Zz.toTup, Zz.toCons, Zz.toNil, Zz.toName, Zz.tOrD, Zz.tAndD, Zz.tNotD, Zz.toB, Zz.toBr, Zz.toT, Zz.truD, Zz.dFn1, Zz.on1, Zz.dVar, Zz.dBin, Zz.on2, Zz.dChain, Zz.dNot, Zz.dAnd, Zz.dOr, Zz.dIf, Zz.dTup, Zz.dLst, Zz.dNil, Zz.dCons, Zz.frzs, Zz.dCall, Zz.oLe, Zz.oLt, Zz.oGt, Zz.oGe, Zz.oCmp, oIx, atI0, eqS, lits, oIsB, isB, scalV]
theorem iv_one (n : Nat) (L : Sets) (s : Str) (ms : List Str) (e : look L s = some ms) (item : D) (S : List Cell) : fn_is_value (n + 1) [.d (setsD L), .d (.tuple [.str "one", .str s]), .d item] S = .ok (.d (.bool (scalV L (.tuple [.str "one", .str s]) item))) S := by
  refine body_is ?_
  have ef := el_f L s ms e
  unfold body_is_value
  cases item with
  | str x => simp [Zz.iteA, Zz.sSeq, Zz.sIf, Zz.sRet, Zz.sNil, Zz.sSet, Zz.sExpr, Zz.sRetN, Zz.sAsg, Zz.toTup, Zz.toCons, Zz.toNil, Zz.toName, Zz.tOrD, Zz.tAndD, Zz.tNotD, Zz.toB, Zz.toBr, Zz.toT, Zz.truD, Zz.dFn1, Zz.on1, Zz.dVar, Zz.dBin, Zz.on2, Zz.dChain, Zz.dNot, Zz.dAnd, Zz.dOr, Zz.dIf, Zz.dTup, Zz.dLst, Zz.dNil, Zz.dCons, Zz.frzs, Zz.dCall, Zz.oLe, Zz.oLt, Zz.oGt, Zz.oGe, Zz.oCmp, oIx, atI0, atI1, eqS, lits, ef, oIsB, isB, inT, scalV, e]
  | _ => simp [Zz.iteA, Zz.sSeq, Zz.sIf, Zz.sRet, Zz.sNil, Zz.sSet, Zz.sExpr, Zz.sRetN, Zz.sAsg, Zz.toTup, Zz.toCons, Zz.toNil, Zz.toName, Zz.tOrD, Zz.tAndD, Zz.tNotD, Zz.toB, Zz.toBr, Zz.toT, Zz.truD, Zz.dFn1, Zz.on1, Zz.dVar, Zz.dBin, Zz.on2, Zz.dChain, Zz.dNot, Zz.dAnd, Zz.dOr, Zz.dIf, Zz.dTup, Zz.dLst, Zz.dNil, Zz.dCons, Zz.frzs, Zz.dCall, Zz.oLe, Zz.oLt, Zz.oGt, Zz.oGe, Zz.oCmp, oIx, atI0, atI1, eqS, lits, ef, oIsB, isB, scalV]
theorem scal_mem {L : Sets} {k : D} (h : smallD L k = true) (item : D) : scalV L k item = true ↔ item ∈ valsD L k := by
  rcases small_cases h with ⟨i, rfl, h1, h2⟩ | rfl | ⟨s, ms, rfl, hl⟩
  · have e : valsD L (.tuple [.str "num", .int i]) = rgD (i + 1) := by simp [valsD]
    rw [e]
    cases item with
    | int j => rw [mem_rg]; simp [scalV]
    | _ => exact ⟨fun z => (by cases z), fun z => by obtain ⟨j, z⟩ := rg_int _ _ z; cases z⟩
  · cases item with
    | bool b => cases b <;> simp [scalV, valsD]
    | _ => simp [scalV, valsD]
  · have e : valsD L (.tuple [.str "one", .str s]) = ms.map .str := by simp [valsD, hl]
    rw [e]
    cases item with
    | str x => simp [scalV, hl]
    | _ => simp [scalV]
theorem iv_small {L : Sets} {k : D} (h : smallD L k = true) (n : Nat) (item : D) (S : List Cell) : fn_is_value (n + 1) [.d (setsD L), .d k, .d item] S = .ok (.d (.bool (scalV L k item))) S := by
  rcases small_cases h with ⟨i, rfl, h1, h2⟩ | rfl | ⟨s, ms, rfl, hl⟩
  · exact iv_num n L i item S
  · exact iv_truth n L item S
  · exact iv_one n L s ms hl item S
theorem asBool_map {A : Type} (p : A → Bool) : ∀ l : List A, (l.map fun c => PyData.bool (p c)).mapM asBool = some (l.map p)
  | [] => rfl
  | a :: l => by
    rw [List.map_cons, List.mapM_cons, asBool_map p l]
    rfl
theorem oAll_map {A : Type} (p : A → Bool) (l : List A) : oAll (.list (l.map fun c => PyData.bool (p c))) = some (.bool (l.all p)) := by
  show Option.map (fun bs : List Bool => PyData.bool (bs.all id)) ((l.map fun c => PyData.bool (p c)).mapM asBool) = _
  rw [asBool_map]
  simp
theorem comp_map {n : Nat} {L : Sets} {s : Str} {k : D} (h : smallD L k = true) (ds : List D) (hl : ds.length ≤ 16777216) (o3 o4 : Option Val) (S : List Cell) :
    (dLc (itAny (dVar 2)) (toName 5) (fun l => kTest (fun _ => M.ret true) (kPush l (dCall (fn_is_value (n + 1)) (dCons (dVar 0) (dCons (dBin oIx (dVar 1) (dC (.int 2))) (dCons (dVar 5) dNil)))))) [5]) [some (.d (setsD L)), some (.d (.tuple [.str "map", .str s, k])), some (.d (.tuple ds)), o3, o4, none] S = .ok (.d (.list (ds.map fun d => .bool (scalV L k d)))) S := by
  have hit : itAny (dVar 2) [some (.d (setsD L)), some (.d (.tuple [.str "map", .str s, k])), some (.d (.tuple ds)), o3, o4, none] S = .ok ds S := itAny_at (d := .tuple ds) rfl rfl
  rw [dLc_pure (ρ1 := fun d => [some (.d (setsD L)), some (.d (.tuple [.str "map", .str s, k])), some (.d (.tuple ds)), o3, o4, some (.d d)]) (p := fun _ => true) (v := fun d => .bool (scalV L k d)) hit hl (fun d _ => rfl) (fun d _ R => rfl) fun d hd _ R => ?_]
  · rw [filter_yes]
  · exact (dCall_at (dCons_at rfl (dCons_at (dBin_at rfl rfl rfl rfl (atI2 _ _ _ _)) (dCons_at rfl rfl)))).trans (iv_small h n d _)
def mapV (L : Sets) (ms : List Str) (k : D) : D → Bool
  | .tuple ds => decide (ds.length = ms.length) && ds.all fun d => scalV L k d
  | _ => false
theorem iv_map {L : Sets} (n : Nat) {s : Str} {ms : List Str} {k : D} (e : look L s = some ms) (h : smallD L k = true) (item : D) (hi : ∀ ds, item = .tuple ds → ds.length ≤ 16777216) (S : List Cell) : fn_is_value (n + 2) [.d (setsD L), .d (.tuple [.str "map", .str s, k]), .d item] S = .ok (.d (.bool (mapV L ms k item))) S := by
  refine body_is ?_
  have ef := el_f L s ms e
  unfold body_is_value
  cases item with
  | tuple ds =>
    have lm : oLen (.tuple (ms.map .str)) = some (.int ms.length) := by show some (PyData.int (ms.map PyData.str).length) = _; rw [List.length_map]
    have ld : oLen (.tuple ds) = some (.int ds.length) := rfl
    have cm := comp_map (n := n) (s := s) h ds (hi ds rfl)
    have am := oAll_map (fun d => scalV L k d) ds
    by_cases hh : ds.length = ms.length
    · have h2 : ((ds.length : Nat) : Int) = (ms.length : Int) := by omega
      simp [Zz.iteA, Zz.sSeq, Zz.sIf, Zz.sRet, Zz.sNil, Zz.sSet, Zz.sExpr, Zz.sRetN, Zz.sAsg, Zz.toTup, Zz.toCons, Zz.toNil, Zz.toName, Zz.tOrD, Zz.tAndD, Zz.tNotD, Zz.toB, Zz.toBr, Zz.toT, Zz.truD, Zz.dFn1, Zz.on1, Zz.dVar, Zz.dBin, Zz.on2, Zz.dChain, Zz.dNot, Zz.dAnd, Zz.dOr, Zz.dIf, Zz.dTup, Zz.dLst, Zz.dNil, Zz.dCons, Zz.frzs, Zz.dCall, Zz.oLe, Zz.oLt, Zz.oGt, Zz.oGe, Zz.oCmp, oIx, atI0, atI1, eqS, lits, ef, oIsB, isB, lm, ld, neI, hh, cm, am, mapV]
    · have h2 : ¬ ((ds.length : Nat) : Int) = (ms.length : Int) := by omega
      simp [Zz.iteA, Zz.sSeq, Zz.sIf, Zz.sRet, Zz.sNil, Zz.sSet, Zz.sExpr, Zz.sRetN, Zz.sAsg, Zz.toTup, Zz.toCons, Zz.toNil, Zz.toName, Zz.tOrD, Zz.tAndD, Zz.tNotD, Zz.toB, Zz.toBr, Zz.toT, Zz.truD, Zz.dFn1, Zz.on1, Zz.dVar, Zz.dBin, Zz.on2, Zz.dChain, Zz.dNot, Zz.dAnd, Zz.dOr, Zz.dIf, Zz.dTup, Zz.dLst, Zz.dNil, Zz.dCons, Zz.frzs, Zz.dCall, Zz.oLe, Zz.oLt, Zz.oGt, Zz.oGe, Zz.oCmp, oIx, atI0, atI1, eqS, lits, ef, oIsB, isB, lm, ld, neI, hh, h2, mapV]
  | _ => simp [Zz.iteA, Zz.sSeq, Zz.sIf, Zz.sRet, Zz.sNil, Zz.sSet, Zz.sExpr, Zz.sRetN, Zz.sAsg, Zz.toTup, Zz.toCons, Zz.toNil, Zz.toName, Zz.tOrD, Zz.tAndD, Zz.tNotD, Zz.toB, Zz.toBr, Zz.toT, Zz.truD, Zz.dFn1, Zz.on1, Zz.dVar, Zz.dBin, Zz.on2, Zz.dChain, Zz.dNot, Zz.dAnd, Zz.dOr, Zz.dIf, Zz.dTup, Zz.dLst, Zz.dNil, Zz.dCons, Zz.frzs, Zz.dCall, Zz.oLe, Zz.oLt, Zz.oGt, Zz.oGe, Zz.oCmp, oIx, atI0, atI1, eqS, lits, ef, oIsB, isB, mapV]
theorem map_mem {L : Sets} {s : Str} {ms : List Str} {k : D} (e : look L s = some ms) (h : smallD L k = true) (item : D) : mapV L ms k item = true ↔ item ∈ allD L (.tuple [.str "map", .str s, k]) := by
  rw [all_map_mem e]
  cases item with
  | tuple ds =>
    simp only [mapV, Bool.and_eq_true, decide_eq_true_eq, List.all_eq_true]
    constructor
    · rintro ⟨h1, h2⟩
      exact ⟨ds, rfl, h1, fun x hx => (scal_mem h x).mp (h2 x hx)⟩
    · rintro ⟨r, e, h1, h2⟩
      cases e
      exact ⟨h1, fun x hx => (scal_mem h x).mpr (h2 x hx)⟩
  | _ => exact ⟨fun z => (by cases z), fun ⟨r, e, _⟩ => by cases e⟩
end K02
set_option maxRecDepth 100000
set_option maxHeartbeats 2000000
namespace K02
open PySem PySem.Spec PyProof.Rows L2 Zz
theorem eqvAll_strs : ∀ us vs : List Str, PyData.eqvAll (us.map .str) (vs.map .str) = decide (us = vs)
  | [], [] => rfl
  | [], _ :: _ => rfl
  | _ :: _, [] => rfl
  | u :: us, v :: vs => by
    rw [List.map_cons, List.map_cons, PyData.eqvAll, eqvAll_strs us vs]
    by_cases h : u = v
    · simp [PyData.eqv, h]
    · simp [PyData.eqv, h]
theorem eq_strs (us vs : List Str) (h1 : SeqAt.shaped (.list (us.map .str)) = true) (h2 : SeqAt.shaped (.list (vs.map .str)) = true) : oEq (.list (us.map .str)) (.list (vs.map .str)) = some (.bool (decide (us = vs))) := by
  unfold oEq eqD
  simp only [flatD, Bool.false_and, h1, h2, Bool.and_self, if_true]
  rw [PyData.eqv, eqvAll_strs]
  rfl
def isS : D → Bool
  | .str _ => true
  | _ => false
def sOf : D → Str
  | .str x => x
  | _ => ""
theorem strs_back : ∀ {ds : List D}, ds.all isS = true → ds = (ds.map sOf).map .str
  | [], _ => rfl
  | d :: ds, h => by
    rw [List.all_cons, Bool.and_eq_true] at h
    rw [List.map_cons, List.map_cons, ← strs_back h.2]
    cases d <;> first | rfl | (exact absurd h.1 (by simp [isS]))
def partV (ms : List Str) : D → Bool
  | .tuple ds => decide (ds.length ≤ ms.length) && (ds.all isS && decide (ds.map sOf = ms.filter fun m => decide (m ∈ ds.map sOf)))
  | _ => false
theorem comp1 (ms : List Str) (ds : List D) (hl : ds.length ≤ 16777216) (o3 : Option Val) (S : List Cell) : (dLc (itAny (dVar 1)) (toName 2) (fun l => kTest (fun _ => M.ret true) (kPush l (dFn1 (oIsB "str") (dVar 2)))) [2]) [some (.d (.tuple (ms.map .str))), some (.d (.tuple ds)), none, o3] S = .ok (.d (.list (ds.map fun d => .bool (isS d)))) S := by
  have hit : itAny (dVar 1) [some (.d (.tuple (ms.map .str))), some (.d (.tuple ds)), none, o3] S = .ok ds S := itAny_at (d := .tuple ds) rfl rfl
  rw [dLc_pure (ρ1 := fun d => [some (.d (.tuple (ms.map .str))), some (.d (.tuple ds)), some (.d d), o3]) (p := fun _ => true) (v := fun d => .bool (isS d)) hit hl (fun d _ => rfl) (fun d _ R => rfl) fun d hd _ R => ?_]
  · rw [filter_yes]
  · exact dFn1_at rfl rfl (by cases d <;> rfl)
theorem filt_strs (us ms : List Str) : ((ms.map PyData.str).filter fun d => decide (sOf d ∈ us)) = (ms.filter fun m => decide (m ∈ us)).map .str := by
  rw [List.filter_map]
  rfl
theorem comp2 (ms us : List Str) (hl : ms.length ≤ 16777216) (o2 : Option Val) (S : List Cell) : (dLc (itAny (dVar 0)) (toName 3) (fun l => kTest (toB (dBin oIn (dVar 3) (dVar 1))) (kPush l (dVar 3))) [3]) [some (.d (.tuple (ms.map .str))), some (.d (.tuple (us.map .str))), o2, none] S = .ok (.d (.list ((ms.filter fun m => decide (m ∈ us)).map .str))) S := by
  have hit : itAny (dVar 0) [some (.d (.tuple (ms.map .str))), some (.d (.tuple (us.map .str))), o2, none] S = .ok (ms.map .str) S := itAny_at (d := .tuple (ms.map .str)) rfl rfl
  rw [dLc_pure (ρ1 := fun d => [some (.d (.tuple (ms.map .str))), some (.d (.tuple (us.map .str))), o2, some (.d d)]) (p := fun d => decide (sOf d ∈ us)) (v := fun d => d) hit (by rw [List.length_map]; exact hl) (fun d _ => rfl) (fun d hd R => ?_) fun d hd _ R => rfl]
  · rw [List.map_id', filt_strs]
  · obtain ⟨m, _, rfl⟩ := List.mem_map.mp hd
    exact toB_at (dBin_at rfl rfl rfl rfl (inT m us))
theorem tidy_list {l : List Str} (hl : l.length ≤ 10) (h : ∀ x ∈ l, okS x = true) : Tidy 1 (.list (l.map .str)) :=
  Tidy.lst (by rw [List.length_map]; exact hl) fun d hd => by
    obtain ⟨x, hx, rfl⟩ := List.mem_map.mp hd
    exact h x hx
theorem part_f (ms : List Str) (hm : ms.length ≤ 4) (hok : ∀ x ∈ ms, okS x = true) (item : D) (hi : Tidy 4 item) (S : List Cell) : fn_u_is_part [.d (.tuple (ms.map .str)), .d item] S = .ok (.d (.bool (partV ms item))) S := by
  refine body_ok ?_
  show body_u_is_part [some (.d (.tuple (ms.map .str))), some (.d item), none, none] S = _
  cases item with
  | tuple ds =>
    have lm : oLen (.tuple (ms.map .str)) = some (.int ms.length) := by show some (PyData.int (ms.map PyData.str).length) = _; rw [List.length_map]
    have ld : oLen (.tuple ds) = some (.int ds.length) := rfl
    have hds := hi.in_tup
    have c1 := fun o3 => comp1 ms ds (by omega) o3 S
    have a1 := oAll_map isS ds
    by_cases hh : ds.length ≤ ms.length
    · have s1 : (sIf (tOrD (tNotD (toB (dFn1 (oIsB "tuple") (dVar 1)))) (toB (dBin oGt (dFn1 oLen (dVar 1)) (dFn1 oLen (dVar 0))))) (sRet (dC (.bool false))) sNil) [some (.d (.tuple (ms.map .str))), some (.d (.tuple ds)), none, none] S = .nx [some (.d (.tuple (ms.map .str))), some (.d (.tuple ds)), none, none] S :=
        sIf_skip (tOrD_f (tNotD_at (b := true) (toB_at (dFn1_at rfl rfl rfl))) (toB_at (dBin_at (dFn1_at rfl rfl ld) (dFn1_at rfl rfl lm) rfl rfl (by show some (PyData.bool (decide ((ms.length : Int) < ds.length))) = some (.bool false); rw [decide_eq_false (by omega)]))))
      cases hs : ds.all isS
      · rw [hs] at a1
        have s2 : (sIf (tNotD (toB (dFn1 oAll (dLc (itAny (dVar 1)) (toName 2) (fun l => kTest (fun _ => M.ret true) (kPush l (dFn1 (oIsB "str") (dVar 2)))) [2])))) (sRet (dC (.bool false))) sNil) [some (.d (.tuple (ms.map .str))), some (.d (.tuple ds)), none, none] S = .rt (.d (.bool false)) S :=
          (sIf_t (tNotD_at (b := false) (toB_at (dFn1_at (c1 none) rfl a1)))).trans rfl
        have ev : partV ms (.tuple ds) = false := by simp [partV, hs]
        rw [ev]
        unfold body_u_is_part
        rw [sSeq_nx s1, sSeq_rt s2]
      · rw [hs] at a1
        have s2 : (sIf (tNotD (toB (dFn1 oAll (dLc (itAny (dVar 1)) (toName 2) (fun l => kTest (fun _ => M.ret true) (kPush l (dFn1 (oIsB "str") (dVar 2)))) [2])))) (sRet (dC (.bool false))) sNil) [some (.d (.tuple (ms.map .str))), some (.d (.tuple ds)), none, none] S = .nx [some (.d (.tuple (ms.map .str))), some (.d (.tuple ds)), none, none] S :=
          sIf_skip (tNotD_at (b := true) (toB_at (dFn1_at (c1 none) rfl a1)))
        have eb := strs_back hs
        generalize hu : ds.map sOf = us at eb
        subst eb
        have c2 := comp2 ms us (by omega) none S
        have sh1 : SeqAt.shaped (.list (us.map .str)) = true := by
          have z := hi.sh (by decide)
          unfold SeqAt.shaped at *
          rw [PyData.canLay0, PyData.depth] at *
          exact z
        have sh2 : SeqAt.shaped (.list ((ms.filter fun m => decide (m ∈ us)).map .str)) = true :=
          (tidy_list (by have := List.length_filter_le (fun m => decide (m ∈ us)) ms; omega) fun x hx => hok x (List.mem_filter.mp hx).1).sh (by decide)
        have eq := eq_strs us (ms.filter fun m => decide (m ∈ us)) sh1 sh2
        have ev : partV ms (.tuple (us.map .str)) = decide (us = ms.filter fun m => decide (m ∈ us)) := by
          show (decide ((us.map PyData.str).length ≤ ms.length) && ((us.map PyData.str).all isS && decide ((us.map PyData.str).map sOf = ms.filter fun m => decide (m ∈ (us.map PyData.str).map sOf)))) = _
          rw [hs, hu, decide_eq_true hh]
          rfl
        rw [ev]
        unfold body_u_is_part
        rw [sSeq_nx s1, sSeq_nx s2]
        exact sRet_at (dBin_at (dFn1_at rfl rfl rfl) c2 rfl rfl eq)
    · have s1 : (sIf (tOrD (tNotD (toB (dFn1 (oIsB "tuple") (dVar 1)))) (toB (dBin oGt (dFn1 oLen (dVar 1)) (dFn1 oLen (dVar 0))))) (sRet (dC (.bool false))) sNil) [some (.d (.tuple (ms.map .str))), some (.d (.tuple ds)), none, none] S = .rt (.d (.bool false)) S :=
        have t1 : (tOrD (tNotD (toB (dFn1 (oIsB "tuple") (dVar 1)))) (toB (dBin oGt (dFn1 oLen (dVar 1)) (dFn1 oLen (dVar 0))))) [some (.d (.tuple (ms.map .str))), some (.d (.tuple ds)), none, none] S = .ok true S := tOrD_f (tNotD_at (b := true) (toB_at (dFn1_at rfl rfl rfl))) (toB_at (dBin_at (dFn1_at rfl rfl ld) (dFn1_at rfl rfl lm) rfl rfl (by show some (PyData.bool (decide ((ms.length : Int) < ds.length))) = some (.bool true); rw [decide_eq_true (by omega)])))
        (sIf_t t1).trans rfl
      have ev : partV ms (.tuple ds) = false := by simp [partV, hh]
      rw [ev]
      unfold body_u_is_part
      rw [sSeq_rt s1]
  | _ =>
    unfold body_u_is_part
    simp [Zz.iteA, Zz.sSeq, Zz.sIf, Zz.sRet, Zz.sNil, Zz.sSet, Zz.sExpr, Zz.sRetN, Zz.sAsg, Zz.toTup, Zz.toCons, Zz.toNil, Zz.toName, Zz.tOrD, Zz.tAndD, Zz.tNotD, Zz.toB, Zz.toBr, Zz.toT, Zz.truD, Zz.dFn1, Zz.on1, Zz.dVar, Zz.dBin, Zz.on2, Zz.dChain, Zz.dNot, Zz.dAnd, Zz.dOr, Zz.dIf, Zz.dTup, Zz.dLst, Zz.dNil, Zz.dCons, Zz.frzs, Zz.dCall, Zz.oLe, Zz.oLt, Zz.oGt, Zz.oGe, Zz.oCmp, oIsB, isB, partV]
theorem iv_some {L : Sets} (G : GL L) (n : Nat) {s : Str} {ms : List Str} (e : look L s = some ms) (item : D) (hi : Tidy 4 item) (S : List Cell) : fn_is_value (n + 1) [.d (setsD L), .d (.tuple [.str "some", .str s]), .d item] S = .ok (.d (.bool (partV ms item))) S := by
  refine body_is ?_
  have ef := el_f L s ms e
  have f := (G.few _ (look_mem e)).1
  have pf := part_f ms f (G.el _ (look_mem e)) item hi
  unfold body_is_value
  simp [Zz.iteA, Zz.sSeq, Zz.sIf, Zz.sRet, Zz.sNil, Zz.sSet, Zz.sExpr, Zz.sRetN, Zz.sAsg, Zz.toTup, Zz.toCons, Zz.toNil, Zz.toName, Zz.tOrD, Zz.tAndD, Zz.tNotD, Zz.toB, Zz.toBr, Zz.toT, Zz.truD, Zz.dFn1, Zz.on1, Zz.dVar, Zz.dBin, Zz.on2, Zz.dChain, Zz.dNot, Zz.dAnd, Zz.dOr, Zz.dIf, Zz.dTup, Zz.dLst, Zz.dNil, Zz.dCons, Zz.frzs, Zz.dCall, Zz.oLe, Zz.oLt, Zz.oGt, Zz.oGe, Zz.oCmp, oIx, atI0, atI1, eqS, lits, ef, pf]
theorem sub_filter : ∀ {us ms : List Str}, List.Sublist us ms → ms.Nodup → us = ms.filter fun m => decide (m ∈ us)
  | _, _, .slnil, _ => rfl
  | us, a :: ms, .cons _ h, hn => by
    have h1 := List.nodup_cons.mp hn
    have na : ¬ a ∈ us := fun z => h1.1 (h.subset z)
    rw [List.filter_cons, if_neg (by simp [na])]
    exact sub_filter h h1.2
  | a :: us, _ :: ms, .cons_cons _ h, hn => by
    have h1 := List.nodup_cons.mp hn
    rw [List.filter_cons, if_pos (by simp)]
    have ih := sub_filter h h1.2
    have e : (ms.filter fun m => decide (m ∈ a :: us)) = ms.filter fun m => decide (m ∈ us) := List.filter_congr fun m hm => by
      have na : ¬ m = a := fun z => h1.1 (z ▸ hm)
      simp [na]
    rw [e, ← ih]
theorem some_mem {L : Sets} (G : GL L) {s : Str} {ms : List Str} (e : look L s = some ms) (item : D) : partV ms item = true ↔ item ∈ allD L (.tuple [.str "some", .str s]) := by
  rw [all_some_mem e]
  have nd := (G.few _ (look_mem e)).2.2
  cases item with
  | tuple ds =>
    simp only [partV, Bool.and_eq_true, decide_eq_true_eq]
    constructor
    · rintro ⟨h1, h2, h3⟩
      refine ⟨ds, rfl, ?_⟩
      rw [strs_back h2]
      refine List.Sublist.map _ ?_
      rw [h3]
      exact List.filter_sublist
    · rintro ⟨r, e, h⟩
      cases e
      obtain ⟨us, hu, rfl⟩ := List.sublist_map_iff.mp h
      have em : (us.map PyData.str).map sOf = us := by rw [List.map_map]; exact List.map_id us
      refine ⟨by rw [List.length_map]; exact hu.length_le, ?_, ?_⟩
      · rw [List.all_eq_true]
        intro d hd
        obtain ⟨x, _, rfl⟩ := List.mem_map.mp hd
        rfl
      · rw [em]
        exact sub_filter hu nd
  | _ => exact ⟨fun z => (by cases z), fun ⟨r, e, _⟩ => by cases e⟩
end K02
set_option maxRecDepth 100000
set_option maxHeartbeats 2000000
namespace K02
open PySem PySem.Spec PyProof.Rows L2 Zz
def kindV (L : Sets) (k item : D) : Bool := match k with
  | .tuple [.str t, .str s] => if t = "some" then partV ((look L s).getD []) item else scalV L (.tuple [.str t, .str s]) item
  | .tuple [.str _, .str s, kk] => mapV L ((look L s).getD []) kk item
  | k => scalV L k item
theorem value_f {L : Sets} (G : GL L) {k : D} (hk : Kind L k) (item : D) (hi : Tidy 4 item) (S : List Cell) : fn_is_value 3 [.d (setsD L), .d k, .d item] S = .ok (.d (.bool (kindV L k item))) S := by
  cases hk with
  | num i h1 h2 => exact iv_small (sm_num i h1 h2) 2 item S
  | truth => exact iv_small (k := .tuple [.str "truth"]) (by simp [smallD]) 2 item S
  | one s ms e =>
    have z := iv_small (few_small (s := s) .one e) 2 item S
    rw [z]
    simp [kindV, lits]
  | some s ms e =>
    have z := iv_some G 2 e item hi S
    rw [z]
    simp [kindV, e]
  | map s ms k e fw =>
    have z := iv_map 1 e (few_small fw e) item (fun ds h => by subst h; have := hi.in_tup; omega) S
    rw [z]
    simp [kindV, e]
theorem kind_mem {L : Sets} (G : GL L) {k : D} (hk : Kind L k) (item : D) : kindV L k item = true ↔ item ∈ allD L k := by
  cases hk with
  | num i h1 h2 =>
    have e : allD L (.tuple [.str "num", .int (i : Int)]) = valsD L (.tuple [.str "num", .int (i : Int)]) := by unfold allD; rfl
    rw [e]
    exact scal_mem (sm_num i h1 h2) item
  | truth =>
    have e : allD L (.tuple [.str "truth"]) = valsD L (.tuple [.str "truth"]) := by unfold allD; rfl
    rw [e]
    exact scal_mem (k := .tuple [.str "truth"]) (by simp [smallD]) item
  | one s ms e =>
    have ea : allD L (.tuple [.str "one", .str s]) = valsD L (.tuple [.str "one", .str s]) := by simp [allD, lits]
    have ev : kindV L (.tuple [.str "one", .str s]) item = scalV L (.tuple [.str "one", .str s]) item := by simp [kindV, lits]
    rw [ea, ev]
    exact scal_mem (few_small .one e) item
  | some s ms e =>
    have ev : kindV L (.tuple [.str "some", .str s]) item = partV ms item := by simp [kindV, e]
    rw [ev]
    exact some_mem G e item
  | map s ms k e fw =>
    have ev : kindV L (.tuple [.str "map", .str s, k]) item = mapV L ms k item := by simp [kindV, e]
    rw [ev]
    exact map_mem e (few_small fw e) item
theorem fold_len (b : Bool) (vals : List D) (hl : vals.length ≤ 4) : ∀ (ms : List D) (R : List (List D)), (ms.foldl (step b vals) R).length ≤ 4 ^ ms.length * R.length
  | [], R => by simp
  | m :: ms, R => by
    have h1 := fold_len b vals hl ms (step b vals R m)
    have h2 := step_len b vals hl R m
    rw [List.foldl_cons, List.length_cons, Nat.pow_succ]
    refine Nat.le_trans h1 ?_
    rw [Nat.mul_assoc]
    exact Nat.mul_le_mul_left _ h2
theorem all_len {L : Sets} (G : GL L) {k : D} (hk : Kind L k) : (allD L k).length ≤ 256 := by
  have p4 : ∀ i, i ≤ 4 → 4 ^ i ≤ 256 := by decide
  cases hk with
  | num i h1 h2 =>
    have e : allD L (.tuple [.str "num", .int (i : Int)]) = rgD ((i : Int) + 1) := by unfold allD; rfl
    rw [e]
    unfold rgD
    rw [List.length_map, List.length_range]
    omega
  | truth => show 2 ≤ 256; omega
  | one s ms e =>
    have ea : allD L (.tuple [.str "one", .str s]) = ms.map .str := by simp [allD, lits, valsD, e]
    rw [ea, List.length_map]
    have h4 : ms.length ≤ 4 := (G.few _ (look_mem e)).1
    omega
  | some s ms e =>
    have ea : allD L (.tuple [.str "some", .str s]) = tups ((ms.map PyData.str).foldl (step true []) [[]]) := by simp [allD, e]
    rw [ea]
    unfold tups
    rw [List.length_map]
    have h1 := fold_len true [] (by simp) (ms.map .str) [[]]
    rw [List.length_map] at h1
    have h2 : 4 ^ ms.length ≤ 256 := p4 _ (G.few _ (look_mem e)).1
    simp at h1
    omega
  | map s ms k e fw =>
    have ea : allD L (.tuple [.str "map", .str s, k]) = tups ((ms.map PyData.str).foldl (step false (valsD L k)) [[]]) := by simp [allD, e]
    rw [ea]
    unfold tups
    rw [List.length_map]
    have h1 := fold_len false (valsD L k) (few_vals G fw e) (ms.map .str) [[]]
    rw [List.length_map] at h1
    have h2 : 4 ^ ms.length ≤ 256 := p4 _ (G.few _ (look_mem e)).1
    simp at h1
    omega
theorem comp_all {L : Sets} (G : GL L) {k : D} (hk : Kind L k) (item : D) (hi : Tidy 4 item) (S : List Cell) :
    (dLc (itAny (dCall fn_u_law_all_values (dCons (dVar 0) (dCons (dVar 1) dNil)))) (toName 3) (fun l => kTest (toB (dBin oEq (dFn1 oRepr (dVar 3)) (dFn1 oRepr (dVar 2)))) (kPush l (dVar 3))) [3]) [some (.d (setsD L)), some (.d k), some (.d item), none] S = .ok (.d (.list ((allD L k).filter fun d => decide (d.shown = item.shown)))) S := by
  have hit : itAny (dCall fn_u_law_all_values (dCons (dVar 0) (dCons (dVar 1) dNil))) [some (.d (setsD L)), some (.d k), some (.d item), none] S = .ok (allD L k) S :=
    itAny_at (d := .list (allD L k)) ((dCall_at (dCons_at rfl (dCons_at rfl rfl))).trans (all_f G hk S)) rfl
  have hl := all_len G hk
  rw [dLc_pure (ρ1 := fun d => [some (.d (setsD L)), some (.d k), some (.d item), some (.d d)]) (p := fun d => decide (d.shown = item.shown)) (v := fun d => d) hit (by omega) (fun d _ => rfl) (fun d hd R => ?_) fun d hd _ R => rfl]
  · rw [List.map_id']
  · have r1 := ((all_one_ G hk d hd).pt.ty).repr (by decide)
    have r2 := hi.repr (by decide)
    exact toB_at (dBin_at (dFn1_at rfl rfl r1) (dFn1_at rfl rfl r2) rfl rfl (eqS _ _))
theorem ne_nil (l : List D) (h : SeqAt.shaped (.list l) = true) : oNe (.list l) (.list []) = some (.bool (!l.isEmpty)) := by
  have h2 : SeqAt.shaped (.list []) = true := by decide +kernel
  unfold oNe eqD
  simp [flatD, h, h2]
  cases l <;> rfl
theorem law_value_f {L : Sets} (G : GL L) {k : D} (hk : Kind L k) (item : D) (hi : PT 2 item) (S : List Cell) : fn_u_law_is_value [.d (setsD L), .d k, .d item] S = .ok (.d (.bool (kindV L k item))) S := by
  refine body_ok ?_
  show body_u_law_is_value [some (.d (setsD L)), some (.d k), some (.d item), none] S = _
  have ty : Tidy 4 item := hi.ty.le (by decide)
  have ca := comp_all G hk item ty S
  have sh : SeqAt.shaped (.list ((allD L k).filter fun d => decide (d.shown = item.shown))) = true := by
    have f : ∀ d ∈ (allD L k).filter fun d => decide (d.shown = item.shown), Fit 1 d := fun d hd => fit_of (all_one_ G hk d (List.mem_filter.mp hd).1).pt.ty
    have dp := depth_of (n := 1) fun d hd => (f d hd).dep
    unfold SeqAt.shaped
    rw [PyData.canLay0, PyData.depth, lay_of fun d hd => (f d hd).lay]
    exact decide_eq_true (Nat.le_trans (Nat.succ_le_succ dp) (by decide))
  have nn := ne_nil _ sh
  have ev : (!((allD L k).filter fun d => decide (d.shown = item.shown)).isEmpty) = kindV L k item := by
    rw [Bool.eq_iff_iff, kind_mem G hk]
    constructor
    · intro h
      cases q : (allD L k).filter fun d => decide (d.shown = item.shown) with
      | nil => rw [q] at h; cases h
      | cons d r =>
        have hd : d ∈ (allD L k).filter fun d => decide (d.shown = item.shown) := by rw [q]; exact List.mem_cons_self
        obtain ⟨h1, h2⟩ := List.mem_filter.mp hd
        have e := shown_inj (all_one_ G hk d h1).pt.pl hi.pl (of_decide_eq_true h2)
        rw [← e]
        exact h1
    · intro h
      have hd : item ∈ (allD L k).filter fun d => decide (d.shown = item.shown) := List.mem_filter.mpr ⟨h, decide_eq_true rfl⟩
      cases q : (allD L k).filter fun d => decide (d.shown = item.shown) with
      | nil => rw [q] at hd; cases hd
      | cons d r => rfl
  rw [ev] at nn
  have fin : (sRet (dBin oNe (dLc (itAny (dCall fn_u_law_all_values (dCons (dVar 0) (dCons (dVar 1) dNil)))) (toName 3) (fun l => kTest (toB (dBin oEq (dFn1 oRepr (dVar 3)) (dFn1 oRepr (dVar 2)))) (kPush l (dVar 3))) [3]) (dLst dNil))) [some (.d (setsD L)), some (.d k), some (.d item), none] S = .rt (.d (.bool (kindV L k item))) S := sRet_at (dBin_at ca (dLst_at (ds := []) rfl rfl (by show 0 ≤ 16777216; decide)) rfl rfl nn)
  have go : ∀ (w : Str) (r : List D), k = .tuple (.str w :: r) → body_u_law_is_value [some (.d (setsD L)), some (.d k), some (.d item), none] S = .rt (.d (.bool (kindV L k item))) S := fun w r e => by
    subst e
    have e0 : toB (dBin oIn (dBin oIx (dVar 1) (dC (.int 0))) (dTup (dCons (dC (.str "some")) (dCons (dC (.str "map")) dNil)))) [some (.d (setsD L)), some (.d (.tuple (.str w :: r))), some (.d item), none] S = .ok (decide (w = "some") || decide (w = "map")) S :=
      toB_at (dBin_at (dBin_at rfl rfl rfl rfl (atI0 _ _)) (dTup_at (ds := [.str "some", .str "map"]) (dCons_at rfl (dCons_at rfl rfl)) rfl (by show 2 ≤ 16777216; decide)) rfl rfl (inSM w))
    have e1 : tNotD (toB (dFn1 (oIsB "tuple") (dVar 2))) [some (.d (setsD L)), some (.d (.tuple (.str w :: r))), some (.d item), none] S = .ok (!(isB "tuple" item)) S := tNotD_at (toB_at (dFn1_at rfl rfl rfl))
    cases hw : (decide (w = "some") || decide (w = "map"))
    · rw [hw] at e0
      have s1 : (sIf (tAndD (toB (dBin oIn (dBin oIx (dVar 1) (dC (.int 0))) (dTup (dCons (dC (.str "some")) (dCons (dC (.str "map")) dNil))))) (tNotD (toB (dFn1 (oIsB "tuple") (dVar 2))))) (sRet (dC (.bool false))) sNil) [some (.d (setsD L)), some (.d (.tuple (.str w :: r))), some (.d item), none] S = .nx [some (.d (setsD L)), some (.d (.tuple (.str w :: r))), some (.d item), none] S := sIf_skip (tAndD_f e0)
      unfold body_u_law_is_value
      rw [sSeq_nx s1, fin]
    · rw [hw] at e0
      cases hb : isB "tuple" item
      · rw [hb] at e1
        have s1 : (sIf (tAndD (toB (dBin oIn (dBin oIx (dVar 1) (dC (.int 0))) (dTup (dCons (dC (.str "some")) (dCons (dC (.str "map")) dNil))))) (tNotD (toB (dFn1 (oIsB "tuple") (dVar 2))))) (sRet (dC (.bool false))) sNil) [some (.d (setsD L)), some (.d (.tuple (.str w :: r))), some (.d item), none] S = .rt (.d (.bool false)) S := (sIf_t (tAndD_t e0 e1)).trans rfl
        have nt : ∀ l, item ≠ .tuple l := fun l z => by rw [z] at hb; cases hb
        have ev0 : kindV L (.tuple (.str w :: r)) item = false := by
          cases hq : kindV L (.tuple (.str w :: r)) item
          · rfl
          · have m := (kind_mem G hk item).mp hq
            generalize hkk : PyData.tuple (.str w :: r) = kk at hk m
            cases hk with
            | num i h1 h2 => cases hkk; exact absurd hw (by decide +kernel)
            | truth => cases hkk; exact absurd hw (by decide +kernel)
            | one s ms e => cases hkk; exact absurd hw (by decide +kernel)
            | some s ms e => obtain ⟨r', e', _⟩ := (all_some_mem e).mp m; exact absurd e' (nt _)
            | map s ms k e fw => obtain ⟨r', e', _⟩ := (all_map_mem e).mp m; exact absurd e' (nt _)
        rw [ev0]
        unfold body_u_law_is_value
        rw [sSeq_rt s1]
      · rw [hb] at e1
        have s1 : (sIf (tAndD (toB (dBin oIn (dBin oIx (dVar 1) (dC (.int 0))) (dTup (dCons (dC (.str "some")) (dCons (dC (.str "map")) dNil))))) (tNotD (toB (dFn1 (oIsB "tuple") (dVar 2))))) (sRet (dC (.bool false))) sNil) [some (.d (setsD L)), some (.d (.tuple (.str w :: r))), some (.d item), none] S = .nx [some (.d (setsD L)), some (.d (.tuple (.str w :: r))), some (.d item), none] S := sIf_skip (tAndD_t e0 e1)
        unfold body_u_law_is_value
        rw [sSeq_nx s1, fin]
  have hk' := hk
  cases hk' with
  | num i h1 h2 => exact go _ _ rfl
  | truth => exact go _ _ rfl
  | one s ms e => exact go _ _ rfl
  | some s ms e => exact go _ _ rfl
  | map s ms k e fw => exact go _ _ rfl
end K02
set_option maxRecDepth 100000
set_option maxHeartbeats 2000000
namespace K02
open PySem PySem.Spec PyProof.Rows L2 Zz
def cellD (sm : D) (m : Str) : D := .tuple [.tuple [.str "v", .str m], sm]
theorem compC (L : Sets) (l : List D) (sm : D) (s : Str) (ms : List Str) (hl : ms.length ≤ 16777216) (h1 : atI l 1 = some (.str s)) (e : look L s = some ms) (o : Option Val) (S : List Cell) :
    (dLc (itAny (dCall fn_elements_of (dCons (dVar 0) (dCons (dBin oIx (dVar 2) (dC (.int 1))) dNil)))) (toName 4) (fun l => kTest (fun _ => M.ret true) (kPush l (dTup (dCons (dTup (dCons (dVar 1) (dCons (dVar 4) dNil))) (dCons (dVar 3) dNil))))) [4]) [some (.d (setsD L)), some (.d (.str "v")), some (.d (.tuple l)), some (.d sm), o] S = .ok (.d (.list (ms.map (cellD sm)))) S := by
  have ef := el_f L s ms e
  have hit : itAny (dCall fn_elements_of (dCons (dVar 0) (dCons (dBin oIx (dVar 2) (dC (.int 1))) dNil))) [some (.d (setsD L)), some (.d (.str "v")), some (.d (.tuple l)), some (.d sm), o] S = .ok (ms.map .str) S :=
    itAny_at (d := .tuple (ms.map .str)) ((dCall_at (dCons_at rfl (dCons_at (dBin_at rfl rfl rfl rfl h1) rfl))).trans (ef S)) rfl
  rw [dLc_pure (ρ1 := fun d => [some (.d (setsD L)), some (.d (.str "v")), some (.d (.tuple l)), some (.d sm), some (.d d)]) (p := fun _ => true) (v := fun d => .tuple [.tuple [.str "v", d], sm]) hit (by rw [List.length_map]; exact hl) (fun d _ => rfl) (fun d hd R => rfl) fun d hd _ R => ?_]
  · rw [filter_yes, List.map_map]
    rfl
  · exact dTup_at (dCons_at (dTup_at (dCons_at rfl (dCons_at rfl rfl)) rfl (by show 2 ≤ 16777216; decide)) (dCons_at rfl rfl)) rfl (by show 2 ≤ 16777216; decide)
theorem compL (L : Sets) (hn : (names L).Nodup) (l : List D) (sm due : D) (s : Str) (ms : List Str) (hl : ms.length ≤ 16777216) (h1 : atI l 1 = some (.str s)) (e : look L s = some ms) (o : Option Val) (S : List Cell) :
    (dLc (itAny (dBin oIx (dFn1 oDictOf (dVar 0)) (dBin oIx (dVar 1) (dC (.int 1))))) (toName 4) (fun l => kTest (fun _ => M.ret true) (kPush l (dTup (dCons (dTup (dCons (dC (.str "v")) (dCons (dVar 4) dNil))) (dCons (dVar 3) dNil))))) [4]) [some (.d (setsD L)), some (.d (.tuple l)), some (.d due), some (.d sm), o] S = .ok (.d (.list (ms.map (cellD sm)))) S := by
  have hit : itAny (dBin oIx (dFn1 oDictOf (dVar 0)) (dBin oIx (dVar 1) (dC (.int 1)))) [some (.d (setsD L)), some (.d (.tuple l)), some (.d due), some (.d sm), o] S = .ok (ms.map .str) S :=
    itAny_at (d := .tuple (ms.map .str)) (dBin_at (dFn1_at rfl rfl (dict_f L hn)) (dBin_at rfl rfl rfl rfl h1) rfl rfl (by rw [ixK, e]; rfl)) rfl
  rw [dLc_pure (ρ1 := fun d => [some (.d (setsD L)), some (.d (.tuple l)), some (.d due), some (.d sm), some (.d d)]) (p := fun _ => true) (v := fun d => .tuple [.tuple [.str "v", d], sm]) hit (by rw [List.length_map]; exact hl) (fun d _ => rfl) (fun d hd R => rfl) fun d hd _ R => ?_]
  · rw [filter_yes, List.map_map]
    rfl
  · exact dTup_at (dCons_at (dTup_at (dCons_at rfl (dCons_at rfl rfl)) rfl (by show 2 ≤ 16777216; decide)) (dCons_at rfl rfl)) rfl (by show 2 ≤ 16777216; decide)
theorem end_f {L : Sets} {k x : D} {S : List Cell} (hx : Tidy 4 x) (hc : fn_cells_of [.d (setsD L), .d (.str "v"), .d k] S = .ok (.d x) S) (o3 o4 : Option Val) :
    (sRet (dBin oEq (dFn1 oRepr (dCall fn_cells_of (dCons (dVar 0) (dCons (dC (.str "v")) (dCons (dVar 1) dNil))))) (dFn1 oRepr (dVar 2)))) [some (.d (setsD L)), some (.d k), some (.d x), o3, o4] S = .rt (.d (.bool true)) S := by
  have r := hx.repr (by decide)
  have e := eqS x.shown x.shown
  rw [decide_eq_true rfl] at e
  exact sRet_at (dBin_at (dFn1_at ((dCall_at (dCons_at rfl (dCons_at rfl (dCons_at rfl rfl)))).trans hc) rfl r) (dFn1_at rfl rfl r) rfl rfl e)
theorem cells_scal {L : Sets} (w : Str) (r : List D) (hw : (decide (w = "some") || decide (w = "map")) = false) (ht : Tidy 2 (.tuple (.str w :: r))) (S : List Cell) : fn_u_law_cells_right [.d (setsD L), .d (.tuple (.str w :: r))] S = .ok (.d (.bool true)) S := by
  refine body_ok ?_
  show body_u_law_cells_right [some (.d (setsD L)), some (.d (.tuple (.str w :: r))), none, none, none] S = _
  have n1 := notSM w
  have n2 := inSM w
  rw [hw] at n1 n2
  let X : D := .tuple [.tuple [.tuple [.str "v", .none], .tuple (.str w :: r)]]
  have sm : Tidy 4 X := Tidy.tup (by simp) fun x hx => by
    simp at hx
    subst hx
    refine Tidy.tup (by simp) fun x hx => ?_
    simp at hx
    rcases hx with rfl | rfl
    · refine Tidy.tup (by simp) fun x hx => ?_
      simp at hx
      rcases hx with rfl | rfl
      · exact Tidy.of0 (d := .str "v") (by decide +kernel) 1
      · exact Tidy.of0 (d := .none) rfl 1
    · exact ht
  have hc : fn_cells_of [.d (setsD L), .d (.str "v"), .d (.tuple (.str w :: r))] S = .ok (.d X) S := by
    refine body_ok ?_
    show body_cells_of [some (.d (setsD L)), some (.d (.str "v")), some (.d (.tuple (.str w :: r))), none, none] S = _
    have s1 : (sIf (toB (dBin oNotIn (dBin oIx (dVar 2) (dC (.int 0))) (dTup (dCons (dC (.str "some")) (dCons (dC (.str "map")) dNil))))) (sRet (dTup (dCons (dTup (dCons (dTup (dCons (dVar 1) (dCons (dC (.none)) dNil))) (dCons (dVar 2) dNil))) dNil))) sNil) [some (.d (setsD L)), some (.d (.str "v")), some (.d (.tuple (.str w :: r))), none, none] S = .rt (.d X) S :=
      (sIf_t (toB_at (dBin_at (dBin_at rfl rfl rfl rfl (atI0 _ _)) (dTup_at (ds := [.str "some", .str "map"]) (dCons_at rfl (dCons_at rfl rfl)) rfl (by show 2 ≤ 16777216; decide)) rfl rfl n1))).trans
        (sRet_at (dTup_at (ds := [.tuple [.tuple [.str "v", .none], .tuple (.str w :: r)]]) (dCons_at (dTup_at (ds := [.tuple [.str "v", .none], .tuple (.str w :: r)]) (dCons_at (dTup_at (ds := [.str "v", .none]) (dCons_at rfl (dCons_at rfl rfl)) rfl (by show 2 ≤ 16777216; decide)) (dCons_at rfl rfl)) rfl (by show 2 ≤ 16777216; decide)) rfl) rfl (by show 1 ≤ 16777216; decide)))
    unfold body_cells_of
    rw [sSeq_rt s1]
  have s1 : (sSet 2 (dTup (dCons (dTup (dCons (dTup (dCons (dC (.str "v")) (dCons (dC (.none)) dNil))) (dCons (dVar 1) dNil))) dNil))) [some (.d (setsD L)), some (.d (.tuple (.str w :: r))), none, none, none] S = .nx [some (.d (setsD L)), some (.d (.tuple (.str w :: r))), some (.d X), none, none] S :=
    sSet_at (dTup_at (ds := [.tuple [.tuple [.str "v", .none], .tuple (.str w :: r)]]) (dCons_at (dTup_at (ds := [.tuple [.str "v", .none], .tuple (.str w :: r)]) (dCons_at (dTup_at (ds := [.str "v", .none]) (dCons_at rfl (dCons_at rfl rfl)) rfl (by show 2 ≤ 16777216; decide)) (dCons_at rfl rfl)) rfl (by show 2 ≤ 16777216; decide)) rfl) rfl (by show 1 ≤ 16777216; decide))
  have s2 : (sIf (toB (dBin oIn (dBin oIx (dVar 1) (dC (.int 0))) (dTup (dCons (dC (.str "some")) (dCons (dC (.str "map")) dNil))))) (sSeq (sSet 3 (dIf (toB (dBin oEq (dBin oIx (dVar 1) (dC (.int 0))) (dC (.str "some")))) (dTup (dCons (dC (.str "truth")) dNil)) (dBin oIx (dVar 1) (dC (.int 2))))) (sSet 2 (dFn1 oTuple (dLc (itAny (dBin oIx (dFn1 oDictOf (dVar 0)) (dBin oIx (dVar 1) (dC (.int 1))))) (toName 4) (fun l => kTest (fun _ => M.ret true) (kPush l (dTup (dCons (dTup (dCons (dC (.str "v")) (dCons (dVar 4) dNil))) (dCons (dVar 3) dNil))))) [4])))) sNil) [some (.d (setsD L)), some (.d (.tuple (.str w :: r))), some (.d X), none, none] S = .nx [some (.d (setsD L)), some (.d (.tuple (.str w :: r))), some (.d X), none, none] S :=
    sIf_skip (toB_at (dBin_at (dBin_at rfl rfl rfl rfl (atI0 _ _)) (dTup_at (ds := [.str "some", .str "map"]) (dCons_at rfl (dCons_at rfl rfl)) rfl (by show 2 ≤ 16777216; decide)) rfl rfl n2))
  unfold body_u_law_cells_right
  rw [sSeq_nx s1, sSeq_nx s2]
  exact end_f sm hc none none
theorem cells_many {L : Sets} (G : GL L) (w s : Str) (r : List D) (ms : List Str) (hw : (decide (w = "some") || decide (w = "map")) = true) (e : look L s = some ms) (sm : D) (hs : Tidy 1 sm)
    (d1 : ∀ (o0 o2 o3 o4 : Option Val) (S : List Cell), dIf (toB (dBin oEq (dBin oIx (dVar 1) (dC (.int 0))) (dC (.str "some")))) (dTup (dCons (dC (.str "truth")) dNil)) (dBin oIx (dVar 1) (dC (.int 2))) [o0, some (.d (.tuple (.str w :: .str s :: r))), o2, o3, o4] S = .ok (.d sm) S)
    (d2 : ∀ (o0 o1 o3 o4 : Option Val) (S : List Cell), dIf (toB (dBin oEq (dBin oIx (dVar 2) (dC (.int 0))) (dC (.str "some")))) (dTup (dCons (dC (.str "truth")) dNil)) (dBin oIx (dVar 2) (dC (.int 2))) [o0, o1, some (.d (.tuple (.str w :: .str s :: r))), o3, o4] S = .ok (.d sm) S) (S : List Cell) :
    fn_u_law_cells_right [.d (setsD L), .d (.tuple (.str w :: .str s :: r))] S = .ok (.d (.bool true)) S := by
  refine body_ok ?_
  show body_u_law_cells_right [some (.d (setsD L)), some (.d (.tuple (.str w :: .str s :: r))), none, none, none] S = _
  have n1 := notSM w
  have n2 := inSM w
  rw [hw] at n1 n2
  have f4 : ms.length ≤ 4 := (G.few _ (look_mem e)).1
  let X : D := .tuple (ms.map (cellD sm))
  have hk : atI (PyData.str w :: .str s :: r) 1 = some (.str s) := atI1 _ _ _
  have tX : Tidy 4 X := Tidy.tup (by rw [List.length_map]; omega) fun x hx => by
    obtain ⟨m, hm, rfl⟩ := List.mem_map.mp hx
    refine Tidy.tup (by simp) fun x hx => ?_
    simp at hx
    rcases hx with rfl | rfl
    · refine Tidy.tup (by simp) fun x hx => ?_
      simp at hx
      rcases hx with rfl | rfl
      · exact Tidy.of0 (d := .str "v") (by decide +kernel) 1
      · exact Tidy.of0 (d := .str m) (G.el _ (look_mem e) m hm) 1
    · exact hs.up
  have hc : fn_cells_of [.d (setsD L), .d (.str "v"), .d (.tuple (.str w :: .str s :: r))] S = .ok (.d X) S := by
    refine body_ok ?_
    show body_cells_of [some (.d (setsD L)), some (.d (.str "v")), some (.d (.tuple (.str w :: .str s :: r))), none, none] S = _
    have s1 : (sIf (toB (dBin oNotIn (dBin oIx (dVar 2) (dC (.int 0))) (dTup (dCons (dC (.str "some")) (dCons (dC (.str "map")) dNil))))) (sRet (dTup (dCons (dTup (dCons (dTup (dCons (dVar 1) (dCons (dC (.none)) dNil))) (dCons (dVar 2) dNil))) dNil))) sNil) [some (.d (setsD L)), some (.d (.str "v")), some (.d (.tuple (.str w :: .str s :: r))), none, none] S = .nx [some (.d (setsD L)), some (.d (.str "v")), some (.d (.tuple (.str w :: .str s :: r))), none, none] S :=
      sIf_skip (toB_at (dBin_at (dBin_at rfl rfl rfl rfl (atI0 _ _)) (dTup_at (ds := [.str "some", .str "map"]) (dCons_at rfl (dCons_at rfl rfl)) rfl (by show 2 ≤ 16777216; decide)) rfl rfl n1))
    have s2 : (sSet 3 (dIf (toB (dBin oEq (dBin oIx (dVar 2) (dC (.int 0))) (dC (.str "some")))) (dTup (dCons (dC (.str "truth")) dNil)) (dBin oIx (dVar 2) (dC (.int 2))))) [some (.d (setsD L)), some (.d (.str "v")), some (.d (.tuple (.str w :: .str s :: r))), none, none] S = .nx [some (.d (setsD L)), some (.d (.str "v")), some (.d (.tuple (.str w :: .str s :: r))), some (.d sm), none] S := sSet_at (d2 _ _ _ _ _)
    unfold body_cells_of
    rw [sSeq_nx s1, sSeq_nx s2]
    exact sRet_at (dFn1_at (compC L _ sm s ms (by omega) hk e none S) rfl rfl)
  obtain ⟨Y, s1⟩ : ∃ Y : D, (sSet 2 (dTup (dCons (dTup (dCons (dTup (dCons (dC (.str "v")) (dCons (dC (.none)) dNil))) (dCons (dVar 1) dNil))) dNil))) [some (.d (setsD L)), some (.d (.tuple (.str w :: .str s :: r))), none, none, none] S = .nx [some (.d (setsD L)), some (.d (.tuple (.str w :: .str s :: r))), some (.d Y), none, none] S :=
    ⟨.tuple [.tuple [.tuple [.str "v", .none], .tuple (.str w :: .str s :: r)]], sSet_at (dTup_at (ds := [.tuple [.tuple [.str "v", .none], .tuple (.str w :: .str s :: r)]]) (dCons_at (dTup_at (ds := [.tuple [.str "v", .none], .tuple (.str w :: .str s :: r)]) (dCons_at (dTup_at (ds := [.str "v", .none]) (dCons_at rfl (dCons_at rfl rfl)) rfl (by show 2 ≤ 16777216; decide)) (dCons_at rfl rfl)) rfl (by show 2 ≤ 16777216; decide)) rfl) rfl (by show 1 ≤ 16777216; decide))⟩
  have i1 : (sSet 3 (dIf (toB (dBin oEq (dBin oIx (dVar 1) (dC (.int 0))) (dC (.str "some")))) (dTup (dCons (dC (.str "truth")) dNil)) (dBin oIx (dVar 1) (dC (.int 2))))) [some (.d (setsD L)), some (.d (.tuple (.str w :: .str s :: r))), some (.d Y), none, none] S = .nx [some (.d (setsD L)), some (.d (.tuple (.str w :: .str s :: r))), some (.d Y), some (.d sm), none] S := sSet_at (d1 _ _ _ _ _)
  have i2 : (sSet 2 (dFn1 oTuple (dLc (itAny (dBin oIx (dFn1 oDictOf (dVar 0)) (dBin oIx (dVar 1) (dC (.int 1))))) (toName 4) (fun l => kTest (fun _ => M.ret true) (kPush l (dTup (dCons (dTup (dCons (dC (.str "v")) (dCons (dVar 4) dNil))) (dCons (dVar 3) dNil))))) [4]))) [some (.d (setsD L)), some (.d (.tuple (.str w :: .str s :: r))), some (.d Y), some (.d sm), none] S = .nx [some (.d (setsD L)), some (.d (.tuple (.str w :: .str s :: r))), some (.d X), some (.d sm), none] S :=
    sSet_at (dFn1_at (compL L G.nd _ sm Y s ms (by omega) hk e none S) rfl rfl)
  have t2 : (toB (dBin oIn (dBin oIx (dVar 1) (dC (.int 0))) (dTup (dCons (dC (.str "some")) (dCons (dC (.str "map")) dNil))))) [some (.d (setsD L)), some (.d (.tuple (.str w :: .str s :: r))), some (.d Y), none, none] S = .ok true S := toB_at (dBin_at (dBin_at rfl rfl rfl rfl (atI0 _ _)) (dTup_at (ds := [.str "some", .str "map"]) (dCons_at rfl (dCons_at rfl rfl)) rfl (by show 2 ≤ 16777216; decide)) rfl rfl n2)
  have s2 : (sIf (toB (dBin oIn (dBin oIx (dVar 1) (dC (.int 0))) (dTup (dCons (dC (.str "some")) (dCons (dC (.str "map")) dNil))))) (sSeq (sSet 3 (dIf (toB (dBin oEq (dBin oIx (dVar 1) (dC (.int 0))) (dC (.str "some")))) (dTup (dCons (dC (.str "truth")) dNil)) (dBin oIx (dVar 1) (dC (.int 2))))) (sSet 2 (dFn1 oTuple (dLc (itAny (dBin oIx (dFn1 oDictOf (dVar 0)) (dBin oIx (dVar 1) (dC (.int 1))))) (toName 4) (fun l => kTest (fun _ => M.ret true) (kPush l (dTup (dCons (dTup (dCons (dC (.str "v")) (dCons (dVar 4) dNil))) (dCons (dVar 3) dNil))))) [4])))) sNil) [some (.d (setsD L)), some (.d (.tuple (.str w :: .str s :: r))), some (.d Y), none, none] S = .nx [some (.d (setsD L)), some (.d (.tuple (.str w :: .str s :: r))), some (.d X), some (.d sm), none] S :=
    (sIf_t t2).trans ((sSeq_nx i1).trans i2)
  unfold body_u_law_cells_right
  rw [sSeq_nx s1, sSeq_nx s2]
  exact end_f tX hc _ none
theorem cells_right_f {L : Sets} (G : GL L) {k : D} (hk : Kind L k) (S : List Cell) : fn_u_law_cells_right [.d (setsD L), .d k] S = .ok (.d (.bool true)) S := by
  obtain ⟨l, el, l1, l3, lt⟩ := kind_tidy G hk
  have t2 : Tidy 2 (.tuple l) := Tidy.tup (by omega) lt
  rw [← el] at t2
  cases hk with
  | num i h1 h2 => exact cells_scal _ _ (by decide +kernel) t2 S
  | truth => exact cells_scal _ _ (by decide +kernel) t2 S
  | one s ms e => exact cells_scal _ _ (by decide +kernel) t2 S
  | some s ms e =>
    refine cells_many G "some" s [] ms (by decide +kernel) e (.tuple [.str "truth"]) (Tidy.tup (by simp) fun x hx => by simp at hx; subst hx; exact (by decide +kernel : leafB (.str "truth") = true)) (fun o0 o2 o3 o4 S => ?_) (fun o0 o1 o3 o4 S => ?_) S
    · exact (dIf_t (toB_at (dBin_at (dBin_at rfl rfl rfl rfl (atI0 _ _)) rfl rfl rfl (by rw [eqS]; rfl)))).trans (dTup_at (ds := [.str "truth"]) (dCons_at rfl rfl) rfl (by show 1 ≤ 16777216; decide))
    · exact (dIf_t (toB_at (dBin_at (dBin_at rfl rfl rfl rfl (atI0 _ _)) rfl rfl rfl (by rw [eqS]; rfl)))).trans (dTup_at (ds := [.str "truth"]) (dCons_at rfl rfl) rfl (by show 1 ≤ 16777216; decide))
  | map s ms k e fw =>
    have tk : Tidy 1 k := by
      have ek : [PyData.str "map", .str s, k] = l := PyData.tuple.inj el
      exact lt k (by rw [← ek]; simp)
    have ne : oEq (.str "map") (.str "some") = some (.bool false) := by rw [eqS]; exact congrArg _ (congrArg _ (by decide +kernel))
    refine cells_many G "map" s [k] ms (by decide +kernel) e k tk (fun o0 o2 o3 o4 S => ?_) (fun o0 o1 o3 o4 S => ?_) S
    · exact (dIf_f (toB_at (dBin_at (dBin_at rfl rfl rfl rfl (atI0 _ _)) rfl rfl rfl ne))).trans (dBin_at rfl rfl rfl rfl (atI2 _ _ _ _))
    · exact (dIf_f (toB_at (dBin_at (dBin_at rfl rfl rfl rfl (atI0 _ _)) rfl rfl rfl ne))).trans (dBin_at rfl rfl rfl rfl (atI2 _ _ _ _))
end K02
set_option maxRecDepth 100000
set_option maxHeartbeats 1000000
namespace K02
open PySem PySem.Spec PyProof.Rows L2 Zz
/-! ### the drawn numbers -/
theorem add_at (i j : Int) : oAdd (.int i) (.int j) = some (.int (i + j)) := rfl
theorem mul_at (i j : Int) (h : (lowI i || lowI j) = true) : oMul (.int i) (.int j) = some (.int (i * j)) := by show (if (lowI i || lowI j) = true then _ else _) = _; rw [if_pos h]
theorem low_of {i : Int} (h1 : -(2 ^ 64) < i) (h2 : i < 2 ^ 64) : lowI i = true := by
  unfold lowI
  rw [decide_eq_true h1, decide_eq_true h2]; rfl
section
variable {ρ : Env'} {S : List Cell} {ns : List Int} {k : Int}
abbrev aL : Env' → M Val := dFn1 oLen (dVar 0)
theorem eL (h : ρ[0]? = some (some (.d (.list (intsD ns))))) : aL ρ S = .ok (.d (.int ns.length)) S := dFn1_at (dVar_at h) rfl (by show some (PyData.int (intsD ns).length) = _; simp [intsD])
theorem pos_t (h : ρ[0]? = some (some (.d (.list (intsD ns))))) : toB (dBin oGt aL (dC (.int 0))) ρ S = .ok (decide ((0 : Int) < ns.length)) S := toB_at (dBin_at (eL h) rfl rfl rfl rfl)
theorem eI (h : ρ[0]? = some (some (.d (.list (intsD ns))))) (h2 : ρ[2]? = some (some (.d (.int k)))) (hn : 0 < ns.length) : ∃ c, dBin oIx (dVar 0) (dBin oMod (dVar 2) aL) ρ S = .ok (.d (.int c)) S := by
  have hL : (0 : Int) < ns.length := by omega
  have m := fmod_in k ns.length hL
  obtain ⟨a, ha, e⟩ := atI_in (intsD ns) (k.fmod ns.length) m.1 (by simp [intsD]; exact m.2)
  obtain ⟨c, hc, rfl⟩ := List.mem_map.mp ha
  exact ⟨c, dBin_at (dVar_at h) (dBin_at (dVar_at h2) (eL h) rfl rfl (mod_at _ _ (by omega))) rfl rfl e⟩
theorem eQ (h : ρ[0]? = some (some (.d (.list (intsD ns))))) (h2 : ρ[2]? = some (some (.d (.int k)))) (hn : 0 < ns.length) (h63 : ns.length ≤ 63) : dBin oDiv (dVar 2) aL ρ S = .ok (.d (.int (k.fdiv ns.length))) S :=
  dBin_at (dVar_at h2) (eL h) rfl rfl (div_at _ _ (by omega) (by omega))
end
abbrev cTail : SD := (sSeq (sIf (toB (dBin oGt (dFn1 oLen (dVar 0)) (dC (.int 0)))) (sSet 3 (dBin oAdd (dVar 3) (dBin oMul (dBin oMod (dBin oIx (dVar 0) (dBin oMod (dVar 2) (dFn1 oLen (dVar 0)))) (dC (.int 2147483629))) (dBin oAdd (dC (.int 1)) (dBin oDiv (dVar 2) (dFn1 oLen (dVar 0))))))) sNil) (sRet (dBin oDiv (dBin oMod (dBin oPow (dBin oMod (dVar 3) (dC (.int 2147483647))) (dC (.int 5))) (dC (.int 2147483647))) (dC (.int 7)))))
theorem last_f (ρ : Env') (S : List Cell) (b : Int) (h : ρ[3]? = some (some (.d (.int b)))) : ∃ n : Int, sRet (dBin oDiv (dBin oMod (dBin oPow (dBin oMod (dVar 3) (dC (.int 2147483647))) (dC (.int 5))) (dC (.int 2147483647))) (dC (.int 7))) ρ S = .rt (.d (.int n)) S := by
  have m := fmod_in b 2147483647 (by decide)
  have p : oPow (.int (b.fmod 2147483647)) (.int 5) = some (.int ((b.fmod 2147483647) ^ (5 : Int).toNat)) := by
    show (if (0 : Int) ≤ 5 ∧ (5 : Int) ≤ 1000000 ∧ (b.fmod 2147483647).natAbs < 2 ^ 64 then _ else _) = _
    rw [if_pos ⟨by decide, by decide, by omega⟩]
  exact ⟨_, sRet_at (dBin_at (dBin_at (dBin_at (dBin_at (dVar_at h) rfl rfl rfl (mod_at _ _ (by decide))) rfl rfl rfl p) rfl rfl rfl (mod_at _ _ (by decide))) rfl rfl rfl (div_at _ _ (by decide) (by decide)))⟩
theorem tail_f (ns : List Int) (h63 : ns.length ≤ 63) (k b : Int) (s o4 o5 : Option Val) (S : List Cell) : ∃ n : Int, cTail [some (.d (.list (intsD ns))), s, some (.d (.int k)), some (.d (.int b)), o4, o5] S = .rt (.d (.int n)) S := by
  by_cases hn : 0 < ns.length
  · obtain ⟨c, ec⟩ := eI (ρ := [some (.d (.list (intsD ns))), s, some (.d (.int k)), some (.d (.int b)), o4, o5]) (S := S) (ns := ns) (k := k) rfl rfl hn
    have eq := eQ (ρ := [some (.d (.list (intsD ns))), s, some (.d (.int k)), some (.d (.int b)), o4, o5]) (S := S) (ns := ns) (k := k) rfl rfl hn h63
    have m := fmod_in c 2147483629 (by decide)
    have e1 : sIf (toB (dBin oGt (dFn1 oLen (dVar 0)) (dC (.int 0)))) (sSet 3 (dBin oAdd (dVar 3) (dBin oMul (dBin oMod (dBin oIx (dVar 0) (dBin oMod (dVar 2) (dFn1 oLen (dVar 0)))) (dC (.int 2147483629))) (dBin oAdd (dC (.int 1)) (dBin oDiv (dVar 2) (dFn1 oLen (dVar 0))))))) sNil
        [some (.d (.list (intsD ns))), s, some (.d (.int k)), some (.d (.int b)), o4, o5] S = .nx [some (.d (.list (intsD ns))), s, some (.d (.int k)), some (.d (.int (b + c.fmod 2147483629 * (1 + k.fdiv ns.length)))), o4, o5] S := by
      have t := pos_t (ρ := [some (.d (.list (intsD ns))), s, some (.d (.int k)), some (.d (.int b)), o4, o5]) (S := S) (ns := ns) rfl
      rw [decide_eq_true (by omega)] at t
      rw [sIf_t t]
      exact sSet_at (dBin_at rfl (dBin_at (dBin_at ec rfl rfl rfl (mod_at _ _ (by decide))) (dBin_at rfl eq rfl rfl (add_at _ _)) rfl rfl (mul_at _ _ (by rw [low_of (by omega) (by omega)]; rfl))) rfl rfl (add_at _ _))
    obtain ⟨n, en⟩ := last_f [some (.d (.list (intsD ns))), s, some (.d (.int k)), some (.d (.int (b + c.fmod 2147483629 * (1 + k.fdiv ns.length)))), o4, o5] S _ rfl
    exact ⟨n, (sSeq_nx e1).trans en⟩
  · have t := pos_t (ρ := [some (.d (.list (intsD ns))), s, some (.d (.int k)), some (.d (.int b)), o4, o5]) (S := S) (ns := ns) rfl
    rw [decide_eq_false (by omega)] at t
    obtain ⟨n, en⟩ := last_f [some (.d (.list (intsD ns))), s, some (.d (.int k)), some (.d (.int b)), o4, o5] S b rfl
    exact ⟨n, (sSeq_nx (sIf_f t)).trans en⟩
abbrev ownTurn : SD := (sSet 4 (dBin oDiv (dVar 4) (dC (.int 306783379))))
theorem own_loop (c s k b : Option Val) (S : List Cell) : ∀ (l : List D) (own : Int) (t : Option Val), ∃ (own' : Int) (t' : Option Val), forGo (toName 5) ownTurn l [c, s, k, b, some (.d (.int own)), t] S = .nx [c, s, k, b, some (.d (.int own')), t'] S
  | [], own, t => ⟨own, t, rfl⟩
  | d :: l, own, t => by
    obtain ⟨own', t', e⟩ := own_loop c s k b S l (own.fdiv 306783379) (some (.d d))
    refine ⟨own', t', ?_⟩
    have k1 : ownTurn [c, s, k, b, some (.d (.int own)), some (.d d)] S = .nx [c, s, k, b, some (.d (.int (own.fdiv 306783379))), some (.d d)] S := sSet_at (dBin_at rfl rfl rfl rfl (div_at _ _ (by decide) (by decide)))
    show (match ownTurn [c, s, k, b, some (.d (.int own)), some (.d d)] S with | .nx ρ2 S2 => forGo (toName 5) ownTurn l ρ2 S2 | .ct ρ2 S2 => forGo (toName 5) ownTurn l ρ2 S2 | .bk ρ2 S2 => .nx ρ2 S2 | .rt v S2 => .rt v S2 | .ex x ρ2 S2 => .ex x ρ2 S2 | .st => .st) = _
    rw [k1]
    exact e
theorem cell_f (ns : List Int) (h63 : ns.length ≤ 63) (k0 : Int) (hk0 : 0 ≤ k0) (hk1 : k0 < 1000000) (R : List Cell) : ∃ n : Int, fn_u_law_cell [.d (.list (intsD ns)), .c 0] (.lst [.int k0] :: R) = .ok (.d (.int n)) (.lst [.int (k0 + 1)] :: R) := by
  let C0 : Option Val := some (.d (.list (intsD ns)))
  let S1 : List Cell := .lst [.int (k0 + 1)] :: R
  let k : Int := k0 + 1
  let b : Int := 31 * k * k + 7919 * k
  have p1 : sPut (dBin oAdd (dBin oIx (dVar 1) (dC (.int 0))) (dC (.int 1))) (dVar 1) (dC (.int 0)) [C0, some (.c 0), none, none, none, none] (.lst [.int k0] :: R) = .nx [C0, some (.c 0), none, none, none, none] S1 := by
    have e1 : dBin oAdd (dBin oIx (dVar 1) (dC (.int 0))) (dC (.int 1)) [C0, some (.c 0), none, none, none, none] (.lst [.int k0] :: R) = .ok (.d (.int (k0 + 1))) (.lst [.int k0] :: R) := dBin_at (dBin_at rfl rfl rfl rfl (at0 _ _)) rfl rfl rfl (add_at _ _)
    unfold sPut
    rw [e1]
    have ix : ixN 1 0 = some 0 := by decide
    show (match putM (.c 0) (.int 0) (.int (k0 + 1)) (.lst [.int k0] :: R) with | some T => SRes.nx [C0, some (.c 0), none, none, none, none] T | none => .st) = _
    have pm : putM (.c 0) (.int 0) (.int (k0 + 1)) (.lst [.int k0] :: R) = some S1 := by
      unfold putM
      simp [ix, S1]
    rw [pm]
  have p2 : sSet 2 (dBin oIx (dVar 1) (dC (.int 0))) [C0, some (.c 0), none, none, none, none] S1 = .nx [C0, some (.c 0), some (.d (.int k)), none, none, none] S1 := sSet_at (dBin_at rfl rfl rfl rfl (at0 _ _))
  have lk : lowI k = true := low_of (by omega) (by omega)
  have p3 : sSet 3 (dBin oAdd (dBin oMul (dBin oMul (dC (.int 31)) (dVar 2)) (dVar 2)) (dBin oMul (dC (.int 7919)) (dVar 2))) [C0, some (.c 0), some (.d (.int k)), none, none, none] S1 = .nx [C0, some (.c 0), some (.d (.int k)), some (.d (.int b)), none, none] S1 :=
    sSet_at (dBin_at (dBin_at (dBin_at rfl rfl rfl rfl (mul_at _ _ (by rw [lk, Bool.or_true]))) rfl rfl rfl (mul_at _ _ (by rw [lk, Bool.or_true]))) (dBin_at rfl rfl rfl rfl (mul_at _ _ (by rw [lk, Bool.or_true]))) rfl rfl (add_at _ _))
  have main : ∃ (n : Int), body_u_law_cell [C0, some (.c 0), none, none, none, none] (.lst [.int k0] :: R) = .rt (.d (.int n)) S1 := by
    unfold body_u_law_cell
    rw [sSeq_nx p1, sSeq_nx p2, sSeq_nx p3]
    -- the end, whatever slots 4 and 5 hold
    have fin : ∀ {m : SD} (o4 o5 : Option Val), m [C0, some (.c 0), some (.d (.int k)), some (.d (.int b)), none, none] S1 = .nx [C0, some (.c 0), some (.d (.int k)), some (.d (.int b)), o4, o5] S1 → ∃ n : Int, sSeq m cTail [C0, some (.c 0), some (.d (.int k)), some (.d (.int b)), none, none] S1 = .rt (.d (.int n)) S1 := fun {m} o4 o5 h => by
      obtain ⟨n, en⟩ := tail_f ns h63 k b (some (.c 0)) o4 o5 S1
      exact ⟨n, (sSeq_nx h).trans en⟩
    by_cases hn : 0 < ns.length
    · have t0 := pos_t (ρ := [C0, some (.c 0), some (.d (.int k)), some (.d (.int b)), none, none]) (S := S1) (ns := ns) rfl
      rw [decide_eq_true (by omega)] at t0
      obtain ⟨c, ec⟩ := eI (ρ := [C0, some (.c 0), some (.d (.int k)), some (.d (.int b)), none, none]) (S := S1) (ns := ns) (k := k) rfl rfl hn
      have eq := eQ (ρ := [C0, some (.c 0), some (.d (.int k)), some (.d (.int b)), none, none]) (S := S1) (ns := ns) (k := k) rfl rfl hn h63
      have pw := pow_at 10 18 (by decide) (by decide) (by decide)
      have t1 : toB (dBin oGe (dBin oIx (dVar 0) (dBin oMod (dVar 2) (dFn1 oLen (dVar 0)))) (dBin oPow (dC (.int 10)) (dC (.int 18)))) [C0, some (.c 0), some (.d (.int k)), some (.d (.int b)), none, none] S1 = .ok (decide (c ≥ 10 ^ (18 : Int).toNat)) S1 := toB_at (dBin_at ec (dBin_at rfl rfl rfl rfl pw) rfl rfl rfl)
      have t2 : toB (dBin oLt (dBin oDiv (dVar 2) (dFn1 oLen (dVar 0))) (dC (.int 60))) [C0, some (.c 0), some (.d (.int k)), some (.d (.int b)), none, none] S1 = .ok (decide (k.fdiv ns.length < 60)) S1 := toB_at (dBin_at eq rfl rfl rfl rfl)
      cases h1 : decide (c ≥ 10 ^ (18 : Int).toNat) with
      | false =>
        rw [h1] at t1
        exact fin none none (sIf_f (tAndD_t t0 (tAndD_f t1)))
      | true =>
        rw [h1] at t1
        cases h2 : decide (k.fdiv ns.length < 60) with
        | false =>
          rw [h2] at t2
          exact fin none none (sIf_f (tAndD_t t0 (tAndD_t t1 t2)))
        | true =>
          rw [h2] at t2
          have h2' : k.fdiv ns.length < 60 := of_decide_eq_true h2
          have q0 : 0 ≤ k.fdiv ns.length := Int.fdiv_nonneg (by omega) (by omega)
          obtain ⟨own', t', el⟩ := own_loop C0 (some (.c 0)) (some (.d (.int k))) (some (.d (.int b))) S1 ((List.range (k.fdiv ns.length).toNat).map fun i : Nat => .int (0 + i)) c none
          have ef : sFor (itRng (dBin oDiv (dVar 2) (dFn1 oLen (dVar 0)))) (toName 5) ownTurn [C0, some (.c 0), some (.d (.int k)), some (.d (.int b)), some (.d (.int c)), none] S1 = .nx [C0, some (.c 0), some (.d (.int k)), some (.d (.int b)), some (.d (.int own')), t'] S1 := by
            have eq' := eQ (ρ := [C0, some (.c 0), some (.d (.int k)), some (.d (.int b)), some (.d (.int c)), none]) (S := S1) (ns := ns) (k := k) rfl rfl hn h63
            have it := itRng_at eq' ⟨by omega, by omega⟩
            show (itRng _ _ S1).then_ _ _ = _
            rw [it]
            exact el
          have e4 : sSet 4 (dBin oIx (dVar 0) (dBin oMod (dVar 2) (dFn1 oLen (dVar 0)))) [C0, some (.c 0), some (.d (.int k)), some (.d (.int b)), none, none] S1 = .nx [C0, some (.c 0), some (.d (.int k)), some (.d (.int b)), some (.d (.int c)), none] S1 := sSet_at ec
          have tg : toB (dBin oGt (dVar 4) (dC (.int 0))) [C0, some (.c 0), some (.d (.int k)), some (.d (.int b)), some (.d (.int own')), t'] S1 = .ok (decide (own' > 0)) S1 := toB_at (dBin_at rfl rfl rfl rfl rfl)
          cases h3 : decide (own' > 0) with
          | true =>
            rw [h3] at tg
            refine ⟨own'.fmod 306783379, sSeq_rt ((sIf_t (tAndD_t t0 (tAndD_t t1 t2))).trans ?_)⟩
            rw [sSeq_nx e4, sSeq_nx ef, sIf_t tg]
            exact sRet_at (dBin_at rfl rfl rfl rfl (mod_at _ _ (by decide)))
          | false =>
            rw [h3] at tg
            refine fin (some (.d (.int own'))) t' ((sIf_t (tAndD_t t0 (tAndD_t t1 t2))).trans ?_)
            rw [sSeq_nx e4, sSeq_nx ef, sIf_f tg]
            rfl
    · have t0 := pos_t (ρ := [C0, some (.c 0), some (.d (.int k)), some (.d (.int b)), none, none]) (S := S1) (ns := ns) rfl
      rw [decide_eq_false (by omega)] at t0
      exact fin none none (sIf_f (tAndD_f t0))
  obtain ⟨n, e⟩ := main
  refine ⟨n, ?_⟩
  have z := body_rt (np := 2) (nl := 6) (b := body_u_law_cell) (as := [.d (.list (intsD ns)), .c 0]) (S := .lst [.int k0] :: R) rfl e
  rw [show fn_u_law_cell = bodyFn 2 6 body_u_law_cell from rfl, z]
  show Res.ok _ (List.take _ (.lst [.int (k0 + 1)] :: R)) = _
  rw [List.take_of_length_le (by simp)]
end K02
set_option maxRecDepth 100000
set_option maxHeartbeats 2000000
namespace K02
open PySem PySem.Spec PyProof.Rows L2 Zz
def turn2 : SD := (sIf (toB (dBin oNe (dFn1 oRepr (dCall (fn_is_value 3) (dCons (dVar 0) (dCons (dVar 3) (dCons (dVar 4) dNil))))) (dFn1 oRepr (dCall fn_u_law_is_value (dCons (dVar 0) (dCons (dVar 3) (dCons (dVar 4) dNil))))))) (sRet (dC (.bool false))) sNil)
theorem turn2_f {L : Sets} (G : GL L) {k : D} (hk : Kind L k) (item : D) (hi : PT 2 item) (s1 s2 s5 s6 s7 s8 s9 : Option Val) (S : List Cell) :
    turn2 [some (.d (setsD L)), s1, s2, some (.d k), some (.d item), s5, s6, s7, s8, s9] S = .nx [some (.d (setsD L)), s1, s2, some (.d k), some (.d item), s5, s6, s7, s8, s9] S := by
  have v1 := value_f G hk item (hi.ty.le (by decide)) S
  have v2 := law_value_f G hk item hi S
  have r := (Tidy.of0 (d := .bool (kindV L k item)) rfl 0).repr (by decide)
  have e := neS (PyData.bool (kindV L k item)).shown (PyData.bool (kindV L k item)).shown
  rw [decide_eq_true rfl] at e
  exact sIf_skip (toB_at (dBin_at (dFn1_at ((dCall_at (dCons_at rfl (dCons_at rfl (dCons_at rfl rfl)))).trans v1) rfl r) (dFn1_at ((dCall_at (dCons_at rfl (dCons_at rfl (dCons_at rfl rfl)))).trans v2) rfl r) rfl rfl e))
theorem loop2_f {L : Sets} (G : GL L) {k : D} (hk : Kind L k) (s1 s2 s5 s6 s7 s8 s9 : Option Val) (S : List Cell) : ∀ (ts : List D), (∀ t ∈ ts, PT 2 t) → ∀ s4 : Option Val,
    ∃ o4, forGo (toName 4) turn2 ts [some (.d (setsD L)), s1, s2, some (.d k), s4, s5, s6, s7, s8, s9] S = .nx [some (.d (setsD L)), s1, s2, some (.d k), o4, s5, s6, s7, s8, s9] S
  | [], _, s4 => ⟨s4, rfl⟩
  | t :: ts, h, s4 => by
    obtain ⟨o4, e⟩ := loop2_f G hk s1 s2 s5 s6 s7 s8 s9 S ts (fun x hx => h x (List.mem_cons_of_mem _ hx)) (some (.d t))
    refine ⟨o4, ?_⟩
    rw [forGo]
    show (match turn2 [some (.d (setsD L)), s1, s2, some (.d k), some (.d t), s5, s6, s7, s8, s9] S with | .nx ρ2 S2 => forGo (toName 4) turn2 ts ρ2 S2 | .ct ρ2 S2 => forGo (toName 4) turn2 ts ρ2 S2 | .bk ρ2 S2 => .nx ρ2 S2 | .rt v S2 => .rt v S2 | .ex x ρ2 S2 => .ex x ρ2 S2 | .st => .st) = _
    rw [turn2_f G hk t (h t List.mem_cons_self)]
    exact e
theorem vals_some {L : Sets} (G : GL L) {k : D} (h : smallD L k = true) : ∃ v, v ∈ valsD L k := by
  rcases small_cases h with ⟨i, rfl, h1, h2⟩ | rfl | ⟨s, ms, rfl, hl⟩
  · have e : valsD L (.tuple [.str "num", .int i]) = rgD (i + 1) := by simp [valsD]
    rw [e]
    exact ⟨.int 0, (mem_rg i 0).mpr ⟨by omega, by omega⟩⟩
  · exact ⟨.bool true, by simp [valsD]⟩
  · have e : valsD L (.tuple [.str "one", .str s]) = ms.map .str := by simp [valsD, hl]
    rw [e]
    have := (G.few _ (look_mem hl)).2.1
    cases ms with
    | nil => exact absurd rfl this
    | cons a b => exact ⟨.str a, by simp⟩
theorem all_some_ {L : Sets} (G : GL L) {k : D} (hk : Kind L k) : 0 < (allD L k).length := by
  have pos : ∀ d, d ∈ allD L k → 0 < (allD L k).length := fun d hd => List.length_pos_of_mem hd
  cases hk with
  | num i h1 h2 =>
    obtain ⟨v, hv⟩ := vals_some G (sm_num (L := L) i h1 h2)
    have e : allD L (.tuple [.str "num", .int (i : Int)]) = valsD L (.tuple [.str "num", .int (i : Int)]) := by unfold allD; rfl
    exact pos v (by rw [e]; exact hv)
  | truth => exact pos (.bool true) (by show PyData.bool true ∈ valsD L (.tuple [.str "truth"]); simp [valsD])
  | one s ms e =>
    obtain ⟨v, hv⟩ := vals_some G (few_small (L := L) (s := s) .one e)
    have ea : allD L (.tuple [.str "one", .str s]) = valsD L (.tuple [.str "one", .str s]) := by simp [allD, lits]
    exact pos v (by rw [ea]; exact hv)
  | some s ms e => exact pos (.tuple []) ((all_some_mem e).mpr ⟨[], rfl, List.nil_sublist _⟩)
  | map s ms k e fw =>
    obtain ⟨v, hv⟩ := vals_some G (few_small fw e)
    exact pos (.tuple (List.replicate ms.length v)) ((all_map_mem e).mpr ⟨_, rfl, List.length_replicate, fun x hx => by rw [(List.mem_replicate.mp hx).2]; exact hv⟩)
theorem right_f {L : Sets} (G : GL L) (n m : Int) (c : Cell) : fn_u_law_right [.d (setsD L), .d (.int n), .d (.int m)] [c] = .ok (.d (.bool true)) [c] := by
  refine body_ok ?_
  show body_u_law_right [some (.d (setsD L)), some (.d (.int n)), some (.d (.int m)), none, none, none, none, none, none, none] [c] = _
  obtain ⟨k, hk, ek⟩ := kind_f G n [c]
  obtain ⟨t1, p1, e1⟩ := odd_kind_f G hk m c
  obtain ⟨t2, p2, e2⟩ := odd_kind_f G hk (m.fdiv 3) c
  have d3 := div_at m 3 (by decide) (by decide)
  have d7 := div_at m 7 (by decide) (by decide)
  have d11 := div_at m 11 (by decide) (by decide)
  obtain ⟨l, el, l1, l3, lt⟩ := kind_tidy G hk
  have tk : Tidy 4 k := by rw [el]; exact (Tidy.tup (n := 1) (by omega) lt).le (by decide)
  let IT1 : List D := [k, t1, t2, .none, .int 5, .tuple [], .str "num", .tuple [.str "num"]]
  have h1 : ∀ t ∈ IT1, Tidy 4 t := fun t ht => by
    simp [IT1] at ht
    rcases ht with rfl | rfl | rfl | rfl | rfl | rfl | rfl | rfl
    · exact tk
    · exact p1
    · exact p2
    · exact Tidy.of0 (d := .none) rfl 4
    · exact Tidy.of0 (d := .int 5) (by decide +kernel) 4
    · exact Tidy.tup (by simp) fun x hx => by cases hx
    · exact Tidy.of0 (d := .str "num") (by decide +kernel) 4
    · exact Tidy.tup (by simp) fun x hx => by simp at hx; subst hx; exact Tidy.of0 (d := .str "num") (by decide +kernel) 3
  obtain ⟨o4, o5, o6, o7, f1⟩ := loop1_f G (some (.d (.int n))) (some (.d (.int m))) (some (.d k)) none none [c] IT1 h1 none none none none
  have hlen := all_some_ G hk
  obtain ⟨j, ej, hj⟩ := fmod_nat m (allD L k).length hlen
  have hone : (allD L k)[j] ∈ allD L k := List.getElem_mem hj
  have hix : atI (allD L k) (j : Int) = some (allD L k)[j] := atI_nat (by simp [hj])
  generalize hw : (allD L k)[j] = one at hone hix
  have oo := all_one_ G hk one hone
  obtain ⟨u1, q1, g1⟩ := odd_value_f oo (m.fdiv 7) [c]
  obtain ⟨u2, q2, g2⟩ := odd_value_f oo (m.fdiv 11) [c]
  let IT2 : List D := [one, u1, u2, .none, .bool true, .int 0, .int 1, .tuple [], .str "x"]
  have inV : ∀ i : Int, i ∈ VI → (PyData.int i) ∈ U := fun i h => List.mem_append_left _ (List.mem_append_left _ (List.mem_append_right _ (List.mem_map.mpr ⟨i, h, rfl⟩)))
  have h2 : ∀ t ∈ IT2, PT 2 t := fun t ht => by
    simp [IT2] at ht
    rcases ht with rfl | rfl | rfl | rfl | rfl | rfl | rfl | rfl | rfl
    · exact oo.pt.up
    · exact q1
    · exact q2
    · exact PT.of (List.mem_append_right _ (List.mem_append_left _ (by simp))) 2
    · exact PT.of (List.mem_append_left _ (List.mem_append_left _ (List.mem_append_left _ (by simp)))) 2
    · exact PT.of (inV 0 (by simp [VI])) 2
    · exact PT.of (inV 1 (by simp [VI])) 2
    · exact PT.tup (by simp) fun x hx => by cases hx
    · exact PT.of (mem_x "x" (by decide +kernel)) 2
  obtain ⟨p4, f2⟩ := loop2_f G hk (some (.d (.int n))) (some (.d (.int m))) o5 o6 o7 (some (.d (.list (allD L k)))) (some (.d one)) [c] IT2 h2 o4
  have s0 : (sSet 3 (dCall fn_u_law_kind (dCons (dVar 1) (dCons (dVar 0) dNil)))) [some (.d (setsD L)), some (.d (.int n)), some (.d (.int m)), none, none, none, none, none, none, none] [c] = .nx [some (.d (setsD L)), some (.d (.int n)), some (.d (.int m)), some (.d k), none, none, none, none, none, none] [c] := sSet_at ((dCall_at (dCons_at rfl (dCons_at rfl rfl))).trans ek)
  have i1 : (itAny (dTup (dCons (dVar 3) (dCons (dCall fn_u_law_odd_kind (dCons (dVar 2) (dCons (dVar 0) (dCons (dVar 3) dNil)))) (dCons (dCall fn_u_law_odd_kind (dCons (dBin oDiv (dVar 2) (dC (.int 3))) (dCons (dVar 0) (dCons (dVar 3) dNil)))) (dCons (dC (.none)) (dCons (dC (.int 5)) (dCons (dTup dNil) (dCons (dC (.str "num")) (dCons (dTup (dCons (dC (.str "num")) dNil)) dNil)))))))))) [some (.d (setsD L)), some (.d (.int n)), some (.d (.int m)), some (.d k), none, none, none, none, none, none] [c] = .ok IT1 [c] :=
    itAny_at (d := .tuple IT1) (dTup_at (ds := IT1) (dCons_at rfl (dCons_at ((dCall_at (dCons_at rfl (dCons_at rfl (dCons_at rfl rfl)))).trans e1) (dCons_at ((dCall_at (dCons_at (dBin_at rfl rfl rfl rfl d3) (dCons_at rfl (dCons_at rfl rfl)))).trans e2) (dCons_at rfl (dCons_at rfl (dCons_at (dTup_at (ds := []) rfl rfl (by show 0 ≤ 16777216; decide)) (dCons_at rfl (dCons_at (dTup_at (ds := [.str "num"]) (dCons_at rfl rfl) rfl (by show 1 ≤ 16777216; decide)) rfl)))))))) rfl (by show 8 ≤ 16777216; decide)) rfl
  have s2 : (sSet 8 (dCall fn_u_law_all_values (dCons (dVar 0) (dCons (dVar 3) dNil)))) [some (.d (setsD L)), some (.d (.int n)), some (.d (.int m)), some (.d k), o4, o5, o6, o7, none, none] [c] = .nx [some (.d (setsD L)), some (.d (.int n)), some (.d (.int m)), some (.d k), o4, o5, o6, o7, some (.d (.list (allD L k))), none] [c] := sSet_at ((dCall_at (dCons_at rfl (dCons_at rfl rfl))).trans (all_f G hk [c]))
  have ll : oLen (.list (allD L k)) = some (.int (allD L k).length) := rfl
  have mm := mod_at m (allD L k).length (by omega)
  rw [ej] at mm
  have s3 : (sSet 9 (dBin oIx (dVar 8) (dBin oMod (dVar 2) (dFn1 oLen (dVar 8))))) [some (.d (setsD L)), some (.d (.int n)), some (.d (.int m)), some (.d k), o4, o5, o6, o7, some (.d (.list (allD L k))), none] [c] = .nx [some (.d (setsD L)), some (.d (.int n)), some (.d (.int m)), some (.d k), o4, o5, o6, o7, some (.d (.list (allD L k))), some (.d one)] [c] :=
    sSet_at (dBin_at rfl (dBin_at rfl (dFn1_at rfl rfl ll) rfl rfl mm) rfl rfl hix)
  have i2 : (itAny (dTup (dCons (dVar 9) (dCons (dCall fn_u_law_odd_value (dCons (dBin oDiv (dVar 2) (dC (.int 7))) (dCons (dVar 9) dNil))) (dCons (dCall fn_u_law_odd_value (dCons (dBin oDiv (dVar 2) (dC (.int 11))) (dCons (dVar 9) dNil))) (dCons (dC (.none)) (dCons (dC (.bool true)) (dCons (dC (.int 0)) (dCons (dC (.int 1)) (dCons (dTup dNil) (dCons (dC (.str "x")) dNil))))))))))) [some (.d (setsD L)), some (.d (.int n)), some (.d (.int m)), some (.d k), o4, o5, o6, o7, some (.d (.list (allD L k))), some (.d one)] [c] = .ok IT2 [c] :=
    itAny_at (d := .tuple IT2) (dTup_at (ds := IT2) (dCons_at rfl (dCons_at ((dCall_at (dCons_at (dBin_at rfl rfl rfl rfl d7) (dCons_at rfl rfl))).trans g1) (dCons_at ((dCall_at (dCons_at (dBin_at rfl rfl rfl rfl d11) (dCons_at rfl rfl))).trans g2) (dCons_at rfl (dCons_at rfl (dCons_at rfl (dCons_at rfl (dCons_at (dTup_at (ds := []) rfl rfl (by show 0 ≤ 16777216; decide)) (dCons_at rfl rfl))))))))) rfl (by show 9 ≤ 16777216; decide)) rfl
  show sSeq (sSet 3 (dCall fn_u_law_kind (dCons (dVar 1) (dCons (dVar 0) dNil)))) (sSeq (sFor (itAny (dTup (dCons (dVar 3) (dCons (dCall fn_u_law_odd_kind (dCons (dVar 2) (dCons (dVar 0) (dCons (dVar 3) dNil)))) (dCons (dCall fn_u_law_odd_kind (dCons (dBin oDiv (dVar 2) (dC (.int 3))) (dCons (dVar 0) (dCons (dVar 3) dNil)))) (dCons (dC (.none)) (dCons (dC (.int 5)) (dCons (dTup dNil) (dCons (dC (.str "num")) (dCons (dTup (dCons (dC (.str "num")) dNil)) dNil)))))))))) (toName 4) turn1) (sSeq (sSet 8 (dCall fn_u_law_all_values (dCons (dVar 0) (dCons (dVar 3) dNil)))) (sSeq (sSet 9 (dBin oIx (dVar 8) (dBin oMod (dVar 2) (dFn1 oLen (dVar 8))))) (sSeq (sFor (itAny (dTup (dCons (dVar 9) (dCons (dCall fn_u_law_odd_value (dCons (dBin oDiv (dVar 2) (dC (.int 7))) (dCons (dVar 9) dNil))) (dCons (dCall fn_u_law_odd_value (dCons (dBin oDiv (dVar 2) (dC (.int 11))) (dCons (dVar 9) dNil))) (dCons (dC (.none)) (dCons (dC (.bool true)) (dCons (dC (.int 0)) (dCons (dC (.int 1)) (dCons (dTup dNil) (dCons (dC (.str "x")) dNil))))))))))) (toName 4) turn2) (sRet (dCall fn_u_law_cells_right (dCons (dVar 0) (dCons (dVar 3) dNil)))))))) _ _ = _
  rw [sSeq_nx s0, sSeq_nx ((sFor_at i1).trans f1), sSeq_nx s2, sSeq_nx s3, sSeq_nx ((sFor_at i2).trans f2)]
  exact sRet_at ((dCall_at (dCons_at rfl (dCons_at rfl rfl))).trans (cells_right_f G hk [c]))
def turnL : SD := (sSeq (sSet 3 (dCall fn_u_law_sets (dCons (dCall fn_u_law_cell (dCons (dVar 0) (dCons (dVar 1) dNil))) dNil))) (sIf (tNotD (toT (dCall fn_u_law_right (dCons (dVar 3) (dCons (dCall fn_u_law_cell (dCons (dVar 0) (dCons (dVar 1) dNil))) (dCons (dCall fn_u_law_cell (dCons (dVar 0) (dCons (dVar 1) dNil))) dNil)))))) (sRet (dC (.bool false))) sNil))
theorem turnL_f (ns : List Int) (h63 : ns.length ≤ 63) (a2 a3 : Option Val) (k0 : Int) (h0 : 0 ≤ k0) (h1 : k0 < 900000) : ∃ a3', turnL [some (.d (.list (intsD ns))), some (.c 0), a2, a3] [.lst [.int k0]] = .nx [some (.d (.list (intsD ns))), some (.c 0), a2, a3'] [.lst [.int (k0 + 3)]] := by
  obtain ⟨x, ex⟩ := cell_f ns h63 k0 h0 (by omega) []
  obtain ⟨n, en⟩ := cell_f ns h63 (k0 + 1) (by omega) (by omega) []
  obtain ⟨m, em⟩ := cell_f ns h63 (k0 + 1 + 1) (by omega) (by omega) []
  obtain ⟨L, G, es⟩ := sets_f x (.lst [.int (k0 + 1)])
  have r := right_f G n m (.lst [.int (k0 + 1 + 1 + 1)])
  rw [show k0 + 1 + 1 + 1 = k0 + 3 by omega] at r em
  have cl : ∀ (ρ : Env') (k : Int) (v : Int) (k' : Int), (∃ o2 o3, ρ = [some (.d (.list (intsD ns))), some (.c 0), o2, o3]) → fn_u_law_cell [.d (.list (intsD ns)), .c 0] [.lst [.int k]] = .ok (.d (.int v)) [.lst [.int k']] → dCall fn_u_law_cell (dCons (dVar 0) (dCons (dVar 1) dNil)) ρ [.lst [.int k]] = .ok (.d (.int v)) [.lst [.int k']] := fun ρ k v k' ⟨o2, o3, e⟩ h => by
    subst e
    exact (dCall_at (dCons_at rfl (dCons_at rfl rfl))).trans h
  refine ⟨some (.d (setsD L)), ?_⟩
  have s0 : (sSet 3 (dCall fn_u_law_sets (dCons (dCall fn_u_law_cell (dCons (dVar 0) (dCons (dVar 1) dNil))) dNil))) [some (.d (.list (intsD ns))), some (.c 0), a2, a3] [.lst [.int k0]] = .nx [some (.d (.list (intsD ns))), some (.c 0), a2, some (.d (setsD L))] [.lst [.int (k0 + 1)]] :=
    sSet_at ((dCall_at (dCons_at (cl _ _ _ _ ⟨_, _, rfl⟩ ex) rfl)).trans es)
  have s1 : (sIf (tNotD (toT (dCall fn_u_law_right (dCons (dVar 3) (dCons (dCall fn_u_law_cell (dCons (dVar 0) (dCons (dVar 1) dNil))) (dCons (dCall fn_u_law_cell (dCons (dVar 0) (dCons (dVar 1) dNil))) dNil)))))) (sRet (dC (.bool false))) sNil) [some (.d (.list (intsD ns))), some (.c 0), a2, some (.d (setsD L))] [.lst [.int (k0 + 1)]] = .nx [some (.d (.list (intsD ns))), some (.c 0), a2, some (.d (setsD L))] [.lst [.int (k0 + 3)]] :=
    sIf_skip (tNotD_at (b := true) (toT_at ((dCall_at (dCons_at rfl (dCons_at (cl _ _ _ _ ⟨_, _, rfl⟩ en) (dCons_at (cl _ _ _ _ ⟨_, _, rfl⟩ em) rfl)))).trans r) rfl rfl))
  unfold turnL
  rw [sSeq_nx s0]
  exact s1
theorem turnsL_f (ns : List Int) (h63 : ns.length ≤ 63) : ∀ (ds : List D) (a2 a3 : Option Val) (k0 : Int), 0 ≤ k0 → k0 + 3 * ds.length < 900000 → ∃ a2' a3' k', forGo (toName 2) turnL ds [some (.d (.list (intsD ns))), some (.c 0), a2, a3] [.lst [.int k0]] = .nx [some (.d (.list (intsD ns))), some (.c 0), a2', a3'] [.lst [.int k']]
  | [], a2, a3, k0, _, _ => ⟨a2, a3, k0, rfl⟩
  | d :: ds, a2, a3, k0, h0, h1 => by
    rw [List.length_cons] at h1
    obtain ⟨a3', e⟩ := turnL_f ns h63 (some (.d d)) a3 k0 h0 (by omega)
    obtain ⟨b2, b3, k', e2⟩ := turnsL_f ns h63 ds (some (.d d)) a3' (k0 + 3) (by omega) (by omega)
    refine ⟨b2, b3, k', ?_⟩
    rw [forGo]
    show (match turnL [some (.d (.list (intsD ns))), some (.c 0), some (.d d), a3] [.lst [.int k0]] with | .nx ρ2 S2 => forGo (toName 2) turnL ds ρ2 S2 | .ct ρ2 S2 => forGo (toName 2) turnL ds ρ2 S2 | .bk ρ2 S2 => .nx ρ2 S2 | .rt v S2 => .rt v S2 | .ex x ρ2 S2 => .ex x ρ2 S2 | .st => .st) = _
    rw [e]
    exact e2
theorem told (ns : List Int) (h1 : ns.length ≤ 63) (_ : ∀ z ∈ ns, Builtin.Int.intBits z ≤ 1048576) : ∃ S, fn_law [.d (.list (intsD ns))] [] = .ok (.d (.bool true)) S := by
  let C0 : Option Val := some (.d (.list (intsD ns)))
  have s1 : (sSet 1 (dLstC (dCons (dC (.int 0)) dNil))) [C0, none, none, none] [] = .nx [C0, some (.c 0), none, none] [.lst [.int 0]] := rfl
  let k : Int := 5 + (if (ns.length : Int) < 16 then (ns.length : Int) else 16)
  have hk : 0 ≤ k ∧ k ≤ 21 := by
    show 0 ≤ 5 + (if (ns.length : Int) < 16 then (ns.length : Int) else 16) ∧ 5 + (if (ns.length : Int) < 16 then (ns.length : Int) else 16) ≤ 21
    split <;> omega
  obtain ⟨b2, b3, k', e2⟩ := turnsL_f ns h1 ((List.range k.toNat).map fun i : Nat => .int (0 + i)) none none 0 (by decide) (by rw [List.length_map, List.length_range]; omega)
  have s2 : sFor (itRng (dBin oAdd (dC (.int 5)) (dBin oMin (dC (.int 16)) (dFn1 oLen (dVar 0))))) (toName 2) turnL [C0, some (.c 0), none, none] [.lst [.int 0]] = .nx [C0, some (.c 0), b2, b3] [.lst [.int k']] := by
    refine (sFor_at (itRng_at (j := k) (dBin_at rfl (dBin_at rfl (dFn1_at rfl rfl (show oLen (.list (intsD ns)) = some (.int ns.length) by show some (PyData.int (intsD ns).length) = _; simp [intsD])) rfl rfl rfl) rfl rfl (add_at _ _)) ⟨by omega, by omega⟩)).trans e2
  have g1 : fn_is_type [.d (setsD []), .d (.tuple [.str "truth"])] [.lst [.int k']] = .ok (.d (.bool true)) [.lst [.int k']] := by
    rw [type_f [] (by simp)]
    simp [typeD, smallD]
  have g2 : fn_is_small [.d (setsD []), .d (.tuple [.str "num", .int 16])] [.lst [.int k']] = .ok (.d (.bool false)) [.lst [.int k']] := by
    rw [small_f [] (by simp)]
    simp [smallD]
  have key : body_law [C0, none, none, none] [] = .rt (.d (.bool true)) [.lst [.int k']] := by
    show sSeq (sSet 1 (dLstC (dCons (dC (.int 0)) dNil))) (sSeq (sFor (itRng (dBin oAdd (dC (.int 5)) (dBin oMin (dC (.int 16)) (dFn1 oLen (dVar 0))))) (toName 2) turnL) (sRet (dAnd (dCall fn_is_type (dCons (dTup dNil) (dCons (dTup (dCons (dC (.str "truth")) dNil)) dNil))) (dNot (dCall fn_is_small (dCons (dTup dNil) (dCons (dTup (dCons (dC (.str "num")) (dCons (dC (.int 16)) dNil))) dNil))))))) _ _ = _
    rw [sSeq_nx s1, sSeq_nx s2]
    have q1 : (dCall fn_is_type (dCons (dTup dNil) (dCons (dTup (dCons (dC (.str "truth")) dNil)) dNil))) [C0, some (.c 0), b2, b3] [.lst [.int k']] = .ok (.d (.bool true)) [.lst [.int k']] :=
      (dCall_at (dCons_at (x := .d (setsD [])) (dTup_at (ds := []) rfl rfl (by show 0 ≤ 16777216; decide)) (dCons_at (dTup_at (ds := [.str "truth"]) (dCons_at rfl rfl) rfl (by show 1 ≤ 16777216; decide)) rfl))).trans g1
    have q2 : (dCall fn_is_small (dCons (dTup dNil) (dCons (dTup (dCons (dC (.str "num")) (dCons (dC (.int 16)) dNil))) dNil))) [C0, some (.c 0), b2, b3] [.lst [.int k']] = .ok (.d (.bool false)) [.lst [.int k']] :=
      (dCall_at (dCons_at (x := .d (setsD [])) (dTup_at (ds := []) rfl rfl (by show 0 ≤ 16777216; decide)) (dCons_at (dTup_at (ds := [.str "num", .int 16]) (dCons_at rfl (dCons_at rfl rfl)) rfl (by show 2 ≤ 16777216; decide)) rfl))).trans g2
    have q2' : dNot (dCall fn_is_small (dCons (dTup dNil) (dCons (dTup (dCons (dC (.str "num")) (dCons (dC (.int 16)) dNil))) dNil))) [C0, some (.c 0), b2, b3] [.lst [.int k']] = .ok (.d (.bool true)) [.lst [.int k']] := by
      unfold dNot
      show (toB (dCall fn_is_small (dCons (dTup dNil) (dCons (dTup (dCons (dC (.str "num")) (dCons (dC (.int 16)) dNil))) dNil))) _ _).bind _ = _
      rw [toB_at q2]
      rfl
    have q3 : dAnd (dCall fn_is_type (dCons (dTup dNil) (dCons (dTup (dCons (dC (.str "truth")) dNil)) dNil))) (dNot (dCall fn_is_small (dCons (dTup dNil) (dCons (dTup (dCons (dC (.str "num")) (dCons (dC (.int 16)) dNil))) dNil)))) [C0, some (.c 0), b2, b3] [.lst [.int k']] = .ok (.d (.bool true)) [.lst [.int k']] := by
      unfold dAnd
      show (toB (dCall fn_is_type (dCons (dTup dNil) (dCons (dTup (dCons (dC (.str "truth")) dNil)) dNil))) _ _).bind _ = _
      rw [toB_at q1]
      exact q2'
    exact sRet_at q3
  have z := body_rt (np := 1) (nl := 4) (b := body_law) (as := [.d (.list (intsD ns))]) (S := []) rfl key
  exact ⟨_, by rw [show fn_law = bodyFn 1 4 body_law from rfl, z]⟩
end K02
set_option maxRecDepth 100000
open PySem PySem.W PyProof.Rows
set_option maxHeartbeats 0 in
theorem PySem.Challenge.cw_stairwright_k02_types_and_values_holds : PySem.Challenge.rw_stairwright_k02_types_and_values.Holds := by
  w_on; o_law; k_head; (case hw => w_witness2)
  k_fill
  refine Zz.walkG (l := PySem.Challenge.rw_stairwright_k02_types_and_values) (n := 63) (k := 7) (x := "script") (F := K02.fn_law) rfl (by decide) rfl ⟨rfl, by decide, by decide⟩ (fun w h Y => PySem.W.kIn_of Y) ?F fun ns h1 h2 => K02.told ns h1 h2
  case F =>
    intro w mg fa h KX G hmg
    refine' K02.all_mk KX G hmg ?h0 ?h1 ?h2 ?h3 ?h4 ?h5 ?h6 ?h7 ?h8 ?h9 ?h10 ?h11 ?h12 ?h13 ?h14 ?h15 ?h16 ?h17 ?h18 ?h19 ?h20 ?h21 ?h22 ?h23 ?h24 ?h25 ?h26 ?h27 ?h28 ?h29 ?h30 ?h31 ?h32 ?h33 ?h34 ?h35 ?h36 ?h37 ?h38 ?h39 ?h40 ?h41 ?h42 ?h43 ?h44 ?h45 ?h46 ?h47 ?h48 ?h49 ?h50 ?h51 ?h52 ?h53 ?h54 ?h55 ?h56 ?h57 ?h58 ?h59 ?h60 ?h61 ?h62 ?h63 ?h64 ?h65 ?h66 ?h67 ?h68 ?h69 ?h70 ?h71 ?h72 ?h73 ?h74 ?h75 ?h76 ?h77 ?h78 ?h79 ?h80 ?h81 ?h82 ?h83 ?h84 ?h85 ?h86 ?h87 ?h88 ?h89 ?h90 ?h91 ?h92 ?h93 ?h94 ?h95 ?h96 ?h97 ?h98 ?h99 ?h100 ?h101 ?h102 ?h103 ?h104 ?h105 ?h106 ?h107 ?h108 ?h109 ?h110 ?h111 ?h112 ?h113 ?h114 ?h115 ?h116 ?h117 ?h118 ?h119 ?h120 ?h121 ?h122 ?h123 ?h124 ?h125 ?h126 ?h127 ?h128 ?h129 ?h130 ?h131 ?h132 ?h133 ?h134 ?h135 ?h136 ?h137 ?h138 ?h139 ?h140 ?h141 ?h142 ?h143 ?h144 ?h145 ?h146 ?h147 ?h148 ?h149 ?h150
    (case h0 => k_is)
    (case h1 => k_is)
    (case h2 => k_is)
    (case h3 => k_is)
    (case h4 => k_is)
    (case h5 => k_is)
    (case h6 => k_exc)
    (case h7 => k_is)
    (case h8 => k_is)
    (case h9 => k_is)
    (case h10 => k_is)
    (case h11 => k_is)
    (case h12 => k_is)
    (case h13 => k_is)
    (case h14 => k_is)
    (case h15 => k_is)
    (case h16 => k_is)
    (case h17 => k_is)
    (case h18 => k_is)
    (case h19 => k_is)
    (case h20 => k_is)
    (case h21 => k_is)
    (case h22 => k_is)
    (case h23 => k_is)
    (case h24 => k_is)
    (case h25 => k_is)
    (case h26 => k_is)
    (case h27 => k_is)
    (case h28 => k_is)
    (case h29 => k_is)
    (case h30 => decide)
    (case h31 => k_is)
    (case h32 => decide)
    (case h33 => k_is)
    (case h34 => k_is)
    (case h35 => k_is)
    (case h36 => decide)
    (case h37 => k_is)
    (case h38 => k_is)
    (case h39 => k_is)
    (case h40 => k_is)
    (case h41 => k_is)
    (case h42 => k_is)
    (case h43 => k_is)
    (case h44 => k_is)
    (case h45 => k_is)
    (case h46 => k_is)
    (case h47 => k_is)
    (case h48 => k_is)
    (case h49 => k_is)
    (case h50 => k_is)
    (case h51 => k_is)
    (case h52 => k_is)
    (case h53 => k_is)
    (case h54 => k_is)
    (case h55 => k_is)
    (case h56 => k_is)
    (case h57 => k_is)
    (case h58 => k_is)
    (case h59 => k_is)
    (case h60 => k_is)
    (case h61 => k_is)
    (case h62 => k_is)
    (case h63 => k_is)
    (case h64 => k_is)
    (case h65 => k_is)
    (case h66 => k_is)
    (case h67 => k_is)
    (case h68 => k_is)
    (case h69 => k_is)
    (case h70 => k_is)
    (case h71 => k_is)
    (case h72 => k_is)
    (case h73 => k_is)
    (case h74 => k_is)
    (case h75 => k_is)
    (case h76 => k_is)
    (case h77 => k_is)
    (case h78 => k_is)
    (case h79 => k_is)
    (case h80 => k_is)
    (case h81 => k_is)
    (case h82 => k_is)
    (case h83 => k_is)
    (case h84 => k_is)
    (case h85 => k_is)
    (case h86 => k_is)
    (case h87 => k_is)
    (case h88 => k_is)
    (case h89 => k_is)
    (case h90 => k_is)
    (case h91 => k_is)
    (case h92 => k_is)
    (case h93 => k_is)
    (case h94 => k_is)
    (case h95 => k_is)
    (case h96 => k_is)
    (case h97 => k_is)
    (case h98 => k_is)
    (case h99 => k_is)
    (case h100 => k_is)
    (case h101 => k_is)
    (case h102 => k_is)
    (case h103 => k_is)
    (case h104 => k_is)
    (case h105 => k_is)
    (case h106 => k_is)
    (case h107 => k_is)
    (case h108 => k_is)
    (case h109 => k_is)
    (case h110 => k_is)
    (case h111 => k_is)
    (case h112 => k_is)
    (case h113 => k_is)
    (case h114 => k_is)
    (case h115 => k_is)
    (case h116 => k_is)
    (case h117 => k_is)
    (case h118 => k_is)
    (case h119 => k_is)
    (case h120 => k_is)
    (case h121 => k_is)
    (case h122 => k_is)
    (case h123 => k_is)
    (case h124 => k_is)
    (case h125 => k_is)
    (case h126 => k_is)
    (case h127 => k_is)
    (case h128 => k_is)
    (case h129 => k_is)
    (case h130 => k_is)
    (case h131 => k_is)
    (case h132 => k_is)
    (case h133 => k_is)
    (case h134 => k_is)
    (case h135 => k_is)
    (case h136 => k_is)
    (case h137 => k_is)
    (case h138 => k_is)
    (case h139 => k_is)
    (case h140 => k_is)
    (case h141 => k_is)
    (case h142 => k_is)
    (case h143 => k_is)
    (case h144 => k_is)
    (case h145 => k_is)
    (case h146 => k_is)
    (case h147 => k_is)
    (case h148 => k_is)
    (case h149 => k_is)
    (case h150 => exact ⟨_, rfl⟩)
