import PyProof.Rows.All
import Wide.All
import OpenK.AllK
import Wide.FinOn
import HandS.ForMost
import HandS.ForExc
import HandS.Flow
import HandS.TryMany
import HandS.ExcValue
import HandS.IsInst
import HandS.TupAny
import HandS.TupMul
import HandS.Conv
import HandS.Style
import HandS.Defaults
import HandS.Deep
import HandS.EndBits
import HandS.Iter
import HandS.Comp
import HandS.Star
import HandS.Text
import HandS.Small
import KE.KExcHand
import HandS.ExcIs
import HandS.Strs
import PyProof.ReprLen
import PySem.Challenge.RW_stairwright_k01_names_and_carriers
set_option Elab.async false
set_option linter.all false
set_option maxRecDepth 100000
set_option maxHeartbeats 4000000
/-! A layer of pure readings over HandS: what a piece of the program yields as a function of plain data. -/
namespace Zz
open PySem PySem.Spec PyProof.Rows L2

abbrev D := PyData

/-! ### the frozen part of the heap, and what data a value there is -/
/-- a dict's key as data -/
def keyD : Key → D
  | .inl i => .int i
  | .inr x => .str x
mutual
inductive Dv (K : PySem.W.Frag) (F : Hp) : V → D → Prop
  | non : Dv K F .non .none
  | bl (b : Bool) : Dv K F (.bl b) (.bool b)
  | int (i : Int) : Dv K F (.int i) (.int i)
  | str (x : Str) : Dv K F (.str x) (.str x)
  | lst {a : Addr} {xs : List V} {ds : List D} : SqL K F a xs → DvAll K F xs ds → Dv K F (.ref a) (.list ds)
  | tup {a : Addr} {xs : List V} {ds : List D} : SqT K F a xs → DvAll K F xs ds → Dv K F (.ref a) (.tuple ds)
  | dct {a : Addr} {ks : List (Key × V)} {kds : List (D × D)} : F a = some (.dK ks) → DvKV K F ks kds → Dv K F (.ref a) (.dict kds)
inductive DvAll (K : PySem.W.Frag) (F : Hp) : List V → List D → Prop
  | nil : DvAll K F [] []
  | cons {v : V} {vs : List V} {d : D} {ds : List D} : Dv K F v d → DvAll K F vs ds → DvAll K F (v :: vs) (d :: ds)
inductive DvKV (K : PySem.W.Frag) (F : Hp) : List (Key × V) → List (D × D) → Prop
  | nil : DvKV K F [] []
  | cons {k : Key} {v : V} {r : List (Key × V)} {d : D} {s : List (D × D)} : Dv K F v d → DvKV K F r s → DvKV K F ((k, v) :: r) ((keyD k, d) :: s)
end

section
variable {K : PySem.W.Frag} {F F' : Hp}
theorem seqL (e : Same F F') {a : Addr} {xs : List V} (h : SqL K F a xs) : SqL K F' a xs := e.seq h
theorem seqT (e : Same F F') {a : Addr} {xs : List V} (h : SqT K F a xs) : SqT K F' a xs := by
  rcases h with (h | ⟨o, h⟩) | h
  · exact .inl (.inl (e _ _ h))
  · exact .inl (.inr ⟨o, e _ _ h⟩)
  · exact .inr h
mutual
theorem Dv.mono (e : Same F F') : ∀ {d : D} {v : V}, Dv K F v d → Dv K F' v d
  | .none, _, h => by cases h; exact .non
  | .bool _, _, h => by cases h; exact .bl _
  | .int _, _, h => by cases h; exact .int _
  | .str _, _, h => by cases h; exact .str _
  | .list _, _, h => by cases h with | lst h1 h2 => exact .lst (seqL e h1) (DvAll.mono e h2)
  | .tuple _, _, h => by cases h with | tup h1 h2 => exact .tup (seqT e h1) (DvAll.mono e h2)
  | .dict _, _, h => by cases h with | dct h1 h2 => exact .dct (e _ _ h1) (DvKV.mono e h2)
theorem DvAll.mono (e : Same F F') : ∀ {ds : List D} {vs : List V}, DvAll K F vs ds → DvAll K F' vs ds
  | [], _, h => by cases h; exact .nil
  | _ :: _, _, h => by cases h with | cons h1 h2 => exact .cons (Dv.mono e h1) (DvAll.mono e h2)
theorem DvKV.mono (e : Same F F') : ∀ {ds : List (D × D)} {vs : List (Key × V)}, DvKV K F vs ds → DvKV K F' vs ds
  | [], _, h => by cases h; exact .nil
  | _ :: _, _, h => by cases h with | cons h1 h2 => exact .cons (Dv.mono e h1) (DvKV.mono e h2)
end
theorem DvAll.length : ∀ {vs : List V} {ds : List D}, DvAll K F vs ds → vs.length = ds.length
  | _, _, .nil => rfl
  | _, _, .cons _ t => by rw [List.length_cons, List.length_cons, DvAll.length t]
theorem DvAll.get : ∀ {vs : List V} {ds : List D} {i : Nat} {d : D}, DvAll K F vs ds → ds[i]? = some d → ∃ v, vs[i]? = some v ∧ Dv K F v d
  | _, _, _, _, .nil, h => by simp at h
  | _, _, 0, _, .cons r _, h => by simp at h; subst h; exact ⟨_, rfl, r⟩
  | _, _, i + 1, _, .cons _ t, h => by
    obtain ⟨v, e, r⟩ := DvAll.get (i := i) t (by simpa using h)
    exact ⟨v, by simpa using e, r⟩
theorem DvAll.getV : ∀ {vs : List V} {ds : List D} {i : Nat} {v : V}, DvAll K F vs ds → vs[i]? = some v → ∃ d, ds[i]? = some d ∧ Dv K F v d
  | _, _, _, _, .nil, h => by simp at h
  | _, _, 0, _, .cons r _, h => by simp at h; subst h; exact ⟨_, rfl, r⟩
  | _, _, i + 1, _, .cons _ t, h => by
    obtain ⟨v, e, r⟩ := DvAll.getV (i := i) t (by simpa using h)
    exact ⟨v, by simpa using e, r⟩
theorem DvAll.append : ∀ {vs us : List V} {ds es : List D}, DvAll K F vs ds → DvAll K F us es → DvAll K F (vs ++ us) (ds ++ es)
  | _, _, _, _, .nil, s => s
  | _, _, _, _, .cons r t, s => .cons r (DvAll.append t s)
theorem DvAll.take : ∀ {vs : List V} {ds : List D} (n : Nat), DvAll K F vs ds → DvAll K F (vs.take n) (ds.take n)
  | _, _, 0, _ => .nil
  | _, _, _ + 1, .nil => .nil
  | _, _, n + 1, .cons r t => .cons r (DvAll.take n t)
theorem DvAll.drop : ∀ {vs : List V} {ds : List D} (n : Nat), DvAll K F vs ds → DvAll K F (vs.drop n) (ds.drop n)
  | _, _, 0, r => r
  | _, _, _ + 1, .nil => .nil
  | _, _, n + 1, .cons _ t => DvAll.drop n t
theorem DvAll.reverse : ∀ {vs : List V} {ds : List D}, DvAll K F vs ds → DvAll K F vs.reverse ds.reverse
  | _, _, .nil => .nil
  | _, _, .cons r t => by
    rw [List.reverse_cons, List.reverse_cons]
    exact (DvAll.reverse t).append (.cons r .nil)
theorem DvAll.set {v : V} {d : D} (r : Dv K F v d) : ∀ {vs : List V} {ds : List D} (i : Nat), DvAll K F vs ds → DvAll K F (vs.set i v) (ds.set i d)
  | _, _, _, .nil => .nil
  | _, _, 0, .cons _ t => .cons r t
  | _, _, i + 1, .cons q t => .cons q (DvAll.set r i t)
theorem DvAll.rep {vs : List V} {ds : List D} (h : DvAll K F vs ds) : ∀ k : Nat, DvAll K F (List.replicate k vs).flatten (List.replicate k ds).flatten
  | 0 => .nil
  | k + 1 => by
    rw [List.replicate_succ, List.replicate_succ, List.flatten_cons, List.flatten_cons]
    exact h.append (DvAll.rep h k)
end

/-! ### cells: the lists and dicts that the program changes -/
/-- an exception: its class's name, its fields -/
structure Ex where
  cls : Str
  fs : List (Str × D)
inductive Cell where
  | lst (ds : List D)
  | dct (kvs : List (D × D))
  /-- no longer changed -/
  | old (d : D)
  /-- an exception that was caught -/
  | exc (x : Ex)
def Cell.mut : Cell → Bool
  | .lst _ => true
  | .dct _ => true
  | .old _ => false
  | .exc _ => false
/-- a caught exception's object -/
def ExcO (cls : Value) (d : Option Addr) (a : Addr) : HO := .ext fun h => ∃ (oe : Obj) (vs : Array Value), h.get? a = some oe ∧ Zc cls d oe ∧ oe.data = .fields vs
/-- fields as they stand in an exception's own dict -/
def FsOk (K : PySem.W.Frag) (F : Hp) (fs : List (Str × D)) (d : Option Addr) : Prop :=
  match fs with
  | [] => d = none
  | _ :: _ => ∃ a gs, d = some a ∧ F a = some (.xd gs) ∧ Paired (fun (p : Str × V) (q : Str × D) => p.1 = q.1 ∧ Dv K F p.2 q.2) gs fs
theorem FsOk.mono {K : PySem.W.Frag} {F F' : Hp} (e : Same F F') {fs : List (Str × D)} {d : Option Addr} (h : FsOk K F fs d) : FsOk K F' fs d := by
  cases fs with
  | nil => exact h
  | cons f r =>
    obtain ⟨a, gs, h1, h2, h3⟩ := h
    exact ⟨a, gs, h1, e _ _ h2, Paired.mapP h3 fun _ _ z => ⟨z.1, z.2.mono e⟩⟩
/-- the world: the addresses of the cells, what is in them, the heap -/
structure Wd where
  α : List Addr
  S : List Cell
  H : Hp
/-- the addresses of cells that may change -/
def Wd.muts (w : Wd) : List Addr := ((w.α.zip w.S).filter (·.2.mut)).map (·.1)
/-- the frozen part -/
def Wd.F (w : Wd) : Hp := fun b => if b ∈ w.muts then none else w.H b
def CellOk (K : PySem.W.Frag) (mg : Str → Option Value) (F H : Hp) (a : Addr) : Cell → Prop
  | .lst ds => ∃ xs, H a = some (.lst xs) ∧ DvAll K F xs ds
  | .dct kvs => ∃ ks, H a = some (.dK ks) ∧ DvKV K F ks kvs
  | .old d => Dv K F (.ref a) d
  | .exc x => ∃ C d, mg x.cls = some (.ref C) ∧ F a = some (ExcO (.ref C) d a) ∧ FsOk K F x.fs d
structure Rep (K : PySem.W.Frag) (mg : Str → Option Value) (w : Wd) : Prop where
  len : w.α.length = w.S.length
  nd : w.α.Nodup
  al : ∀ a ∈ w.α, ∃ o, w.H a = some o
  at_ : ∀ (l : Nat) (a : Addr) (c : Cell), w.α[l]? = some a → w.S[l]? = some c → CellOk K mg w.F w.H a c
/-- a later world -/
structure Ext (w w' : Wd) : Prop where
  pre : w.α <+: w'.α
  same : Same w.F w'.F
theorem Ext.refl (w : Wd) : Ext w w := ⟨List.prefix_refl _, Same.refl _⟩
theorem Ext.trans {a b c : Wd} (h : Ext a b) (g : Ext b c) : Ext a c := ⟨h.pre.trans g.pre, h.same.trans g.same⟩
theorem Ext.at_ {w w' : Wd} (e : Ext w w') {l : Nat} {a : Addr} (h : w.α[l]? = some a) : w'.α[l]? = some a := by
  obtain ⟨t, ht⟩ := e.pre
  rw [← ht, List.getElem?_append_left (List.getElem?_eq_some_iff.mp h).1]
  exact h
/-- what the program's values are to us -/
inductive Val where
  | d (x : D)
  | c (l : Nat)
def RV (K : PySem.W.Frag) (w : Wd) (v : V) : Val → Prop
  | .d x => Dv K w.F v x
  | .c l => ∃ a, w.α[l]? = some a ∧ v = .ref a
theorem RV.mono {K : PySem.W.Frag} {w w' : Wd} (e : Ext w w') {v : V} : ∀ {x : Val}, RV K w v x → RV K w' v x
  | .d _, h => Dv.mono e.same h
  | .c _, ⟨a, h, r⟩ => ⟨a, e.at_ h, r⟩
def RVs (K : PySem.W.Frag) (w : Wd) : List V → List Val → Prop := Paired (RV K w)
theorem RVs.mono {K : PySem.W.Frag} {w w' : Wd} (e : Ext w w') {vs : List V} {xs : List Val} (h : RVs K w vs xs) : RVs K w' vs xs := Paired.mapP h fun _ _ r => r.mono e
theorem RVs.length {K : PySem.W.Frag} {w : Wd} {vs : List V} {xs : List Val} (h : RVs K w vs xs) : vs.length = xs.length := Paired.length h
/-- the frame's names -/
abbrev Env' := List (Option Val)
structure RE (K : PySem.W.Frag) (w : Wd) (σ : L2.St) (ρ : Env') : Prop where
  len : σ.length = ρ.length
  at_ : ∀ (i : Nat) (x : Val), ρ[i]? = some (some x) → ∃ v, σ[i]? = some (some v) ∧ RV K w v x
theorem RE.mono {K : PySem.W.Frag} {w w' : Wd} (e : Ext w w') {σ : L2.St} {ρ : Env'} (h : RE K w σ ρ) : RE K w' σ ρ :=
  ⟨h.len, fun i x q => let ⟨v, a, r⟩ := h.at_ i x q; ⟨v, a, r.mono e⟩⟩
theorem RE.set {K : PySem.W.Frag} {w : Wd} {σ : L2.St} {ρ : Env'} (h : RE K w σ ρ) {v : V} {x : Val} (r : RV K w v x) (i : Nat) : RE K w (σ.set i (some v)) (ρ.set i (some x)) := by
  refine ⟨by rw [List.length_set, List.length_set]; exact h.len, fun j y q => ?_⟩
  by_cases hj : i = j
  · subst hj
    by_cases hl : i < ρ.length
    · rw [List.getElem?_set_self hl] at q
      cases q
      exact ⟨v, List.getElem?_set_self (by rw [h.len]; exact hl), r⟩
    · rw [List.getElem?_eq_none (by rw [List.length_set]; omega)] at q
      cases q
  · rw [List.getElem?_set_ne hj] at q
    obtain ⟨u, a, b⟩ := h.at_ j y q
    exact ⟨u, by rw [List.getElem?_set_ne hj]; exact a, b⟩
theorem RE.del {K : PySem.W.Frag} {w : Wd} {σ : L2.St} {ρ : Env'} (h : RE K w σ ρ) (i : Nat) (o : Option V) : RE K w (σ.set i o) (ρ.set i none) := by
  refine ⟨by rw [List.length_set, List.length_set]; exact h.len, fun j y q => ?_⟩
  by_cases hj : i = j
  · subst hj
    by_cases hl : i < ρ.length
    · rw [List.getElem?_set_self hl] at q; cases q
    · rw [List.getElem?_eq_none (by rw [List.length_set]; omega)] at q; cases q
  · rw [List.getElem?_set_ne hj] at q
    obtain ⟨u, a, b⟩ := h.at_ j y q
    exact ⟨u, by rw [List.getElem?_set_ne hj]; exact a, b⟩

/-! ### what a piece yields: stuck (nothing is promised), a value, an exception -/
inductive Res (A : Type) where
  | st
  | ok (a : A) (S : List Cell)
  | ex (x : Ex) (S : List Cell)
abbrev M (A : Type) := List Cell → Res A
def M.ret {A : Type} (a : A) : M A := fun S => .ok a S
def M.st {A : Type} : M A := fun _ => .st
def Res.bind {A B : Type} (r : Res A) (k : A → M B) : Res B := match r with
  | .st => .st
  | .ok a S => k a S
  | .ex x S => .ex x S
def M.bind {A B : Type} (m : M A) (k : A → M B) : M B := fun S => (m S).bind k

/-- an exception in the air -/
def RX (K : PySem.W.Frag) (mg : Str → Option Value) (w : Wd) (cls : Value) (d : Option Addr) (x : Ex) : Prop :=
  ∃ C, mg x.cls = some (.ref C) ∧ cls = .ref C ∧ FsOk K w.F x.fs d
/-- what is wanted behind a piece that yields r, from the world w on -/
def After {A B : Type} (K : PySem.W.Frag) (mg : Str → Option Value) (rel : Wd → B → A → Prop) (w : Wd) (r : Res A) (Q : B → Hp → Prop) (X : XK) : Prop :=
  match r with
  | .st => False
  | .ok a S => ∀ α H b, Ext w ⟨α, S, H⟩ → Rep K mg ⟨α, S, H⟩ → rel ⟨α, S, H⟩ b a → Q b H
  | .ex x S => ∀ α H cls d, Ext w ⟨α, S, H⟩ → Rep K mg ⟨α, S, H⟩ → RX K mg ⟨α, S, H⟩ cls d x → X cls d H
section
variable {K : PySem.W.Frag} {mg : Str → Option Value} {A A' B B' : Type} {rel : Wd → B → A → Prop} {rel' : Wd → B' → A' → Prop} {w w' : Wd}
theorem After.later {r : Res A} {Q : B → Hp → Prop} {X : XK} (h : After K mg rel w r Q X) (e : Ext w w') : After K mg rel w' r Q X := by
  cases r with
  | st => exact h
  | ok a S => exact fun α H b e' => h α H b (e.trans e')
  | ex x S => exact fun α H c d e' => h α H c d (e.trans e')
theorem After.imp {r : Res A} {Q Q' : B → Hp → Prop} {X X' : XK} (h : After K mg rel w r Q X) (hq : ∀ b H, Q b H → Q' b H) (hx : ∀ c d H, X c d H → X' c d H) : After K mg rel w r Q' X' := by
  cases r with
  | st => exact h
  | ok a S => exact fun α H b e1 e2 e3 => hq _ _ (h α H b e1 e2 e3)
  | ex x S => exact fun α H c d e1 e2 e3 => hx _ _ _ (h α H c d e1 e2 e3)
/-- the first part, then the second -/
theorem After.split {r : Res A} {k : A → M A'} {Q : B' → Hp → Prop} {X : XK} (h : After K mg rel' w (r.bind k) Q X) :
    After K mg rel w r (fun b H => ∃ α S a, Ext w ⟨α, S, H⟩ ∧ Rep K mg ⟨α, S, H⟩ ∧ rel ⟨α, S, H⟩ b a ∧ After K mg rel' ⟨α, S, H⟩ (k a S) Q X) X := by
  cases r with
  | st => exact h
  | ok a S => exact fun α H b e1 e2 e3 => ⟨α, S, a, e1, e2, e3, After.later h e1⟩
  | ex x S => exact h
end
/-- the reading of an expression that yields f -/
def tD (K : PySem.W.Frag) (mg : Str → Option Value) (W : WX) (f : Env' → M Val) : TE := fun σ H Q =>
  ∃ α S ρ, Rep K mg ⟨α, S, H⟩ ∧ RE K ⟨α, S, H⟩ σ ρ ∧ After K mg (RV K) ⟨α, S, H⟩ (f ρ S) Q (fun c d H' => W c d σ H')
/-- of an argument list -/
def tDs (K : PySem.W.Frag) (mg : Str → Option Value) (W : WX) (f : Env' → M (List Val)) : TA := fun σ H Q =>
  ∃ α S ρ, Rep K mg ⟨α, S, H⟩ ∧ RE K ⟨α, S, H⟩ σ ρ ∧ After K mg (RVs K) ⟨α, S, H⟩ (f ρ S) Q (fun c d H' => W c d σ H')
/-- of a test -/
def tDt (K : PySem.W.Frag) (mg : Str → Option Value) (W : WX) (f : Env' → M Bool) : TT := fun σ H Q =>
  ∃ α S ρ, Rep K mg ⟨α, S, H⟩ ∧ RE K ⟨α, S, H⟩ σ ρ ∧ After K mg (fun _ b a => b = a) ⟨α, S, H⟩ (f ρ S) Q (fun c d H' => W c d σ H')
section
variable {X : Cx} {e : Expr} {es : List Expr} {t t' : TE} {ta ta' : TA} {tt tt' : TT}
theorem PE.imp (h : PE X e t) (k : ∀ σ H Q, t' σ H Q → t σ H Q) : PE X e t' := ⟨fun pins s σ H Q I q => h.run pins s σ H Q I (k σ H Q q)⟩
theorem PA.imp (h : PA X es ta) (k : ∀ σ H Q, ta' σ H Q → ta σ H Q) : PA X es ta' := ⟨fun pos pins s σ H Q I q => h.run pos pins s σ H Q I (k σ H Q q)⟩
theorem PT.imp (h : PT X e tt) (k : ∀ σ H Q, tt' σ H Q → tt σ H Q) : PT X e tt' := ⟨fun pins s σ H Q I q => h.run pins s σ H Q I (k σ H Q q)⟩
theorem PW.imp (h : PW X e tt) (k : ∀ σ H Q, tt' σ H Q → tt σ H Q) : PW X e tt' := ⟨fun wh pins s σ H Q I q => h.run wh pins s σ H Q I (k σ H Q q)⟩
end
/-- pieces: an expression, an argument list, a test that yield f -/
abbrev ED (X : Cx) (W : WX) (e : Expr) (f : Env' → M Val) : Prop := PE X e (tD X.K X.mg W f)
abbrev AD (X : Cx) (W : WX) (es : List Expr) (f : Env' → M (List Val)) : Prop := PA X es (tDs X.K X.mg W f)
abbrev TDt (X : Cx) (W : WX) (e : Expr) (f : Env' → M Bool) : Prop := PT X e (tDt X.K X.mg W f)
abbrev WDt (X : Cx) (W : WX) (e : Expr) (f : Env' → M Bool) : Prop := PW X e (tDt X.K X.mg W f)
end Zz
set_option maxRecDepth 100000
set_option maxHeartbeats 4000000
namespace Zz
open PySem PySem.Spec PyProof.Rows L2
section
variable {K : PySem.W.Frag} {mg : Str → Option Value} {w w' : Wd}
theorem Wd.F_same (w : Wd) : Same w.F w.H := fun b o h => by
  unfold Wd.F at h
  split at h
  · cases h
  · exact h
theorem Wd.F_of {w : Wd} {b : Addr} {o : HO} (h : w.H b = some o) (hm : b ∉ w.muts) : w.F b = some o := by
  unfold Wd.F
  rw [if_neg hm]
  exact h
theorem mem_muts {w : Wd} {b : Addr} (hl : w.α.length = w.S.length) : b ∈ w.muts ↔ ∃ (l : Nat) (c : Cell), w.α[l]? = some b ∧ w.S[l]? = some c ∧ c.mut = true := by
  unfold Wd.muts
  constructor
  · intro h
    obtain ⟨p, hp, e⟩ := List.mem_map.mp h
    obtain ⟨h1, h2⟩ := List.mem_filter.mp hp
    obtain ⟨i, hi⟩ := List.mem_iff_getElem?.mp h1
    rw [List.getElem?_zip_eq_some] at hi
    exact ⟨i, p.2, by rw [← e]; exact hi.1, hi.2, h2⟩
  · rintro ⟨l, c, h1, h2, h3⟩
    refine List.mem_map.mpr ⟨(b, c), List.mem_filter.mpr ⟨List.mem_iff_getElem?.mpr ⟨l, List.getElem?_zip_eq_some.mpr ⟨h1, h2⟩⟩, h3⟩, rfl⟩
theorem CellOk.there {F H : Hp} {a : Addr} {c : Cell} (h : CellOk K mg F H a c) (m : c.mut = true) : ∃ o, H a = some o := by
  cases c with
  | lst ds => obtain ⟨xs, h, _⟩ := h; exact ⟨_, h⟩
  | dct ks => obtain ⟨xs, h, _⟩ := h; exact ⟨_, h⟩
  | old d => cases m
  | exc x => cases m
theorem Rep.fresh (R : Rep K mg w) {p : Addr} (hp : w.H p = none) : p ∉ w.muts := fun h => by
  obtain ⟨l, c, h1, h2, h3⟩ := (mem_muts R.len).mp h
  obtain ⟨o, e⟩ := (R.at_ l p c h1 h2).there h3
  rw [hp] at e; cases e
theorem CellOk.mono {F F' H H' : Hp} {a : Addr} {c : Cell} (h : CellOk K mg F H a c) (e : Same F F') (ha : c.mut = true → H' a = H a) : CellOk K mg F' H' a c := by
  cases c with
  | lst ds => obtain ⟨xs, h, g⟩ := h; exact ⟨xs, by rw [ha rfl]; exact h, g.mono e⟩
  | dct ks => obtain ⟨xs, h, g⟩ := h; exact ⟨xs, by rw [ha rfl]; exact h, g.mono e⟩
  | old d => exact Dv.mono e h
  | exc x => obtain ⟨C, d, h1, h2, h3⟩ := h; exact ⟨C, d, h1, e _ _ h2, h3.mono e⟩
/-- the same cells in another heap -/
theorem Rep.heap (R : Rep K mg w) {H' : Hp} (e : Same w.F (Wd.F ⟨w.α, w.S, H'⟩)) (k : ∀ a, a ∈ w.muts → H' a = w.H a) : Rep K mg ⟨w.α, w.S, H'⟩ ∧ Ext w ⟨w.α, w.S, H'⟩ :=
  ⟨⟨R.len, R.nd, fun a ha => by
    obtain ⟨o, ho⟩ := R.al a ha
    by_cases hm : a ∈ w.muts
    · exact ⟨o, (k a hm).trans ho⟩
    · exact ⟨o, Wd.F_same _ _ _ (e _ _ (Wd.F_of ho hm))⟩, fun l a c h1 h2 => (R.at_ l a c h1 h2).mono e fun m => k a ((mem_muts R.len).mpr ⟨l, c, h1, h2, m⟩)⟩, List.prefix_refl _, e⟩
/-- a new object -/
theorem Rep.new (R : Rep K mg w) {p : Addr} (hp : w.H p = none) (o : HO) :
    Rep K mg ⟨w.α, w.S, upd w.H p o⟩ ∧ Ext w ⟨w.α, w.S, upd w.H p o⟩ ∧ Wd.F ⟨w.α, w.S, upd w.H p o⟩ p = some o := by
  have hm := R.fresh hp
  have e : Same w.F (Wd.F ⟨w.α, w.S, upd w.H p o⟩) := fun b u h => by
    unfold Wd.F at h ⊢
    show (if b ∈ w.muts then none else upd w.H p o b) = some u
    split at h
    · cases h
    · rename_i hb
      rw [if_neg hb, upd_ne (ne_of_none h hp)]
      exact h
  obtain ⟨r1, r2⟩ := R.heap (H' := upd w.H p o) e fun a ha => upd_ne fun z => hm (z ▸ ha)
  refine ⟨r1, r2, ?_⟩
  unfold Wd.F
  show (if p ∈ w.muts then none else upd w.H p o p) = some o
  rw [if_neg hm, upd_same]
theorem muts_snoc {α : List Addr} {S : List Cell} {H : Hp} {p : Addr} {c : Cell} (hl : α.length = S.length) : Wd.muts ⟨α ++ [p], S ++ [c], H⟩ = Wd.muts ⟨α, S, H⟩ ++ (if c.mut = true then [p] else []) := by
  unfold Wd.muts
  show (((α ++ [p]).zip (S ++ [c])).filter (·.2.mut)).map (·.1) = _
  rw [List.zip_append hl, List.filter_append, List.map_append]
  congr 1
  show (List.filter (fun x : Addr × Cell => x.2.mut) [(p, c)]).map (·.1) = _
  rw [List.filter_cons, List.filter_nil]
  split <;> rfl
/-- a new cell -/
theorem Rep.cell (R : Rep K mg w) {p : Addr} (hp : w.H p = none) {o : HO} {c : Cell} (hc : c.mut = true) (ok : CellOk K mg w.F (upd w.H p o) p c) :
    Rep K mg ⟨w.α ++ [p], w.S ++ [c], upd w.H p o⟩ ∧ Ext w ⟨w.α ++ [p], w.S ++ [c], upd w.H p o⟩ := by
  have hm := R.fresh hp
  have hnot : p ∉ w.α := fun z => by
    obtain ⟨o, e⟩ := R.al p z
    rw [hp] at e; cases e
  have em : Wd.muts ⟨w.α ++ [p], w.S ++ [c], upd w.H p o⟩ = w.muts ++ [p] := by
    rw [muts_snoc R.len, if_pos hc]; rfl
  have e : Same w.F (Wd.F ⟨w.α ++ [p], w.S ++ [c], upd w.H p o⟩) := fun b u h => by
    unfold Wd.F at h ⊢
    rw [em]
    show (if b ∈ w.muts ++ [p] then none else upd w.H p o b) = some u
    split at h
    · cases h
    · rename_i hb
      have hbp := ne_of_none h hp
      rw [if_neg (by simp [hb, hbp]), upd_ne hbp]
      exact h
  refine ⟨⟨by simp [R.len], ?_, fun a ha => ?_, fun l a c' h1 h2 => ?_⟩, List.prefix_append _ _, e⟩
  · exact List.nodup_append.mpr ⟨R.nd, by simp, fun a ha b hb z => by
      have : b = p := by simpa using hb
      subst this; subst z; exact hnot ha⟩
  · rcases List.mem_append.mp ha with ha | ha
    · obtain ⟨u, hu⟩ := R.al a ha
      exact ⟨u, (upd_ne (ne_of_none hu hp)).trans hu⟩
    · have z : a = p := by simpa using ha
      subst z
      exact ⟨o, upd_same⟩
  · by_cases hl : l < w.α.length
    · have h1' : w.α[l]? = some a := by
        have : (w.α ++ [p])[l]? = some a := h1
        rwa [List.getElem?_append_left hl] at this
      have h2' : w.S[l]? = some c' := by
        have : (w.S ++ [c])[l]? = some c' := h2
        rwa [List.getElem?_append_left (by rw [← R.len]; exact hl)] at this
      exact (R.at_ l a c' h1' h2').mono e fun m => upd_ne fun z => hm (by rw [← z]; exact (mem_muts R.len).mpr ⟨l, c', h1', h2', m⟩)
    · have h1' : ([p] : List Addr)[l - w.α.length]? = some a := by
        have : (w.α ++ [p])[l]? = some a := h1
        rwa [List.getElem?_append_right (by omega)] at this
      have h2' : ([c] : List Cell)[l - w.S.length]? = some c' := by
        have : (w.S ++ [c])[l]? = some c' := h2
        rwa [List.getElem?_append_right (by rw [← R.len]; omega)] at this
      obtain ⟨h3, _⟩ := List.getElem?_eq_some_iff.mp h1'
      have hz : l - w.α.length = 0 := by simpa using h3
      have hz2 : l - w.S.length = 0 := by rw [← R.len]; exact hz
      rw [hz] at h1'; rw [hz2] at h2'
      have e1 : p = a := by simpa using h1'
      have e2 : c = c' := by simpa using h2'
      subst e1 e2
      exact ok.mono e fun _ => rfl
theorem muts_set {α : List Addr} {S : List Cell} {H : Hp} {l : Nat} {c c' : Cell} (h : S[l]? = some c) (hm : c'.mut = c.mut) : Wd.muts ⟨α, S.set l c', H⟩ = Wd.muts ⟨α, S, H⟩ := by
  unfold Wd.muts
  show ((α.zip (S.set l c')).filter (·.2.mut)).map (·.1) = ((α.zip S).filter (·.2.mut)).map (·.1)
  induction S generalizing α l with
  | nil => simp at h
  | cons s r ih =>
    cases α with
    | nil => rfl
    | cons a α =>
      cases l with
      | zero =>
        have e : s = c := by simpa using h
        subst e
        show (List.filter _ ((a, c') :: α.zip r)).map _ = (List.filter _ ((a, s) :: α.zip r)).map _
        rw [List.filter_cons, List.filter_cons]
        show (if c'.mut = true then _ else _ : List (Addr × Cell)).map _ = (if s.mut = true then _ else _ : List (Addr × Cell)).map _
        rw [hm]
        split <;> rfl
      | succ l =>
        have := ih (α := α) (l := l) (by simpa using h)
        show (List.filter _ ((a, s) :: α.zip (r.set l c'))).map _ = (List.filter _ ((a, s) :: α.zip r)).map _
        rw [List.filter_cons, List.filter_cons]
        split
        · rw [List.map_cons, List.map_cons, this]
        · exact this
theorem nodup_ixA {N : List Addr} (hN : N.Nodup) {i j : Nat} {x : Addr} (a : N[i]? = some x) (b : N[j]? = some x) : i = j := by
  obtain ⟨h1, e1⟩ := List.getElem?_eq_some_iff.mp a
  obtain ⟨h2, e2⟩ := List.getElem?_eq_some_iff.mp b
  exact (List.getElem_inj hN).mp (e1.trans e2.symm)
/-- a cell is written -/
theorem Rep.write (R : Rep K mg w) {l : Nat} {a : Addr} {c c' : Cell} {o : HO} (h1 : w.α[l]? = some a) (h2 : w.S[l]? = some c) (m : c.mut = true) (m' : c'.mut = true) (ok : CellOk K mg w.F (upd w.H a o) a c') :
    Rep K mg ⟨w.α, w.S.set l c', upd w.H a o⟩ ∧ Ext w ⟨w.α, w.S.set l c', upd w.H a o⟩ := by
  have em : ∀ H, Wd.muts ⟨w.α, w.S.set l c', H⟩ = w.muts := fun H => muts_set (H := H) h2 (m'.trans m.symm)
  have ha : a ∈ w.muts := (mem_muts R.len).mpr ⟨l, c, h1, h2, m⟩
  have e : Same w.F (Wd.F ⟨w.α, w.S.set l c', upd w.H a o⟩) := fun b u h => by
    unfold Wd.F at h ⊢
    rw [em]
    show (if b ∈ w.muts then none else upd w.H a o b) = some u
    split at h
    · cases h
    · rename_i hb
      rw [if_neg hb, upd_ne fun z => hb (by rw [z]; exact ha)]
      exact h
  refine ⟨⟨by simp [R.len], R.nd, fun b hb => ?_, fun j b d g1 g2 => ?_⟩, List.prefix_refl _, e⟩
  · by_cases hba : b = a
    · subst hba; exact ⟨o, upd_same⟩
    · obtain ⟨u, hu⟩ := R.al b hb
      exact ⟨u, (upd_ne hba).trans hu⟩
  by_cases hj : l = j
  · subst hj
    have hl := (List.getElem?_eq_some_iff.mp h2).1
    have g2' : (w.S.set l c')[l]? = some d := g2
    rw [List.getElem?_set_self hl] at g2'
    have e1 : a = b := Option.some.inj (h1.symm.trans g1)
    have e2 : c' = d := Option.some.inj g2'
    subst e1 e2
    exact ok.mono e fun _ => rfl
  · have g2' : w.S[j]? = some d := by
      have : (w.S.set l c')[j]? = some d := g2
      rwa [List.getElem?_set_ne hj] at this
    refine (R.at_ j b d g1 g2').mono e fun _ => upd_ne fun z => hj ?_
    subst z
    exact nodup_ixA R.nd h1 g1
/-- what a value holds just now -/
def rd (S : List Cell) : Val → Option D
  | .d x => some x
  | .c l => match S[l]? with
    | some (.lst ds) => some (.list ds)
    | some (.dct kvs) => some (.dict kvs)
    | some (.old d) => some d
    | _ => none
theorem Rep.rd_ {v : V} {x : Val} {d : D} (R : Rep K mg w) (r : RV K w v x) (h : rd w.S x = some d) : Dv K w.F v d ∨ (∃ l a xs ds, x = .c l ∧ v = .ref a ∧ d = .list ds ∧ w.α[l]? = some a ∧ w.S[l]? = some (.lst ds) ∧ w.H a = some (.lst xs) ∧ DvAll K w.F xs ds) ∨
    (∃ l a ks kds, x = .c l ∧ v = .ref a ∧ d = .dict kds ∧ w.α[l]? = some a ∧ w.S[l]? = some (.dct kds) ∧ w.H a = some (.dK ks) ∧ DvKV K w.F ks kds) := by
  cases x with
  | d y => exact .inl (by have e : y = d := Option.some.inj h; rw [← e]; exact r)
  | c l =>
    obtain ⟨a, ha, rfl⟩ := r
    unfold rd at h
    cases hs : w.S[l]? with
    | none => simp only [hs] at h; cases h
    | some c =>
      cases c with
      | lst ds =>
        simp only [hs] at h; cases h
        obtain ⟨xs, h1, h2⟩ := R.at_ l a _ ha hs
        exact .inr (.inl ⟨l, a, xs, ds, rfl, rfl, rfl, ha, hs, h1, h2⟩)
      | dct ks =>
        simp only [hs] at h; cases h
        obtain ⟨xs, h1, h2⟩ := R.at_ l a _ ha hs
        exact .inr (.inr ⟨l, a, xs, ks, rfl, rfl, rfl, ha, hs, h1, h2⟩)
      | old e =>
        simp only [hs] at h; cases h
        exact .inl (R.at_ l a _ ha hs)
      | exc z => simp only [hs] at h; cases h
theorem Rep.list {v : V} {x : Val} {ds : List D} (R : Rep K mg w) (r : RV K w v x) (h : rd w.S x = some (.list ds)) : ∃ a xs, v = .ref a ∧ SqL K w.H a xs ∧ DvAll K w.F xs ds := by
  rcases R.rd_ r h with q | ⟨l, a, xs, es, rfl, rfl, e, h1, h2, h3, h4⟩ | ⟨l, a, xs, es, rfl, rfl, e, _⟩
  · cases q with | lst h1 h2 => exact ⟨_, _, rfl, seqL w.F_same h1, h2⟩
  · cases e; exact ⟨a, xs, rfl, SqL.of h3, h4⟩
  · cases e
theorem Rep.tuple {v : V} {x : Val} {ds : List D} (R : Rep K mg w) (r : RV K w v x) (h : rd w.S x = some (.tuple ds)) : ∃ a xs, v = .ref a ∧ SqT K w.H a xs ∧ DvAll K w.F xs ds ∧ Dv K w.F v (.tuple ds) := by
  rcases R.rd_ r h with q | ⟨l, a, xs, es, rfl, rfl, e, h1, h2, h3, h4⟩ | ⟨l, a, xs, es, rfl, rfl, e, _⟩
  · cases q with | tup h1 h2 => exact ⟨_, _, rfl, seqT w.F_same h1, h2, .tup h1 h2⟩
  · cases e
  · cases e
theorem Rep.dict {v : V} {x : Val} {ds : List (D × D)} (R : Rep K mg w) (r : RV K w v x) (h : rd w.S x = some (.dict ds)) : ∃ a ks, v = .ref a ∧ w.H a = some (.dK ks) ∧ DvKV K w.F ks ds := by
  rcases R.rd_ r h with q | ⟨l, a, xs, es, rfl, rfl, e, h1, h2, h3, h4⟩ | ⟨l, a, xs, es, rfl, rfl, e, h1, h2, h3, h4⟩
  · cases q with | dct h1 h2 => exact ⟨_, _, rfl, w.F_same _ _ h1, h2⟩
  · cases e
  · cases e; exact ⟨a, xs, rfl, h3, h4⟩
/-- anything, as data of the whole heap -/
theorem Rep.any {v : V} {x : Val} {d : D} (R : Rep K mg w) (r : RV K w v x) (h : rd w.S x = some d) : Dv K w.H v d := by
  rcases R.rd_ r h with q | ⟨l, a, xs, es, rfl, rfl, rfl, h1, h2, h3, h4⟩ | ⟨l, a, xs, es, rfl, rfl, rfl, h1, h2, h3, h4⟩
  · exact q.mono w.F_same
  · exact .lst (SqL.of h3) (h4.mono w.F_same)
  · exact .dct h3 (h4.mono w.F_same)
theorem Rep.scal {v : V} {x : Val} {d : D} (R : Rep K mg w) (r : RV K w v x) (h : rd w.S x = some d) (hn : ∀ ds, d ≠ .list ds) (hd : ∀ ds, d ≠ .dict ds) : Dv K w.F v d := by
  rcases R.rd_ r h with q | ⟨l, a, xs, es, rfl, rfl, rfl, _⟩ | ⟨l, a, xs, es, rfl, rfl, rfl, _⟩
  · exact q
  · exact absurd rfl (hn es)
  · exact absurd rfl (hd es)
theorem Rep.int {v : V} {x : Val} {i : Int} (R : Rep K mg w) (r : RV K w v x) (h : rd w.S x = some (.int i)) : v = .int i := by
  cases R.scal r h nofun nofun; rfl
theorem Rep.str {v : V} {x : Val} {i : Str} (R : Rep K mg w) (r : RV K w v x) (h : rd w.S x = some (.str i)) : v = .str i := by
  cases R.scal r h nofun nofun; rfl
theorem Rep.bool {v : V} {x : Val} {i : Bool} (R : Rep K mg w) (r : RV K w v x) (h : rd w.S x = some (.bool i)) : v = .bl i := by
  cases R.scal r h nofun nofun; rfl
theorem Rep.none {v : V} {x : Val} (R : Rep K mg w) (r : RV K w v x) (h : rd w.S x = some .none) : v = .non := by
  cases R.scal r h nofun nofun; rfl
/-- a cell that is kept elsewhere is changed no more -/
def frz : Val → M D
  | .d x => M.ret x
  | .c l => fun S => match S[l]? with
    | some (.lst ds) => .ok (.list ds) (S.set l (.old (.list ds)))
    | some (.dct kvs) => .ok (.dict kvs) (S.set l (.old (.dict kvs)))
    | some (.old d) => .ok d S
    | _ => .st
theorem muts_off {α : List Addr} {S : List Cell} {H H' : Hp} {l : Nat} {c c' : Cell} (hl : α.length = S.length) (h : S[l]? = some c) (hm : c'.mut = false) {b : Addr} (hb : b ∈ Wd.muts ⟨α, S.set l c', H'⟩) : (∃ j, j ≠ l ∧ α[j]? = some b) ∧ b ∈ Wd.muts ⟨α, S, H⟩ := by
  obtain ⟨j, d, h1, h2, h3⟩ := (mem_muts (w := ⟨α, S.set l c', H'⟩) (by simp [hl])).mp hb
  by_cases hj : l = j
  · subst hj
    have h2' : (S.set l c')[l]? = some d := h2
    rw [List.getElem?_set_self (List.getElem?_eq_some_iff.mp h).1] at h2'
    cases h2'
    rw [hm] at h3; cases h3
  · have h2' : (S.set l c')[j]? = some d := h2
    rw [List.getElem?_set_ne hj] at h2'
    exact ⟨⟨j, fun z => hj z.symm, h1⟩, (mem_muts (w := ⟨α, S, H⟩) hl).mpr ⟨j, d, h1, h2', h3⟩⟩
theorem Rep.seal (R : Rep K mg w) {l : Nat} {a : Addr} {c : Cell} {d : D} {o : HO} (h1 : w.α[l]? = some a) (h2 : w.S[l]? = some c) (m : c.mut = true) (ho : w.H a = some o)
    (ok : ∀ F, Same w.F F → F a = some o → Dv K F (.ref a) d) : Rep K mg ⟨w.α, w.S.set l (.old d), w.H⟩ ∧ Ext w ⟨w.α, w.S.set l (.old d), w.H⟩ ∧ Dv K (Wd.F ⟨w.α, w.S.set l (.old d), w.H⟩) (.ref a) d := by
  have off : ∀ {b}, b ∈ Wd.muts ⟨w.α, w.S.set l (.old d), w.H⟩ → b ∈ w.muts ∧ b ≠ a := fun {b} hb => by
    obtain ⟨⟨j, hj, e⟩, q⟩ := muts_off (H := w.H) R.len h2 (c' := .old d) rfl hb
    exact ⟨q, fun z => hj (nodup_ixA R.nd (by rw [z] at e; exact e) h1)⟩
  have e : Same w.F (Wd.F ⟨w.α, w.S.set l (.old d), w.H⟩) := fun b u h => by
    unfold Wd.F at h ⊢
    split at h
    · cases h
    · rename_i hb
      rw [if_neg fun z => hb (off z).1]
      exact h
  have fa : Wd.F ⟨w.α, w.S.set l (.old d), w.H⟩ a = some o := Wd.F_of ho fun z => (off z).2 rfl
  have dv := ok _ e fa
  refine ⟨⟨by simp [R.len], R.nd, R.al, fun j b c' g1 g2 => ?_⟩, ⟨List.prefix_refl _, e⟩, dv⟩
  by_cases hj : l = j
  · subst hj
    have g2' : (w.S.set l (.old d))[l]? = some c' := g2
    rw [List.getElem?_set_self (List.getElem?_eq_some_iff.mp h2).1] at g2'
    cases g2'
    have e1 : a = b := Option.some.inj (h1.symm.trans g1)
    subst e1
    exact dv
  · have g2' : (w.S.set l (.old d))[j]? = some c' := g2
    rw [List.getElem?_set_ne hj] at g2'
    exact (R.at_ j b c' g1 g2').mono e fun _ => rfl
theorem frz_ok {v : V} {x : Val} {A' B' : Type} {rel : Wd → B' → A' → Prop} {k : D → M A'} {Q : B' → Hp → Prop} {X : XK} (R : Rep K mg w) (r : RV K w v x) (h : After K mg rel w ((frz x w.S).bind k) Q X) :
    ∃ S' d, Ext w ⟨w.α, S', w.H⟩ ∧ Rep K mg ⟨w.α, S', w.H⟩ ∧ Dv K (Wd.F ⟨w.α, S', w.H⟩) v d ∧ After K mg rel ⟨w.α, S', w.H⟩ (k d S') Q X := by
  cases x with
  | d y => exact ⟨w.S, y, Ext.refl _, R, r, h⟩
  | c l =>
    obtain ⟨a, ha, rfl⟩ := r
    unfold frz at h
    cases hs : w.S[l]? with
    | none => simp only [hs] at h; exact False.elim h
    | some c =>
      cases c with
      | lst ds =>
        simp only [hs] at h
        obtain ⟨xs, h1, h2⟩ := R.at_ l a _ ha hs
        obtain ⟨r1, e1, d1⟩ := R.seal (d := .list ds) ha hs rfl h1 fun F e q => .lst (SqL.of q) (h2.mono e)
        exact ⟨_, _, e1, r1, d1, After.later (show After K mg rel w (k (.list ds) (w.S.set l (.old (.list ds)))) Q X from h) e1⟩
      | dct ks =>
        simp only [hs] at h
        obtain ⟨xs, h1, h2⟩ := R.at_ l a _ ha hs
        obtain ⟨r1, e1, d1⟩ := R.seal (d := .dict ks) ha hs rfl h1 fun F e q => .dct q (h2.mono e)
        exact ⟨_, _, e1, r1, d1, After.later (show After K mg rel w (k (.dict ks) (w.S.set l (.old (.dict ks)))) Q X from h) e1⟩
      | old e =>
        simp only [hs] at h
        exact ⟨w.S, e, Ext.refl _, R, R.at_ l a _ ha hs, h⟩
      | exc z => simp only [hs] at h; exact False.elim h
end
end Zz
set_option maxRecDepth 100000
set_option maxHeartbeats 4000000
namespace Zz
open PySem PySem.Spec PyProof.Rows L2

/-! ### operators, by data -/
abbrev O2 := D → D → Option D
/-- the world with another heap -/
abbrev Wd.at (w : Wd) (H : Hp) : Wd := ⟨w.α, w.S, H⟩
/-- what is wanted of an answer that is the data c -/
def Ans (K : PySem.W.Frag) (mg : Str → Option Value) (w : Wd) (c : D) (Q : VK) : Prop :=
  ∀ H v, Ext w (w.at H) → Rep K mg (w.at H) → Dv K (w.at H).F v c → Q v H
section
variable {K : PySem.W.Frag} {mg : Str → Option Value} {w : Wd} {c : D} {Q : VK}
theorem Ans.here (q : Ans K mg w c Q) (R : Rep K mg w) {v : V} (h : Dv K w.F v c) : Q v w.H := q w.H v (Ext.refl _) R h
theorem Ans.new (q : Ans K mg w c Q) (R : Rep K mg w) {p : Addr} (hp : w.H p = none) {o : HO} {v : V} (h : ∀ F, Same w.F F → F p = some o → Dv K F v c) : Q v (upd w.H p o) := by
  obtain ⟨r1, r2, r3⟩ := R.new hp o
  exact q _ v r2 r1 (h _ r2.same r3)
/-- a new list, a new tuple -/
theorem Ans.lst {ds : List D} (q : Ans K mg w (.list ds) Q) (R : Rep K mg w) {xs : List V} (h : DvAll K w.F xs ds) {p : Addr} (hp : w.H p = none) : Q (.ref p) (upd w.H p (.lst xs)) :=
  q.new R hp fun F e f => .lst (SqL.of f) (h.mono e)
theorem Ans.tup {ds : List D} (q : Ans K mg w (.tuple ds) Q) (R : Rep K mg w) {xs : List V} (h : DvAll K w.F xs ds) {p : Addr} (hp : w.H p = none) : Q (.ref p) (upd w.H p (.tup xs)) :=
  q.new R hp fun F e f => .tup (SqT.of f) (h.mono e)
end
def r2D (K : PySem.W.Frag) (mg : Str → Option Value) (o : O2) : R2 := fun x y H Q =>
  ∃ w a b da db c, w.H = H ∧ Rep K mg w ∧ RV K w x a ∧ RV K w y b ∧ rd w.S a = some da ∧ rd w.S b = some db ∧ o da db = some c ∧ Ans K mg w c Q
section
variable {X : Cx} {f : Value → Value → Sem Value} {r r' : R2} {o : O2}
theorem OpR.imp (h : OpR X f r) (k : ∀ x y H Q, r' x y H Q → r x y H Q) : OpR X f r' := fun pins s σ H x y v u Q I rx ry q => h pins s σ H x y v u Q I rx ry (k x y H Q q)
theorem IxR.imp (h : IxR X r) (k : ∀ x y H Q, r' x y H Q → r x y H Q) : IxR X r' := fun value slice pins s σ H x y v u Q I rx ry q => h value slice pins s σ H x y v u Q I rx ry (k x y H Q q)
theorem CallR.imp {g : Value} {r r' : List V → Hp → VK → Prop} (h : CallR X g r) (k : ∀ xs H Q, r' xs H Q → r xs H Q) : CallR X g r' := fun pins s σ H xs us Q I rr q => h pins s σ H xs us Q I rr (k xs H Q q)
theorem MtR.imp {id : String} {r r' : V → List V → Hp → VK → Prop} (h : MtR X id r) (k : ∀ x xs H Q, r' x xs H Q → r x xs H Q) : MtR X id r' := fun pins s σ H x xs v us Q I rx rr q => h pins s σ H x xs v us Q I rx rr (k x xs H Q q)
theorem SlR.imp {r r' : V → Option Int → Option Int → Hp → VK → Prop} (h : SlR X r) (k : ∀ x lo hi H Q, r' x lo hi H Q → r x lo hi H Q) : SlR X r' := fun pins s σ H x v vl vu lo hi sl Q I rx hs pl pu q => h pins s σ H x v vl vu lo hi sl Q I rx hs pl pu (k x lo hi H Q q)

/-- a list, whatever holds it -/
theorem op_catL : OpR X (binaryOp .Add) (fun x y H Q => ∃ a b xs zs, x = .ref a ∧ y = .ref b ∧ SqL X.K H a xs ∧ SqL X.K H b zs ∧ xs.length + zs.length ≤ sizeLine ∧ ∀ p, H p = none → Q (.ref p) (upd H p (.lst (xs ++ zs)))) := by
  intro pins s σ H x y v u Q I rx ry h
  obtain ⟨a, b, xs, zs, rfl, rfl, hA, hB, hz, q⟩ := h
  cases rx
  cases ry
  obtain ⟨its, r, ⟨⟨cls, dd, data, sl⟩, n, e, hc, hd, ht⟩, _⟩ := I.list hA
  obtain ⟨its2, r2, ⟨⟨cls2, dd2, data2, sl2⟩, n2, e2, hc2, hd2, ht2⟩, _⟩ := I.list hB
  simp only at hc hd ht hc2 hd2 ht2
  subst hc hd ht hc2 hd2 ht2
  have l1 := r.length
  have l2 := r2.length
  have ea : its.toArray ++ its2.toArray = (its ++ its2).toArray := by simp
  refine concat_meets ⟨_, e, rfl⟩ ⟨_, e2, rfl⟩ noFill_list_add seq_list_add PySem.F.slot_list_add PySem.F.entry_list_add (PySem.F.args_list_add_2 _ _)
    (list_addW a b its.toArray its2.toArray n n2 none none sl sl2 (by simp; omega)) ⟨e, e2, ?_⟩
  rw [ea]
  exact ⟨.ref _, _, I.lnew (t' := s.toks) (r.append r2) (by rw [List.length_append]; omega), rfl, q _ I.fresh⟩

def oAdd : O2 := fun a b => match a, b with
  | .int i, .int j => some (.int (i + j))
  | .str x, .str y => if x.length + y.length ≤ 16777216 then some (.str (x ++ y)) else none
  | .list x, .list y => if x.length + y.length ≤ 16777216 then some (.list (x ++ y)) else none
  | .tuple x, .tuple y => if x.length + y.length ≤ 16777216 then some (.tuple (x ++ y)) else none
  | _, _ => none
theorem od_add : OpR X (binaryOp .Add) (r2D X.K X.mg oAdd) := by
  refine OpR.imp ((op_add (X := X)).or (op_add_str.or (op_catL.or op_catA))) fun x y H Q h => ?_
  obtain ⟨w, a, b, da, db, c, rfl, R, ra, rb, ea, eb, ec, q⟩ := h
  unfold oAdd at ec
  split at ec
  · cases ec
    cases R.int ra ea
    cases R.int rb eb
    exact .inl ⟨_, _, rfl, rfl, q.here R (.int _)⟩
  · split at ec
    · cases ec
      rename_i hz
      cases R.str ra ea
      cases R.str rb eb
      exact .inr (.inl ⟨_, _, rfl, rfl, by rw [sizeLine_eq]; exact hz, q.here R (.str _)⟩)
    · cases ec
  · split at ec
    · cases ec
      rename_i hz
      obtain ⟨p1, xs, rfl, h1, g1⟩ := R.list ra ea
      obtain ⟨p2, ys, rfl, h2, g2⟩ := R.list rb eb
      exact .inr (.inr (.inl ⟨_, _, _, _, rfl, rfl, h1, h2, by rw [sizeLine_eq, g1.length, g2.length]; exact hz, fun p hp => q.lst R (g1.append g2) hp⟩))
    · cases ec
  · split at ec
    · cases ec
      rename_i hz
      obtain ⟨p1, xs, rfl, h1, g1, d1⟩ := R.tuple ra ea
      obtain ⟨p2, ys, rfl, h2, g2, d2⟩ := R.tuple rb eb
      refine .inr (.inr (.inr ⟨_, _, _, _, rfl, rfl, h1, h2, by rw [sizeLine_eq, g1.length, g2.length]; exact hz, fun z => ?_, fun z1 z2 => ?_, fun z1 z2 p hp => q.tup R (g1.append g2) hp⟩))
      · subst z
        cases g1
        exact q.here R d2
      · subst z2
        cases g2
        rw [List.append_nil] at q
        exact q.here R d1
    · cases ec
  · cases ec
def oSub : O2 := fun a b => match a, b with
  | .int i, .int j => some (.int (i - j))
  | _, _ => none
theorem od_sub : OpR X (binaryOp .Sub) (r2D X.K X.mg oSub) := by
  refine OpR.imp (op_sub (X := X)) fun x y H Q h => ?_
  obtain ⟨w, a, b, da, db, c, rfl, R, ra, rb, ea, eb, ec, q⟩ := h
  unfold oSub at ec
  split at ec
  · cases ec
    cases R.int ra ea
    cases R.int rb eb
    exact ⟨_, _, rfl, rfl, q.here R (.int _)⟩
  · cases ec
/-- small enough for a product -/
def lowI (i : Int) : Bool := decide (-(2 ^ 64) < i) && decide (i < 2 ^ 64)
def repD (n : Nat) (xs : List D) : List D := (List.replicate n xs).flatten
/-- a text over and over -/
def repS (x : Str) (n : Nat) : Str := ⟨(List.replicate n x.cps).foldl (· ++ ·) #[]⟩
theorem op_mulS : OpR X (binaryOp .Mult) (fun x y H Q => ∃ (a : Str) (j : Int), x = .str a ∧ y = .int j ∧ 2 ≤ j ∧ j ≤ 16777216 ∧ 1 ≤ a.length ∧ a.length * j.toNat ≤ 16777216 ∧ (repS a j.toNat).length ≤ 16777216 ∧ Q (.str (repS a j.toNat)) H) := by
  intro pins s σ H x y v u Q I rx ry h
  obtain ⟨a, j, rfl, rfl, h1, h2, h3, h4, h5, q⟩ := h
  obtain ⟨t, rfl⟩ := rx
  obtain ⟨t', rfl⟩ := ry
  have e1 : ¬ j < 1 := by omega
  have e2 : (j == 1 || a.length == 0) = false := by
    simp only [Bool.or_eq_false_iff, beq_eq_false_iff_ne]
    exact ⟨by omega, by omega⟩
  refine PySem.P.mul_str ?_ (fun _ _ => ?_) (fun _ _ => ?_) ?_
  · simp only [Bool.or_eq_false_iff, decide_eq_false_iff_not]
    exact ⟨by omega, by omega⟩
  · have hz : (a.length : Int) * j ≤ 16777216 := by
      have hj : j = (j.toNat : Int) := by omega
      rw [hj, ← Int.natCast_mul]
      exact Int.ofNat_le.mpr h4
    have : (a.length : Int) ≤ (2 ^ 63 - 1) / j := by
      rw [Int.le_ediv_iff_mul_le (by omega)]
      omega
    omega
  · refine decide_eq_false ?_
    rw [sizeLine_eq]
    omega
  · rw [if_neg e1, e2]
    refine ⟨?_, .str (repS a j.toNat), H, I.tok _, ⟨_, rfl⟩, q⟩
    rw [sizeLine_eq]
    exact h5
def oMul : O2 := fun a b => match a, b with
  | .int i, .int j => if lowI i || lowI j then some (.int (i * j)) else none
  | .str x, .int j => if 2 ≤ j ∧ j ≤ 16777216 ∧ 1 ≤ x.length ∧ x.length * j.toNat ≤ 16777216 ∧ (repS x j.toNat).length ≤ 16777216 then some (.str (repS x j.toNat)) else none
  | .tuple x, .int j => if 2 ≤ j ∧ j ≤ 1000 ∧ x.length ≤ 1000 ∧ 1 ≤ x.length then some (.tuple (repD j.toNat x)) else none
  | _, _ => none
theorem od_mul : OpR X (binaryOp .Mult) (r2D X.K X.mg oMul) := by
  refine OpR.imp ((op_mul (X := X)).or (op_repT.or op_mulS)) fun x y H Q h => ?_
  obtain ⟨w, a, b, da, db, c, rfl, R, ra, rb, ea, eb, ec, q⟩ := h
  unfold oMul at ec
  split at ec
  · split at ec
    · cases ec
      rename_i hz
      cases R.int ra ea
      cases R.int rb eb
      refine .inl ⟨_, _, rfl, rfl, ?_, q.here R (.int _)⟩
      unfold lowI at hz
      rcases Bool.or_eq_true_iff.mp hz with z | z
      · exact .inl ⟨of_decide_eq_true (Bool.and_eq_true_iff.mp z).1, of_decide_eq_true (Bool.and_eq_true_iff.mp z).2⟩
      · exact .inr ⟨of_decide_eq_true (Bool.and_eq_true_iff.mp z).1, of_decide_eq_true (Bool.and_eq_true_iff.mp z).2⟩
    · cases ec
  · split at ec
    · cases ec
      rename_i hz
      cases R.str ra ea
      cases R.int rb eb
      exact .inr (.inr ⟨_, _, rfl, rfl, hz.1, hz.2.1, hz.2.2.1, hz.2.2.2.1, hz.2.2.2.2, q.here R (.str _)⟩)
    · cases ec
  · split at ec
    · cases ec
      rename_i hz
      obtain ⟨p1, xs, rfl, h1, g1, d1⟩ := R.tuple ra ea
      cases R.int rb eb
      exact .inr (.inl ⟨_, _, _, rfl, rfl, h1, fun z => (by have z2 := g1.length; rw [z] at z2; have := hz.2.2.2; rw [← z2] at this; exact absurd this (by simp)), hz.1, hz.2.1, by rw [g1.length]; exact hz.2.2.1, fun p hp => q.tup R (g1.rep _) hp⟩)
    · cases ec
  · cases ec
def oDiv : O2 := fun a b => match a, b with
  | .int i, .int j => if j ≠ 0 ∧ j.natAbs < 1073741824 then some (.int (i.fdiv j)) else none
  | _, _ => none
theorem od_div : OpR X (binaryOp .FloorDiv) (r2D X.K X.mg oDiv) := by
  refine OpR.imp (op_fdivN (X := X)) fun x y H Q h => ?_
  obtain ⟨w, a, b, da, db, c, rfl, R, ra, rb, ea, eb, ec, q⟩ := h
  unfold oDiv at ec
  split at ec
  · split at ec
    · cases ec
      rename_i hz
      cases R.int ra ea
      cases R.int rb eb
      exact ⟨_, _, rfl, rfl, hz, q.here R (.int _)⟩
    · cases ec
  · cases ec
def oMod : O2 := fun a b => match a, b with
  | .int i, .int j => if j ≠ 0 then some (.int (i.fmod j)) else none
  | _, _ => none
theorem od_mod : OpR X (binaryOp .Mod) (r2D X.K X.mg oMod) := by
  refine OpR.imp (op_modN (X := X)) fun x y H Q h => ?_
  obtain ⟨w, a, b, da, db, c, rfl, R, ra, rb, ea, eb, ec, q⟩ := h
  unfold oMod at ec
  split at ec
  · split at ec
    · cases ec
      rename_i hz
      cases R.int ra ea
      cases R.int rb eb
      exact ⟨_, _, rfl, rfl, hz, q.here R (.int _)⟩
    · cases ec
  · cases ec
def oPow : O2 := fun a b => match a, b with
  | .int i, .int j => if 0 ≤ j ∧ j ≤ 1000000 ∧ i.natAbs < 2 ^ 64 then some (.int (i ^ j.toNat)) else none
  | _, _ => none
theorem od_pow : OpR X (binaryOp .Pow) (r2D X.K X.mg oPow) := by
  refine OpR.imp (op_pow (X := X)) fun x y H Q h => ?_
  obtain ⟨w, a, b, da, db, c, rfl, R, ra, rb, ea, eb, ec, q⟩ := h
  unfold oPow at ec
  split at ec
  · split at ec
    · cases ec
      rename_i hz
      cases R.int ra ea
      cases R.int rb eb
      exact ⟨_, _, rfl, rfl, hz, q.here R (.int _)⟩
    · cases ec
  · cases ec
end
end Zz
set_option maxRecDepth 100000
set_option maxHeartbeats 4000000
namespace Zz
open PySem PySem.Spec PyProof.Rows L2
/-! ### comparisons -/
def flatD : D → Bool
  | .none => true
  | .bool _ => true
  | .int _ => true
  | .str _ => true
  | _ => false
section
variable {K : PySem.W.Frag} {F : Hp}
mutual
theorem Dv.dp : ∀ {d : D} {v : V}, d.canLay0 = true → Dv K F v d → Dp K F v d
  | .none, _, _, h => by cases h; exact .non
  | .bool _, _, _, h => by cases h; exact .bl _
  | .int _, _, _, h => by cases h; exact .int _
  | .str _, _, _, h => by cases h; exact .str _
  | .list ds, _, q, h => by cases h with | lst h1 h2 => exact .lst h1 (DvAll.dp (by simpa [PyData.canLay0] using q) h2)
  | .tuple ds, _, q, h => by cases h with | tup h1 h2 => exact .tup h1 (DvAll.dp (by simpa [PyData.canLay0] using q) h2)
  | .dict _, _, q, _ => by simp [PyData.canLay0] at q
theorem DvAll.dp : ∀ {ds : List D} {vs : List V}, PyData.canLayAll0 ds = true → DvAll K F vs ds → DpAll K F vs ds
  | [], _, _, h => by cases h; exact .nil
  | d :: ds, _, q, h => by
    rw [PyData.canLayAll0, Bool.and_eq_true] at q
    cases h with | cons h1 h2 => exact .cons (Dv.dp q.1 h1) (DvAll.dp q.2 h2)
end
theorem Dv.flat {v : V} {d : D} (h : Dv K F v d) (f : flatD d = true) : flatV v = true := by cases h <;> first | rfl | cases f
theorem DvAll.flat : ∀ {vs : List V} {ds : List D}, DvAll K F vs ds → ds.all flatD = true → vs.all flatV = true
  | _, _, .nil, _ => rfl
  | _, _, .cons r t, f => by
    rw [List.all_cons, Bool.and_eq_true] at f
    rw [List.all_cons, r.flat f.1, DvAll.flat t f.2]
    rfl
theorem eqV_eqv {x y : V} {a b : D} (hx : Dv K F x a) (hy : Dv K F y b) (fa : flatD a = true) (fb : flatD b = true) : eqV x y = PyData.eqv a b := by
  cases hx <;> first | exact Bool.noConfusion fa | skip
  all_goals (cases hy <;> first | exact Bool.noConfusion fb | (simp [eqV, PyData.eqv]; done))
theorem inV_eqv {x : V} {a : D} (hx : Dv K F x a) (fa : flatD a = true) : ∀ {ys : List V} {bs : List D}, DvAll K F ys bs → bs.all flatD = true → inV x ys = bs.any fun b => PyData.eqv b a
  | _, _, .nil, _ => rfl
  | _, _, .cons r t, f => by
    rw [List.all_cons, Bool.and_eq_true] at f
    have ih := inV_eqv hx fa t f.2
    unfold inV at ih ⊢
    rw [List.any_cons, List.any_cons, eqV_eqv r hx f.1 fa, ih]
end
theorem toSh {d : D} (h : SeqAt.shaped d = true) : d.canLay0 = true := SeqAt.canLay_of_shaped h
/-- == , where it is told -/
def eqD (a b : D) : Option Bool := if flatD a && flatD b then some (PyData.eqv a b) else if SeqAt.shaped a && SeqAt.shaped b then some (PyData.eqv a b) else none
def oEq : O2 := fun a b => (eqD a b).map .bool
def oNe : O2 := fun a b => (eqD a b).map fun k => .bool (!k)
section
variable {X : Cx}
theorem flat_eq {K : PySem.W.Frag} {F : Hp} {x y : V} {a b : D} (hx : Dv K F x a) (hy : Dv K F y b) (fa : flatD a = true) (fb : flatD b = true) :
    (scal x y = true ∧ decide (x = y) = PyData.eqv a b) ∨ (SeqAt.shaped a = true ∧ SeqAt.shaped b = true) := by
  cases hx <;> first | exact Bool.noConfusion fa | skip
  all_goals (cases hy <;> first | exact Bool.noConfusion fb | skip)
  all_goals first
    | (refine .inl ⟨rfl, ?_⟩; simp [PyData.eqv]; done)
    | (refine .inl ⟨rfl, ?_⟩; rw [dec_str]; simp [PyData.eqv]; done)
    | (refine .inl ⟨rfl, ?_⟩; rw [dec_int]; simp [PyData.eqv]; done)
    | (refine .inl ⟨rfl, ?_⟩; rw [dec_bl]; simp [PyData.eqv]; done)
    | exact .inr ⟨by decide, by decide⟩
    | exact .inr ⟨by simp [SeqAt.shaped, PyData.canLay0, PyData.depth], by simp [SeqAt.shaped, PyData.canLay0, PyData.depth]⟩
theorem od_eq (hu : X.A.units + 64 < cLine) : OpR X (compareOp .Eq) (r2D X.K X.mg oEq) := by
  refine OpR.imp ((op_eq (X := X)).or (op_eqD hu)) fun x y H Q h => ?_
  obtain ⟨w, a, b, da, db, c, rfl, R, ra, rb, ea, eb, ec, q⟩ := h
  unfold oEq eqD at ec
  split at ec
  · rename_i hf
    obtain ⟨fa, fb⟩ := Bool.and_eq_true_iff.mp hf
    cases ec
    have h1 := R.any ra ea
    have h2 := R.any rb eb
    rcases flat_eq h1 h2 fa fb with ⟨z1, z2⟩ | ⟨z1, z2⟩
    · exact .inl ⟨z1, by rw [z2]; exact q.here R (.bl _)⟩
    · exact .inr ⟨da, db, h1.dp (toSh z1), h2.dp (toSh z2), z1, z2, q.here R (.bl _)⟩
  · split at ec
    · rename_i hf
      obtain ⟨fa, fb⟩ := Bool.and_eq_true_iff.mp hf
      cases ec
      exact .inr ⟨da, db, (R.any ra ea).dp (toSh fa), (R.any rb eb).dp (toSh fb), fa, fb, q.here R (.bl _)⟩
    · cases ec
theorem od_ne (hu : X.A.units + 64 < cLine) : OpR X (compareOp .NotEq) (r2D X.K X.mg oNe) := by
  refine OpR.imp ((op_ne (X := X)).or (op_neD hu)) fun x y H Q h => ?_
  obtain ⟨w, a, b, da, db, c, rfl, R, ra, rb, ea, eb, ec, q⟩ := h
  unfold oNe eqD at ec
  split at ec
  · rename_i hf
    obtain ⟨fa, fb⟩ := Bool.and_eq_true_iff.mp hf
    cases ec
    have h1 := R.any ra ea
    have h2 := R.any rb eb
    rcases flat_eq h1 h2 fa fb with ⟨z1, z2⟩ | ⟨z1, z2⟩
    · exact .inl ⟨z1, by rw [z2]; exact q.here R (.bl _)⟩
    · exact .inr ⟨da, db, h1.dp (toSh z1), h2.dp (toSh z2), z1, z2, q.here R (.bl _)⟩
  · split at ec
    · rename_i hf
      obtain ⟨fa, fb⟩ := Bool.and_eq_true_iff.mp hf
      cases ec
      exact .inr ⟨da, db, (R.any ra ea).dp (toSh fa), (R.any rb eb).dp (toSh fb), fa, fb, q.here R (.bl _)⟩
    · cases ec
def oCmp (p : Int → Int → Bool) : O2 := fun a b => match a, b with
  | .int i, .int j => some (.bool (p i j))
  | _, _ => none
theorem od_cmp {op : CmpOp} {p : Int → Int → Bool} (h : OpR X (compareOp op) (rI0 fun i j => .bl (p i j))) : OpR X (compareOp op) (r2D X.K X.mg (oCmp p)) := by
  refine OpR.imp h fun x y H Q h => ?_
  obtain ⟨w, a, b, da, db, c, rfl, R, ra, rb, ea, eb, ec, q⟩ := h
  unfold oCmp at ec
  split at ec
  · cases ec
    cases R.int ra ea
    cases R.int rb eb
    exact ⟨_, _, rfl, rfl, q.here R (.bl _)⟩
  · cases ec
abbrev oLt : O2 := oCmp fun i j => decide (i < j)
abbrev oLe : O2 := oCmp fun i j => decide (i ≤ j)
abbrev oGt : O2 := oCmp fun i j => decide (j < i)
abbrev oGe : O2 := oCmp fun i j => decide (j ≤ i)
theorem od_lt : OpR X (compareOp .Lt) (r2D X.K X.mg oLt) := od_cmp op_lt
theorem od_le : OpR X (compareOp .LtE) (r2D X.K X.mg oLe) := od_cmp op_le
theorem od_gt : OpR X (compareOp .Gt) (r2D X.K X.mg oGt) := od_cmp op_gt
theorem od_ge : OpR X (compareOp .GtE) (r2D X.K X.mg oGe) := od_cmp op_ge
/-- is None, is not None -/
def isNon : D → Bool
  | .none => true
  | _ => false
def oIsN : O2 := fun a b => match b with
  | .none => some (.bool (isNon a))
  | _ => none
def oNotN : O2 := fun a b => match b with
  | .none => some (.bool (!isNon a))
  | _ => none
theorem dv_non {K : PySem.W.Frag} {F : Hp} {v : V} {d : D} (h : Dv K F v d) : decide (v = V.non) = isNon d := by
  cases h <;> simp [isNon]
theorem od_isN : OpR X (compareOp .Is) (r2D X.K X.mg oIsN) := by
  refine OpR.imp (op_isN (X := X)) fun x y H Q h => ?_
  obtain ⟨w, a, b, da, db, c, rfl, R, ra, rb, ea, eb, ec, q⟩ := h
  unfold oIsN at ec
  split at ec
  · cases ec
    refine ⟨R.none rb eb, ?_⟩
    rw [dv_non (R.any ra ea)]
    exact q.here R (.bl _)
  · cases ec
theorem od_notN : OpR X (compareOp .IsNot) (r2D X.K X.mg oNotN) := by
  refine OpR.imp (op_notN (X := X)) fun x y H Q h => ?_
  obtain ⟨w, a, b, da, db, c, rfl, R, ra, rb, ea, eb, ec, q⟩ := h
  unfold oNotN at ec
  split at ec
  · cases ec
    refine ⟨R.none rb eb, ?_⟩
    rw [dv_non (R.any ra ea)]
    exact q.here R (.bl _)
  · cases ec
/-! ### in -/
def toKey : D → Option Key
  | .int i => some (.inl i)
  | .str x => some (.inr x)
  | _ => none
def getD' (kds : List (D × D)) (k : Key) : Option D := (kds.find? fun p => decide (toKey p.1 = some k)).map (·.2)
theorem DvKV.val {K : PySem.W.Frag} {F : Hp} (k : Key) : ∀ {ks : List (Key × V)} {kds : List (D × D)}, DvKV K F ks kds →
    (∃ v d, valV ks k = some v ∧ getD' kds k = some d ∧ Dv K F v d) ∨ (valV ks k = none ∧ getD' kds k = none)
  | _, _, .nil => .inr ⟨rfl, rfl⟩
  | _, _, .cons (k := j) (v := v) (d := d) (s := s) (r := rr) r t => by
    have tk : toKey (keyD j) = some j := by cases j <;> rfl
    by_cases e : j = k
    · refine .inl ⟨v, d, ?_, ?_, r⟩
      · exact valV_pos e
      · unfold getD'
        rw [List.find?_cons_of_pos (by rw [tk, e]; simp)]
        rfl
    · have h1 : valV ((j, v) :: rr) k = valV rr k := valV_neg (κ := Key) (p := (j, v)) e
      have h2 : getD' ((keyD j, d) :: s) k = getD' s k := by
        unfold getD'
        rw [List.find?_cons_of_neg (by rw [tk]; simpa using e)]
      rw [h1, h2]
      exact DvKV.val k t
theorem dv_key {K : PySem.W.Frag} {F : Hp} {v : V} {d : D} {k : Key} (h : Dv K F v d) (e : toKey d = some k) : v = kV k := by
  cases h <;> first | cases e | skip
  all_goals rfl
theorem op_dIn (hu : X.A.units + 1 < cLine) : OpR X (compareOp .In) (fun x y H Q => ∃ a o, y = .ref a ∧ DGet H a x o ∧ Q (.bl o.isSome) H) := by
  intro pins s σ H x y v u Q I rx ry h
  obtain ⟨a, o, rfl, g, q⟩ := h
  cases ry
  exact d_in hu I g rx fun s' I' => ⟨.bl _, H, I', rfl, q⟩
theorem op_dNotIn (hu : X.A.units + 1 < cLine) : OpR X (compareOp .NotIn) (fun x y H Q => ∃ a o, y = .ref a ∧ DGet H a x o ∧ Q (.bl (!o.isSome)) H) := by
  intro pins s σ H x y v u Q I rx ry h
  obtain ⟨a, o, rfl, g, q⟩ := h
  cases ry
  exact d_notIn hu I g rx fun s' I' => ⟨.bl _, H, I', rfl, q⟩
/-- a text in a text -/
def strIn (x z : Str) : Bool := match x.cps.toList with
  | [c] => decide (c ∈ z.cps.toList)
  | _ => !(Builtin.Str.occurrences z x 0 z.length 1).isEmpty
theorem strIn_eq (x z : Str) : strIn x z = !(Builtin.Str.occurrences z x 0 z.length 1).isEmpty := by
  unfold strIn
  split
  · rename_i c e
    have ex : x = ⟨#[c]⟩ := by
      obtain ⟨xs⟩ := x
      obtain ⟨l⟩ := xs
      simp only at e
      subst e; rfl
    rw [ex]
    exact (PySem.StrLaws.found_one z c).symm
  · rfl
def inD (a b : D) : Option Bool := match b with
  | .str z => match a with
    | .str x => some (strIn x z)
    | _ => none
  | .list bs => if flatD a && bs.all flatD then some (bs.any fun b => PyData.eqv b a) else if SeqAt.shaped a && SeqAt.shaped (.list bs) then some (bs.any fun b => PyData.eqv b a) else none
  | .tuple bs => if flatD a && bs.all flatD then some (bs.any fun b => PyData.eqv b a) else none
  | .dict kds => (toKey a).map fun k => (getD' kds k).isSome
  | _ => none
def oIn : O2 := fun a b => (inD a b).map .bool
def oNotIn : O2 := fun a b => (inD a b).map fun k => .bool (!k)
theorem od_in (hu : X.A.units + 65 < cLine) : OpR X (compareOp .In) (r2D X.K X.mg oIn) := by
  refine OpR.imp ((op_in_str (X := X)).or ((op_in_seq (X := X)).or ((op_inD hu).or (op_dIn (by omega))))) fun x y H Q h => ?_
  obtain ⟨w, a, b, da, db, c, rfl, R, ra, rb, ea, eb, ec, q⟩ := h
  unfold oIn inD at ec
  have h1 := R.any ra ea
  split at ec
  · split at ec
    · cases ec
      cases R.str ra ea
      cases R.str rb eb
      exact .inl ⟨_, _, rfl, rfl, by rw [← strIn_eq]; exact q.here R (.bl _)⟩
    · cases ec
  · split at ec
    · rename_i bs hf
      obtain ⟨fa, fb⟩ := Bool.and_eq_true_iff.mp hf
      cases ec
      obtain ⟨p, xs, rfl, g1, g2⟩ := R.list rb eb
      refine .inr (.inl ⟨p, xs, rfl, .inl g1, h1.flat fa, g2.flat fb, ?_⟩)
      rw [if_neg Bool.false_ne_true, inV_eqv h1 fa (g2.mono w.F_same) fb]
      exact q.here R (.bl _)
    · split at ec
      · rename_i bs hn hf
        obtain ⟨fa, fb⟩ := Bool.and_eq_true_iff.mp hf
        cases ec
        exact .inr (.inr (.inl ⟨da, bs, h1.dp (toSh fa), (R.any rb eb).dp (toSh fb), fa, fb, q.here R (.bl _)⟩))
      · cases ec
  · split at ec
    · rename_i bs hf
      obtain ⟨fa, fb⟩ := Bool.and_eq_true_iff.mp hf
      cases ec
      obtain ⟨p, xs, rfl, g1, g2, _⟩ := R.tuple rb eb
      refine .inr (.inl ⟨p, xs, rfl, .inr g1, h1.flat fa, g2.flat fb, ?_⟩)
      rw [if_neg Bool.false_ne_true, inV_eqv h1 fa (g2.mono w.F_same) fb]
      exact q.here R (.bl _)
    · cases ec
  · rename_i kds
    cases hk : toKey da with
    | none => rw [hk] at ec; cases ec
    | some k =>
      rw [hk] at ec
      cases ec
      obtain ⟨p, ks, rfl, g1, g2⟩ := R.dict rb eb
      have ex := dv_key h1 hk
      subst ex
      refine .inr (.inr (.inr ⟨p, _, rfl, DGet.k g1, ?_⟩))
      rcases g2.val k with ⟨v, d, e1, e2, _⟩ | ⟨e1, e2⟩
      · rw [e1]; dsimp only at q; rw [e2] at q; exact q.here R (.bl _)
      · rw [e1]; dsimp only at q; rw [e2] at q; exact q.here R (.bl _)
  · cases ec
theorem od_notIn (hu : X.A.units + 65 < cLine) : OpR X (compareOp .NotIn) (r2D X.K X.mg oNotIn) := by
  refine OpR.imp ((op_notin_str (X := X)).or ((op_notIn_seq (X := X)).or ((op_notInD hu).or (op_dNotIn (by omega))))) fun x y H Q h => ?_
  obtain ⟨w, a, b, da, db, c, rfl, R, ra, rb, ea, eb, ec, q⟩ := h
  unfold oNotIn inD at ec
  have h1 := R.any ra ea
  split at ec
  · split at ec
    · cases ec
      cases R.str ra ea
      cases R.str rb eb
      exact .inl ⟨_, _, rfl, rfl, by rw [← strIn_eq]; exact q.here R (.bl _)⟩
    · cases ec
  · split at ec
    · rename_i bs hf
      obtain ⟨fa, fb⟩ := Bool.and_eq_true_iff.mp hf
      cases ec
      obtain ⟨p, xs, rfl, g1, g2⟩ := R.list rb eb
      refine .inr (.inl ⟨p, xs, rfl, .inl g1, h1.flat fa, g2.flat fb, ?_⟩)
      rw [if_pos rfl, inV_eqv h1 fa (g2.mono w.F_same) fb]
      exact q.here R (.bl _)
    · split at ec
      · rename_i bs hn hf
        obtain ⟨fa, fb⟩ := Bool.and_eq_true_iff.mp hf
        cases ec
        exact .inr (.inr (.inl ⟨da, bs, h1.dp (toSh fa), (R.any rb eb).dp (toSh fb), fa, fb, q.here R (.bl _)⟩))
      · cases ec
  · split at ec
    · rename_i bs hf
      obtain ⟨fa, fb⟩ := Bool.and_eq_true_iff.mp hf
      cases ec
      obtain ⟨p, xs, rfl, g1, g2, _⟩ := R.tuple rb eb
      refine .inr (.inl ⟨p, xs, rfl, .inr g1, h1.flat fa, g2.flat fb, ?_⟩)
      rw [if_pos rfl, inV_eqv h1 fa (g2.mono w.F_same) fb]
      exact q.here R (.bl _)
    · cases ec
  · rename_i kds
    cases hk : toKey da with
    | none => rw [hk] at ec; cases ec
    | some k =>
      rw [hk] at ec
      cases ec
      obtain ⟨p, ks, rfl, g1, g2⟩ := R.dict rb eb
      have ex := dv_key h1 hk
      subst ex
      refine .inr (.inr (.inr ⟨p, _, rfl, DGet.k g1, ?_⟩))
      rcases g2.val k with ⟨v, d, e1, e2, _⟩ | ⟨e1, e2⟩
      · rw [e1]; dsimp only at q; rw [e2] at q; exact q.here R (.bl _)
      · rw [e1]; dsimp only at q; rw [e2] at q; exact q.here R (.bl _)
  · cases ec
end
end Zz
set_option maxRecDepth 100000
set_option maxHeartbeats 4000000
namespace Zz
open PySem PySem.Spec PyProof.Rows L2

/-- what every body's context bears: nothing handled, room for n calls, no repr running, unlike names -/
structure CxOk (X : Cx) (n : Nat) : Prop where
  hc : X.calm = true
  hr : Room n X.A
  hG : X.A.guards = some []
  hN : X.N.Nodup
theorem CxOk.blk {X : Cx} {n : Nat} (h : CxOk X n) {s : Shared} {H : Hp} {sc : Scope} {ce : Env} {fp : List Addr} : CxOk (X.blk s H sc ce fp) n := ⟨h.hc, h.hr, h.hG, h.hN⟩
theorem CxOk.tr {X : Cx} {n : Nat} (h : CxOk X n) {pn : List (Addr × Obj)} {xe : Value → Shared → Prop} : CxOk (X.tr pn xe) n := ⟨h.hc, h.hr, h.hG, h.hN⟩
theorem CxOk.mono {X : Cx} {n m : Nat} (h : CxOk X n) (q : m ≤ n) : CxOk X m := ⟨h.hc, h.hr.mono q, h.hG, h.hN⟩
theorem CxOk.u65 {X : Cx} {n : Nat} (h : CxOk X n) : X.A.units + 65 < cLine := by have := h.hr.un; omega
theorem CxOk.u64 {X : Cx} {n : Nat} (h : CxOk X n) : X.A.units + 64 < cLine := h.hr.units
theorem CxOk.u1 {X : Cx} {n : Nat} (h : CxOk X n) : X.A.units + 1 < cLine := hu_of h.hr

/-- a def's function: of its arguments -/
abbrev Fn := List Val → M Val
/-- a def at f keeps the promise sp, called where no repr is running -/
structure FnG (P : Program) (w : World) (K : PySem.W.Frag) (mg : Str → Option Value) (base : Heap) (k : Nat) (f : Addr) (fd : FuncData) (ps : List Str) (F : Fn) : Prop where
  run : ∀ (A : Around) (outer : List Env) (s : Shared) (H : Hp) (args : Args) (us : List Value) (vs : List V) (Q : VK) (E : XK), A.guards = some [] → Room k A → Env0 P w K mg base A outer s H → BindsTo s fd args (ps.zip us) → Vals vs us →
    vs.length = ps.length → (∃ α S as, Rep K mg ⟨α, S, H⟩ ∧ RVs K ⟨α, S, H⟩ vs as ∧ After K mg (RV K) ⟨α, S, H⟩ (F as S) Q E) → codeAny (model P w) A (.call (.ref f) args) (CR (L2.CX P w) outer P w H s Q E) s
theorem FnG.mono {P : Program} {w : World} {K : PySem.W.Frag} {mg : Str → Option Value} {base : Heap} {j k : Nat} {f : Addr} {fd : FuncData} {ps : List Str} {F : Fn} (h : FnG P w K mg base j f fd ps F) (q : j ≤ k) : FnG P w K mg base k f fd ps F :=
  ⟨fun A outer s H args us vs Q E hg hr => h.run A outer s H args us vs Q E hg (hr.mono q)⟩
section
variable {X : Cx} {k n : Nat} {f : Addr} {fd : FuncData} {ps ks : List Str} {F : Fn} {W : WX} {x : Str} {p pos : Pos} {e : Expr} {es : List Expr} {g : Env' → M (List Val)}
/-- the callee runs, whatever its arguments' form -/
theorem runG {pins : List (Addr × Obj)} {σ : L2.St} {H : Hp} {s : Shared} {Q : VK} {us : List Value} {vs : List V} {args : Args} (G : FnG X.prog X.w X.K X.mg X.base k f fd ps F) (C : CxOk X k) (tk : Takes X W) (I : Inv X pins σ H s) (r : Vals vs us)
    (hb : BindsTo s fd args (ps.zip us)) (hl : vs.length = ps.length) (h : ∃ α S as, Rep X.K X.mg ⟨α, S, H⟩ ∧ RVs X.K ⟨α, S, H⟩ vs as ∧ After X.K X.mg (RV X.K) ⟨α, S, H⟩ (F as S) Q (fun c d H' => W c d σ H')) :
    codeAny (model X.prog X.w) X.A (.call (.ref f) args) (wants (fun v s' => EP X pins σ Q v s') X.xe) s := by
  refine codeAny_mono (G.run X.A X.stack s H args us vs Q _ C.hG C.hr I.env0 hb r hl h) fun r s' hq => ?_
  cases r with
  | error e => exact tk e s' (XE.of_call I (fun _ _ _ h => h) hq)
  | ok fl =>
    cases fl with
    | ret u => exact I.after hq
    | next => exact False.elim hq
    | brk => exact False.elim hq
    | cont => exact False.elim hq
end
/-- f of the arguments g, with the cells that f made itself forgotten -/
def dCall (F : Fn) (g : Env' → M (List Val)) : Env' → M Val := fun ρ => (g ρ).bind F
section
variable {X : Cx} {k n : Nat} {f : Addr} {fd : FuncData} {ps ks : List Str} {F : Fn} {W : WX} {x : Str} {p pos : Pos} {e : Expr} {es : List Expr} {g : Env' → M (List Val)}
theorem callQ {g : Env' → M (List Val)} {σ : L2.St} {H : Hp} {Q : VK} (hl : ∀ vs H', (∃ α S as, Rep X.K X.mg ⟨α, S, H'⟩ ∧ RVs X.K ⟨α, S, H'⟩ vs as ∧ After X.K X.mg (RV X.K) ⟨α, S, H'⟩ (F as S) Q (fun c d H' => W c d σ H')) → vs.length = ps.length)
    (h : tD X.K X.mg W (dCall F g) σ H Q) : tDs X.K X.mg W g σ H (fun vs H' => vs.length = ps.length ∧ ∃ α S as, Rep X.K X.mg ⟨α, S, H'⟩ ∧ RVs X.K ⟨α, S, H'⟩ vs as ∧ After X.K X.mg (RV X.K) ⟨α, S, H'⟩ (F as S) Q (fun c d H' => W c d σ H')) := by
  obtain ⟨α, S, ρ, R, RE, q⟩ := h
  refine ⟨α, S, ρ, R, RE, After.imp (After.split (rel := RVs X.K) q) (fun vs H' ⟨α', S', as, e1, e2, e3, e4⟩ => ?_) fun _ _ _ z => z⟩
  have z : ∃ α S as, Rep X.K X.mg ⟨α, S, H'⟩ ∧ RVs X.K ⟨α, S, H'⟩ vs as ∧ After X.K X.mg (RV X.K) ⟨α, S, H'⟩ (F as S) Q (fun c d H' => W c d σ H') := ⟨α', S', as, e2, e3, e4⟩
  exact ⟨hl vs H' z, z⟩
/-- F is stuck unless it gets n arguments -/
def Arity (n : Nat) (F : Fn) : Prop := ∀ as S, as.length ≠ n → F as S = .st
theorem arityQ (hF : Arity ps.length F) {σ : L2.St} {Q : VK} (vs : List V) (H' : Hp) (h : ∃ α S as, Rep X.K X.mg ⟨α, S, H'⟩ ∧ RVs X.K ⟨α, S, H'⟩ vs as ∧ After X.K X.mg (RV X.K) ⟨α, S, H'⟩ (F as S) Q (fun c d H' => W c d σ H')) : vs.length = ps.length := by
  obtain ⟨α, S, as, R, r, q⟩ := h
  by_cases e : as.length = ps.length
  · rw [r.length]; exact e
  · rw [hF as S e] at q; exact False.elim q
theorem ed_call (G : FnG X.prog X.w X.K X.mg X.base k f fd ps F) (hF : Arity ps.length F) (C : CxOk X n) (hk : k ≤ n) (tk : Takes X W) (hm : X.mg x = some (.ref f)) (kp : PySem.W.keepIn X.K (.ref f) = true) (hb : Binds X.K fd ps [])
    (ha : AD X W (e :: es) g) (hg : Gl X x := by rfl) (hdb : (x == ("__debug__" : Str)) = false := by decide) (he : starEach (e :: es) X.env = (false, eval e X.env) :: starEach es X.env := by rfl) (hpl : (backTo pos (starEach es X.env)).any (·.1) = false := by rfl) :
    ED X W (.Call (.Name x p) (e :: es) [] pos) (dCall F g) := by
  refine ⟨fun pins s σ H Q I h => wpAny_Call_Name_kw (ld_glob I hg hm ?_ hdb)⟩
  refine PySem.W.callWith_K (h₀ := X.base) I.ok.mod.kin kp (thn (ha.run pos pins s σ H _ I (callQ (arityQ hF) h)) fun us s1 ⟨vs, H1, I1, r, hl, q⟩ => ⟨I1.kIn, ?_⟩) he hpl
  have b := hb s1 us I1.kIn (by rw [List.append_nil, ← r.length]; exact hl)
  rw [List.append_nil] at b
  exact wpAny_call (runG G (C.mono hk) tk I1 r b hl q)
theorem ed_call0 (G : FnG X.prog X.w X.K X.mg X.base k f fd ps F) (hF : Arity ps.length F) (C : CxOk X n) (hk : k ≤ n) (tk : Takes X W) (hm : X.mg x = some (.ref f)) (kp : PySem.W.keepIn X.K (.ref f) = true) (hb : Binds X.K fd ps [])
    (hg : Gl X x := by rfl) (hdb : (x == ("__debug__" : Str)) = false := by decide) : ED X W (.Call (.Name x p) [] [] pos) (dCall F fun _ => M.ret []) := by
  refine ⟨fun pins s σ H Q I h => wpAny_Call_Name_kw (ld_glob I hg hm ?_ hdb)⟩
  obtain ⟨α, S, ρ, R, RE, q⟩ := h
  have q' : After X.K X.mg (RV X.K) ⟨α, S, H⟩ (F [] S) Q (fun c d H' => W c d σ H') := q
  have z : ∃ α S as, Rep X.K X.mg ⟨α, S, H⟩ ∧ RVs X.K ⟨α, S, H⟩ ([] : List V) as ∧ After X.K X.mg (RV X.K) ⟨α, S, H⟩ (F as S) Q (fun c d H' => W c d σ H') := ⟨α, S, [], R, .nil, q'⟩
  have hl := arityQ (X := X) (W := W) hF [] H z
  have b := hb s [] I.kIn (by rw [List.append_nil]; exact hl)
  rw [List.append_nil] at b
  exact PySem.W.callWith_K0 I.kIn kp (wpAny_call (runG G (C.mono hk) tk I .nil b hl z))
/-- how keywords alone bind: in the parameters' order by g -/
def KBind (fd : FuncData) (ps ks : List Str) (g : {T : Type} → List T → List T) : Prop := ∀ (s : Shared) (ws : List Value), ws.length = ks.length → BindsTo s fd ⟨[], ks.zip ws⟩ (ps.zip (g ws))
def dArgs (g : {T : Type} → List T → List T) (f : Env' → M (List Val)) : Env' → M (List Val) := fun ρ => (f ρ).bind fun xs => M.ret (g xs)
/-- keywords -/
abbrev KD (X : Cx) (W : WX) (kws : List Keyword) (f : Env' → M (List Val)) : Prop := PK X kws (tDs X.K X.mg W f)
/-- f(k = v, ..) -/
theorem ed_callK (perm : {T : Type} → List T → List T) (hp : ∀ {T U : Type} {r : T → U → Prop} {a : List T} {b : List U}, Paired r a b → Paired r (perm a) (perm b)) (hpl' : ∀ {T : Type} (a : List T), a.length = ks.length → (perm a).length = ps.length) (hn : ks.length = ps.length)
    (hperm : ∀ {T : Type} (a : List T), (perm a).length = ps.length → a.length = ks.length)
    (G : FnG X.prog X.w X.K X.mg X.base k f fd ps F) (hF : Arity ps.length F) (C : CxOk X n) (hk : k ≤ n) (tk : Takes X W) (hm : X.mg x = some (.ref f)) (kp : PySem.W.keepIn X.K (.ref f) = true) (hb : KBind fd ps ks perm) {kws : List Keyword}
    (ha : KD X W kws g) (hall : (backToKw pos (keywordEach kws X.env)).all (·.1.isSome) = true := by rfl) (hks : (backToKw pos (keywordEach kws X.env)).filterMap (·.1) = ks := by rfl)
    (hg : Gl X x := by rfl) (hdb : (x == ("__debug__" : Str)) = false := by decide) (hpl : ((backTo pos (starEach [] X.env)).any (·.1) || (backToKw pos (keywordEach kws X.env)).any (·.1.isNone)) = false := by rfl) :
    ED X W (.Call (.Name x p) [] kws pos) (dCall F (dArgs perm g)) := by
  refine ⟨fun pins s σ H Q I h => wpAny_Call_Name_kw (ld_glob I hg hm ?_ hdb)⟩
  have h2 : tDs X.K X.mg W g σ H (fun vs H' => vs.length = ks.length ∧ ∃ α S as, Rep X.K X.mg ⟨α, S, H'⟩ ∧ RVs X.K ⟨α, S, H'⟩ (perm vs) as ∧ After X.K X.mg (RV X.K) ⟨α, S, H'⟩ (F as S) Q (fun c d H' => W c d σ H')) := by
    obtain ⟨α, S, ρ, R, RE, q⟩ := h
    have q2 : After X.K X.mg (RV X.K) ⟨α, S, H⟩ ((g ρ S).bind fun xs => F (perm xs)) Q (fun c d H' => W c d σ H') := by
      have e : dCall F (dArgs perm g) ρ S = (g ρ S).bind fun xs => F (perm xs) := by
        show ((g ρ S).bind fun xs => M.ret (perm xs)).bind F = _
        cases g ρ S <;> rfl
      rw [← e]; exact q
    refine ⟨α, S, ρ, R, RE, After.imp (After.split (rel := RVs X.K) q2) (fun vs H' ⟨α', S', as, e1, e2, e3, e4⟩ => ?_) fun _ _ _ z => z⟩
    have e3' : RVs X.K ⟨α', S', H'⟩ (perm vs) (perm as) := hp e3
    have z : ∃ α S as, Rep X.K X.mg ⟨α, S, H'⟩ ∧ RVs X.K ⟨α, S, H'⟩ (perm vs) as ∧ After X.K X.mg (RV X.K) ⟨α, S, H'⟩ (F as S) Q (fun c d H' => W c d σ H') := ⟨α', S', perm as, e2, e3', e4⟩
    exact ⟨hperm vs (arityQ hF _ H' z), z⟩
  refine PySem.W.callWith_KW0 (h₀ := X.base) I.ok.mod.kin kp hall (thn (ha.run pos pins s σ H _ I h2) fun us s1 ⟨vs, H1, I1, r, hl, q⟩ => ⟨I1.kIn, ?_⟩) hpl
  rw [hks]
  have r2 : Vals (perm vs) (perm us) := hp r
  have b := hb s1 us (by rw [← r.length]; exact hl)
  exact wpAny_call (runG G (C.mono hk) tk I1 r2 b (hpl' vs hl) q)
/-! ### argument lists -/
def dNil : Env' → M (List Val) := fun _ => M.ret []
def dCons (f : Env' → M Val) (g : Env' → M (List Val)) : Env' → M (List Val) := fun ρ => (f ρ).bind fun x => (g ρ).bind fun xs => M.ret (x :: xs)
theorem ad_nil : AD X W [] dNil := PA.imp pa_nil fun σ H Q ⟨α, S, ρ, R, RE, q⟩ => q α H [] (Ext.refl _) R .nil
theorem consQ {f : Env' → M Val} {g : Env' → M (List Val)} {σ : L2.St} {H : Hp} {Q : List V → Hp → Prop} (h : tDs X.K X.mg W (dCons f g) σ H Q) : tCons (tD X.K X.mg W f) (tDs X.K X.mg W g) σ H Q := by
  obtain ⟨α, S, ρ, R, RE, q⟩ := h
  refine ⟨α, S, ρ, R, RE, After.imp (After.split (rel := RV X.K) q) (fun v H1 ⟨α1, S1, x, e1, R1, r1, q1⟩ => ?_) fun _ _ _ z => z⟩
  refine ⟨α1, S1, ρ, R1, RE.mono e1, After.imp (After.split (rel := RVs X.K) q1) (fun vs H2 ⟨α2, S2, xs, e2, R2, r2, q2⟩ => ?_) fun _ _ _ z => z⟩
  exact q2 α2 H2 (v :: vs) (Ext.refl _) R2 (.cons (r1.mono e2) r2)
theorem ad_cons {f : Env' → M Val} {g : Env' → M (List Val)} (ha : ED X W e f) (hr : AD X W es g) (hs : starEach (e :: es) X.env = (false, eval e X.env) :: starEach es X.env := by rfl) : AD X W (e :: es) (dCons f g) :=
  PA.imp (pa_cons ha hr hs) fun σ H Q h => consQ h
theorem kd_nil : KD X W [] dNil := ⟨fun pos pins s σ H Q I ⟨α, S, ρ, R, RE, q⟩ => pk_nil.run pos pins s σ H Q I (q α H [] (Ext.refl _) R .nil)⟩
theorem kd_cons {nm : Option Str} {kpos : Pos} {kws : List Keyword} {f : Env' → M Val} {g : Env' → M (List Val)} (ha : ED X W e f) (hr : KD X W kws g) : KD X W (⟨nm, e, kpos⟩ :: kws) (dCons f g) :=
  ⟨fun pos pins s σ H Q I h => (pk_cons ha hr).run pos pins s σ H Q I (consQ h)⟩
end
end Zz
set_option maxRecDepth 100000
set_option maxHeartbeats 4000000
namespace Zz
open PySem PySem.Spec PyProof.Rows L2

/-! ### statements -/
inductive SRes where
  | st
  | nx (ρ : Env') (S : List Cell)
  | rt (v : Val) (S : List Cell)
  | bk (ρ : Env') (S : List Cell)
  | ct (ρ : Env') (S : List Cell)
  | ex (x : Ex) (ρ : Env') (S : List Cell)
abbrev SD := Env' → List Cell → SRes
def AfterS (K : PySem.W.Frag) (mg : Str → Option Value) (w : Wd) (r : SRes) (D : Ends) (W : WX) : Prop :=
  match r with
  | .st => False
  | .nx ρ S => ∀ α H σ, Ext w ⟨α, S, H⟩ → Rep K mg ⟨α, S, H⟩ → RE K ⟨α, S, H⟩ σ ρ → D.nx σ H
  | .bk ρ S => ∀ α H σ, Ext w ⟨α, S, H⟩ → Rep K mg ⟨α, S, H⟩ → RE K ⟨α, S, H⟩ σ ρ → D.bk σ H
  | .ct ρ S => ∀ α H σ, Ext w ⟨α, S, H⟩ → Rep K mg ⟨α, S, H⟩ → RE K ⟨α, S, H⟩ σ ρ → D.ct σ H
  | .rt v S => ∀ α H u, Ext w ⟨α, S, H⟩ → Rep K mg ⟨α, S, H⟩ → RV K ⟨α, S, H⟩ u v → D.rt u H
  | .ex x ρ S => ∀ α H σ cls d, Ext w ⟨α, S, H⟩ → Rep K mg ⟨α, S, H⟩ → RE K ⟨α, S, H⟩ σ ρ → RX K mg ⟨α, S, H⟩ cls d x → W cls d σ H
def tS (K : PySem.W.Frag) (mg : Str → Option Value) (W : WX) (f : SD) : TS := fun D σ H =>
  ∃ α S ρ, Rep K mg ⟨α, S, H⟩ ∧ RE K ⟨α, S, H⟩ σ ρ ∧ AfterS K mg ⟨α, S, H⟩ (f ρ S) D W
abbrev StD (X : Cx) (W : WX) (s : Stmt) (f : SD) : Prop := PS X s (tS X.K X.mg W f)
abbrev BkD (X : Cx) (W : WX) (s : List Stmt) (f : SD) : Prop := PSs X s (tS X.K X.mg W f)
/-- f's value, then k; what f raises is raised -/
def Res.then_ {A : Type} (r : Res A) (ρ : Env') (k : A → List Cell → SRes) : SRes := match r with
  | .st => .st
  | .ok a S => k a S
  | .ex x S => .ex x ρ S
section
variable {K : PySem.W.Frag} {mg : Str → Option Value} {w w' : Wd} {D D' : Ends} {W W' : WX}
theorem AfterS.later {r : SRes} (h : AfterS K mg w r D W) (e : Ext w w') : AfterS K mg w' r D W := by
  cases r with
  | st => exact h
  | nx ρ S => exact fun α H σ e' => h α H σ (e.trans e')
  | bk ρ S => exact fun α H σ e' => h α H σ (e.trans e')
  | ct ρ S => exact fun α H σ e' => h α H σ (e.trans e')
  | rt v S => exact fun α H σ e' => h α H σ (e.trans e')
  | ex x ρ S => exact fun α H σ c d e' => h α H σ c d (e.trans e')
/-- a piece, then the rest -/
theorem AfterS.split {A B : Type} {rel : Wd → B → A → Prop} {r : Res A} {ρ : Env'} {k : A → List Cell → SRes} (h : AfterS K mg w (r.then_ ρ k) D W) {σ : L2.St} (re : RE K w σ ρ) :
    After K mg rel w r (fun b H => ∃ α S a, Ext w ⟨α, S, H⟩ ∧ Rep K mg ⟨α, S, H⟩ ∧ rel ⟨α, S, H⟩ b a ∧ RE K ⟨α, S, H⟩ σ ρ ∧ AfterS K mg ⟨α, S, H⟩ (k a S) D W) (fun c d H => W c d σ H) := by
  cases r with
  | st => exact h
  | ok a S => exact fun α H b e1 e2 e3 => ⟨α, S, a, e1, e2, e3, re.mono e1, AfterS.later h e1⟩
  | ex x S => exact fun α H c d e1 e2 e3 => h α H σ c d e1 e2 (re.mono e1) e3
end
section
variable {X : Cx} {W : WX} {s : Stmt} {ss : List Stmt} {e : Expr} {pos : Pos} {f : Env' → M Val} {g : SD}
theorem PS.imp {t t' : TS} (h : PS X s t) (k : ∀ D σ H, t' D σ H → t D σ H) : PS X s t' := ⟨fun pins s' σ H D I q => h.run pins s' σ H D I (k D σ H q)⟩
theorem PSs.imp {t t' : TS} (h : PSs X ss t) (k : ∀ D σ H, t' D σ H → t D σ H) : PSs X ss t' := ⟨fun pins s' σ H D I q => h.run pins s' σ H D I (k D σ H q)⟩
def sNil : SD := fun ρ S => .nx ρ S
theorem bd_nil : BkD X W [] sNil := PSs.imp pss_nil fun D σ H ⟨α, S, ρ, R, RE, q⟩ => q α H σ (Ext.refl _) R RE
def sSeq (f g : SD) : SD := fun ρ S => match f ρ S with
  | .nx ρ' S' => g ρ' S'
  | r => r
theorem bd_cons {f g : SD} (h1 : StD X W s f) (h2 : BkD X W ss g) : BkD X W (s :: ss) (sSeq f g) := by
  refine PSs.imp (pss_cons h1 h2) fun D σ H ⟨α, S, ρ, R, re, q⟩ => ⟨α, S, ρ, R, re, ?_⟩
  show AfterS X.K X.mg ⟨α, S, H⟩ (f ρ S) { D with nx := tS X.K X.mg W g D } W
  unfold sSeq at q
  cases e : f ρ S with
  | nx ρ' S' =>
    rw [e] at q
    exact fun α' H' σ' e1 R1 re1 => ⟨α', S', ρ', R1, re1, AfterS.later q e1⟩
  | st => rw [e] at q; exact q
  | bk ρ' S' => rw [e] at q; exact q
  | ct ρ' S' => rw [e] at q; exact q
  | rt v S' => rw [e] at q; exact q
  | ex x ρ' S' => rw [e] at q; exact q
theorem bd_one {f : SD} (h : StD X W s f) : BkD X W [s] f := pss_one h
theorem sd_pass : StD X W (.Pass pos) sNil := PS.imp ps_pass fun D σ H ⟨α, S, ρ, R, RE, q⟩ => q α H σ (Ext.refl _) R RE
def sBreak : SD := fun ρ S => .bk ρ S
def sCont : SD := fun ρ S => .ct ρ S
theorem sd_break : StD X W (.Break pos) sBreak := PS.imp ps_break fun D σ H ⟨α, S, ρ, R, RE, q⟩ => q α H σ (Ext.refl _) R RE
theorem sd_continue : StD X W (.Continue pos) sCont := PS.imp ps_continue fun D σ H ⟨α, S, ρ, R, RE, q⟩ => q α H σ (Ext.refl _) R RE
theorem sd_doc {x j pos pos'} : StD X W (.Expr (.Constant (.str x) j pos) pos') sNil := PS.imp ps_doc fun D σ H ⟨α, S, ρ, R, RE, q⟩ => q α H σ (Ext.refl _) R RE
/-- a value dropped -/
def sExpr (f : Env' → M Val) : SD := fun ρ S => (f ρ S).then_ ρ fun _ S' => .nx ρ S'
theorem sd_expr (he : ED X W e f) (hs : swapsWith e none pos.line X.env = pure false := by rfl) : StD X W (.Expr e pos) (sExpr f) :=
  PS.imp (ps_expr he hs) fun D σ H ⟨α, S, ρ, R, re, q⟩ => ⟨α, S, ρ, R, re, After.imp (AfterS.split (rel := RV X.K) q re) (fun v H' ⟨α', S', a, e1, R1, r1, re1, q1⟩ => q1 α' H' σ (Ext.refl _) R1 re1) fun _ _ _ z => z⟩
def sRet (f : Env' → M Val) : SD := fun ρ S => (f ρ S).then_ ρ fun v S' => .rt v S'
theorem sd_ret (he : ED X W e f) : StD X W (.Return (some e) pos) (sRet f) :=
  PS.imp (ps_ret he) fun D σ H ⟨α, S, ρ, R, re, q⟩ => ⟨α, S, ρ, R, re, After.imp (AfterS.split (rel := RV X.K) q re) (fun v H' ⟨α', S', a, e1, R1, r1, re1, q1⟩ => q1 α' H' v (Ext.refl _) R1 r1) fun _ _ _ z => z⟩
def sRetN : SD := fun _ S => .rt (.d .none) S
theorem sd_retN : StD X W (.Return none pos) sRetN := PS.imp ps_retN fun D σ H ⟨α, S, ρ, R, re, q⟩ => q α H .non (Ext.refl _) R .non
def sIf (c : Env' → M Bool) (f g : SD) : SD := fun ρ S => (c ρ S).then_ ρ fun b S' => if b = true then f ρ S' else g ρ S'
theorem sd_if {c : Expr} {a b : List Stmt} {tc : Env' → M Bool} {f g : SD} (hc : TDt X W c tc) (ha : BkD X W a f) (hb : BkD X W b g) : StD X W (.If c a b pos) (sIf tc f g) :=
  PS.imp (ps_if hc ha hb) fun D σ H ⟨α, S, ρ, R, re, q⟩ => ⟨α, S, ρ, R, re, After.imp (AfterS.split (rel := fun _ b a => b = a) q re) (fun v H' ⟨α', S', a, e1, R1, r1, re1, q1⟩ => by
    subst r1
    cases v with
    | true => exact ⟨α', S', ρ, R1, re1, q1⟩
    | false => exact ⟨α', S', ρ, R1, re1, q1⟩) fun _ _ _ z => z⟩
/-! targets -/
theorem wipe_ix {σ : L2.St} {vs : List Nat} {i : Nat} (h : i ∈ vs) : (wipe σ vs)[i]? = if i < σ.length then some none else none := by
  by_cases hl : i < (wipe σ vs).length
  · have e : (wipe σ vs)[i]? = some (wipe σ vs)[i] := List.getElem?_eq_getElem hl
    rw [if_pos (by rw [wipe_length] at hl; exact hl), e]
    cases q : (wipe σ vs)[i] with
    | none => rfl
    | some x =>
      rw [q] at e
      exact absurd h (wipe_some e).2
  · rw [List.getElem?_eq_none (Nat.le_of_not_lt hl), if_neg (by rw [wipe_length] at hl; exact hl)]
theorem wipe_eq {σ σ' : L2.St} {vs : List Nat} (hl : σ'.length = σ.length) (h : ∀ i, i ∉ vs → σ'[i]? = σ[i]?) : wipe σ' vs = wipe σ vs := by
  refine List.ext_getElem? fun i => ?_
  by_cases hi : i ∈ vs
  · rw [wipe_ix hi, wipe_ix hi, hl]
  · rw [wipe_out hi, wipe_out hi, h i hi]
/-- unlike at these places alone -/
structure Only (is : List Nat) (σ σ' : L2.St) : Prop where
  len : σ'.length = σ.length
  at_ : ∀ i, i ∉ is → σ'[i]? = σ[i]?
theorem Only.refl (is : List Nat) (σ : L2.St) : Only is σ σ := ⟨rfl, fun _ _ => rfl⟩
theorem Only.trans {is js : List Nat} {σ σ' σ'' : L2.St} (h : Only is σ σ') (g : Only js σ' σ'') : Only (is ++ js) σ σ'' :=
  ⟨g.len.trans h.len, fun i hi => by
    simp only [List.mem_append, not_or] at hi
    rw [g.at_ i hi.2, h.at_ i hi.1]⟩
theorem Only.wipe {is vs : List Nat} {σ σ' : L2.St} (h : Only is σ σ') (hv : ∀ i ∈ is, i ∈ vs) : L2.wipe σ' vs = L2.wipe σ vs := wipe_eq h.len fun i hi => h.at_ i fun z => hi (hv i z)
abbrev Tg := Val → Env' → Option Env'
def tG (K : PySem.W.Frag) (mg : Str → Option Value) (is : List Nat) (g : Tg) : TG := fun v σ H Q => ∃ w x ρ ρ', w.H = H ∧ Rep K mg w ∧ RE K w σ ρ ∧ RV K w v x ∧ g x ρ = some ρ' ∧
  ∀ H' σ', Ext w (w.at H') → Rep K mg (w.at H') → RE K (w.at H') σ' ρ' → Only is σ σ' → Q σ' H'
abbrev GD (X : Cx) (t : Expr) (is : List Nat) (g : Tg) : Prop := PG X t (tG X.K X.mg is g)
theorem PG.imp {t : Expr} {g g' : TG} (h : PG X t g) (k : ∀ v σ H Q, g' v σ H Q → g v σ H Q) : PG X t g' := ⟨fun pins s σ H v u Q I r q => h.run pins s σ H v u Q I r (k v σ H Q q)⟩
theorem PGs.imp {t : List Expr} {g g' : TGs} (h : PGs X t g) (k : ∀ v σ H Q, g' v σ H Q → g v σ H Q) : PGs X t g' := ⟨fun pins s σ H v u Q I r q => h.run pins s σ H v u Q I r (k v σ H Q q)⟩
def toName (i : Nat) : Tg := fun x ρ => some (ρ.set i (some x))
theorem gd_name {i : Nat} {x : Str} (hN : X.N.Nodup) (hi : X.N[i]? = some x := by rfl) (hx : Loc X.env.scope x := by first | exact Or.inl rfl | exact Or.inr rfl) (hf : X.fn x = true ∨ X.env.scope.names.lookup x = some .local := by first | exact .inl rfl | exact .inr rfl) : GD X (.Name x pos) [i] (toName i) :=
  PG.imp (pg_name hN hi hx hf) fun v σ H Q ⟨w, x, ρ, ρ', eh, R, re, rv, eg, q⟩ => by
    subst eh
    cases eg
    exact q w.H _ (Ext.refl _) R (re.set rv i) ⟨List.length_set, fun j hj => List.getElem?_set_ne (fun e => hj (by simp [e]))⟩
/-- several targets for as many data -/
abbrev Tgs := List D → Env' → Option Env'
def tGs (K : PySem.W.Frag) (mg : Str → Option Value) (is : List Nat) (g : Tgs) : TGs := fun vs σ H Q => ∃ w xs ρ ρ', w.H = H ∧ Rep K mg w ∧ RE K w σ ρ ∧ DvAll K w.F vs xs ∧ g xs ρ = some ρ' ∧
  ∀ H' σ', Ext w (w.at H') → Rep K mg (w.at H') → RE K (w.at H') σ' ρ' → Only is σ σ' → Q σ' H'
def toNil : Tgs := fun xs ρ => match xs with
  | [] => some ρ
  | _ => none
def toCons (g : Tg) (h : Tgs) : Tgs := fun xs ρ => match xs with
  | [] => none
  | x :: r => (g (.d x) ρ).bind (h r)
def toTup (h : Tgs) : Tg := fun x ρ => match x with
  | .d (.tuple ds) => h ds ρ
  | _ => none
theorem gs_nil : PGs X [] (tGs X.K X.mg [] toNil) := PGs.imp pgs_nil fun v σ H Q ⟨w, xs, ρ, ρ', eh, R, re, rv, eg, q⟩ => by
  subst eh
  cases rv with
  | nil => cases eg; exact ⟨rfl, q w.H σ (Ext.refl _) R re (Only.refl _ _)⟩
  | cons a b => cases eg
theorem gs_cons {t : Expr} {ts : List Expr} {g : Tg} {h : Tgs} {is js : List Nat} (h1 : GD X t is g) (h2 : PGs X ts (tGs X.K X.mg js h)) (hs : (assignEach (t :: ts) X.env).map (·.2) = assign t X.env :: (assignEach ts X.env).map (·.2) := by rfl) : PGs X (t :: ts) (tGs X.K X.mg (is ++ js) (toCons g h)) :=
  PGs.imp (pgs_cons h1 h2 hs) fun v σ H Q ⟨w, xs, ρ, ρ', eh, R, re, rv, eg, q⟩ => by
    subst eh
    cases rv with
    | nil => cases eg
    | @cons v1 vs1 d1 ds1 a b =>
      have eg' : (g (.d d1) ρ).bind (h ds1) = some ρ' := eg
      obtain ⟨ρ1, e1, e2⟩ := Option.bind_eq_some_iff.mp eg'
      refine ⟨v1, vs1, rfl, w, .d d1, ρ, ρ1, rfl, R, re, a, e1, fun H1 σ1 x1 R1 re1 o1 => ?_⟩
      exact ⟨w.at H1, ds1, ρ1, ρ', rfl, R1, re1, b.mono x1.same, e2, fun H2 σ2 x2 R2 re2 o2 => q H2 σ2 (x1.trans x2) R2 re2 (o1.trans o2)⟩
theorem gd_tup {ts : List Expr} {k : Nat} {h : Tgs} {n : Nat} {is : List Nat} (hc : X.calm = true) (h1 : PGs X ts (tGs X.K X.mg is h)) (har : ∀ ds ρ, ds.length ≠ n → h ds ρ = none) (hn : (assignEach ts X.env).length = n := by rfl) (hst : (assignEach ts X.env).findIdx? (·.1) = none := by rfl) :
    GD X (.Tuple ts k pos) is (toTup h) :=
  PG.imp (pg_tup hc h1 hn hst) fun v σ H Q ⟨w, x, ρ, ρ', eh, R, re, rv, eg, q⟩ => by
    subst eh
    unfold toTup at eg
    split at eg
    · rename_i ds
      obtain ⟨a, xs, rfl, h2, h3, _⟩ := R.tuple (x := .d (.tuple ds)) rv rfl
      refine ⟨a, xs, rfl, h2, ?_, w, ds, ρ, ρ', rfl, R, re, h3, eg, q⟩
      rw [h3.length]
      refine Classical.byContradiction fun z => ?_
      rw [har ds ρ z] at eg
      cases eg
    · cases eg
/-- toCons/toNil want as many data as targets -/
theorem arNil (ds : List D) (ρ : Env') (h : ds.length ≠ 0) : toNil ds ρ = none := by
  cases ds with
  | nil => exact absurd rfl h
  | cons a b => rfl
theorem arCons {g : Tg} {h : Tgs} {n : Nat} (hh : ∀ ds ρ, ds.length ≠ n → h ds ρ = none) (ds : List D) (ρ : Env') (hn : ds.length ≠ n + 1) : toCons g h ds ρ = none := by
  cases ds with
  | nil => rfl
  | cons a b =>
    show (g (.d a) ρ).bind (h b) = none
    cases g (.d a) ρ with
    | none => rfl
    | some ρ' => exact hh b ρ' (fun e => hn (by rw [List.length_cons, e]))
/-- name = value -/
def sSet (i : Nat) (f : Env' → M Val) : SD := fun ρ S => (f ρ S).then_ ρ fun v S' => .nx (ρ.set i (some v)) S'
theorem sd_set {i : Nat} {x : Str} {pos' : Pos} (hN : X.N.Nodup) (he : ED X W e f) (hi : X.N[i]? = some x := by rfl) (hx : Loc X.env.scope x := by first | exact Or.inl rfl | exact Or.inr rfl) (hs : swapsWith e (some (.Name x pos')) pos.line X.env = pure false := by rfl)
    (hf : X.fn x = true ∨ X.env.scope.names.lookup x = some .local := by first | exact .inl rfl | exact .inr rfl) : StD X W (.Assign [.Name x pos'] e pos) (sSet i f) :=
  PS.imp (ps_set hN hi hx he hs hf) fun D σ H ⟨α, S, ρ, R, re, q⟩ => ⟨α, S, ρ, R, re, After.imp (AfterS.split (rel := RV X.K) q re) (fun v H' ⟨α', S', a, e1, R1, r1, re1, q1⟩ => q1 α' H' _ (Ext.refl _) R1 (re1.set r1 i)) fun _ _ _ z => z⟩
/-- target = value, any target -/
def sAsg (g : Tg) (f : Env' → M Val) : SD := fun ρ S => (f ρ S).then_ ρ fun v S' => match g v ρ with
  | some ρ' => .nx ρ' S'
  | none => .st
theorem sd_asg {tg : Expr} {g : Tg} {is : List Nat} (he : ED X W e f) (hg : GD X tg is g) (hs : swapsWithSole [tg] e pos.line X.env = pure false := by rfl) (hw : swappedStores [tg] e X.env = pure none := by rfl) (h1 : (assignEach [tg] X.env).map (·.2) = [assign tg X.env] := by rfl) :
    StD X W (.Assign [tg] e pos) (sAsg g f) :=
  PS.imp (ps_asg he hg hs hw h1) fun D σ H ⟨α, S, ρ, R, re, q⟩ => ⟨α, S, ρ, R, re, After.imp (AfterS.split (rel := RV X.K) q re) (fun v H' ⟨α', S', a, e1, R1, r1, re1, q1⟩ => by
    cases eg : g a ρ with
    | none => rw [eg] at q1; exact False.elim q1
    | some ρ' => rw [eg] at q1; exact ⟨⟨α', S', H'⟩, a, ρ, ρ', rfl, R1, re1, r1, eg, fun H2 σ2 x2 R2 re2 _ => q1 α' H2 σ2 x2 R2 re2⟩) fun _ _ _ z => z⟩
/-- a, b = x, y -/
def sPar (i j : Nat) (g : Env' → M (List Val)) : SD := fun ρ S => (g ρ S).then_ ρ fun vs S' => match vs with
  | [v, u] => .nx ((ρ.set i (some v)).set j (some u)) S'
  | _ => .st
theorem sd_par {i j : Nat} {x y : Str} {a b : Expr} {g : Env' → M (List Val)} {px py pt : Pos} {kt k2 pt2} (hc : X.calm = true) (hN : X.N.Nodup) (ha : AD X W [a, b] g) (hw : swappedStores [.Tuple [.Name x px, .Name y py] kt pt] (.Tuple [a, b] k2 pt2) X.env = pure (some [x, y]))
    (hi : X.N[i]? = some x := by rfl) (hj : X.N[j]? = some y := by rfl) (hij : i ≠ j := by decide) (hx : X.env.scope.names.lookup x = some .local := by rfl) (hy : X.env.scope.names.lookup y = some .local := by rfl)
    (hs : swapsWithSole [.Tuple [.Name x px, .Name y py] kt pt] (.Tuple [a, b] k2 pt2) pos.line X.env = pure false := by rfl) : StD X W (.Assign [.Tuple [.Name x px, .Name y py] kt pt] (.Tuple [a, b] k2 pt2) pos) (sPar i j g) :=
  PS.imp (ps_par hc hN hi hj hij hx hy ha hw hs) fun D σ H ⟨α, S, ρ, R, re, q⟩ => ⟨α, S, ρ, R, re, After.imp (AfterS.split (rel := RVs X.K) q re) (fun v H' ⟨α', S', a, e1, R1, r1, re1, q1⟩ => by
    match a, r1, q1 with
    | [v1, v2], .cons p1 (.cons p2 .nil), q1 => exact ⟨_, _, rfl, q1 α' H' _ (Ext.refl _) R1 ((re1.set p1 i).set p2 j)⟩
    | [], _, q1 => exact False.elim q1
    | [_], _, q1 => exact False.elim q1
    | _ :: _ :: _ :: _, _, q1 => exact False.elim q1) fun _ _ _ z => z⟩
end
/-! ### a def's body -/
def okT (n : Nat) (v : Val) (S : List Cell) : Res Val := match v with
  | .d x => .ok (.d x) (S.take n)
  | .c l => .ok (.c l) S
def finish (n : Nat) : SRes → Res Val
  | .nx _ S => okT n (.d .none) S
  | .rt v S => okT n v S
  | .ex x _ S => .ex x (S.take n)
  | _ => .st
def bodyFn (np nl : Nat) (b : SD) : Fn := fun as S => if as.length = np then finish S.length (b (as.map some ++ List.replicate (nl - as.length) none) S) else .st
theorem bodyFn_arity (np nl : Nat) (b : SD) : Arity np (bodyFn np nl b) := fun as S h => by
  unfold bodyFn
  rw [if_neg h]
section
variable {K : PySem.W.Frag} {mg : Str → Option Value} {w w' : Wd}
theorem muts_take {α : List Addr} {S : List Cell} {H H' : Hp} {n : Nat} {b : Addr} (h : b ∈ Wd.muts ⟨α.take n, S.take n, H⟩) : b ∈ Wd.muts ⟨α, S, H'⟩ := by
  unfold Wd.muts at h ⊢
  obtain ⟨p, hp, e⟩ := List.mem_map.mp h
  obtain ⟨h1, h2⟩ := List.mem_filter.mp hp
  refine List.mem_map.mpr ⟨p, List.mem_filter.mpr ⟨?_, h2⟩, e⟩
  have z : (α.take n).zip (S.take n) = (α.zip S).take n := by
    rw [List.zip_eq_zipWith, List.zip_eq_zipWith, List.take_zipWith]
  have h1' : p ∈ (α.take n).zip (S.take n) := h1
  rw [z] at h1'
  exact List.mem_of_mem_take h1'
/-- the cells from the n-th on are forgotten -/
theorem Rep.cut (R : Rep K mg w) (n : Nat) : Rep K mg ⟨w.α.take n, w.S.take n, w.H⟩ ∧ Same w.F (Wd.F ⟨w.α.take n, w.S.take n, w.H⟩) := by
  have e : Same w.F (Wd.F ⟨w.α.take n, w.S.take n, w.H⟩) := fun b u h => by
    unfold Wd.F at h ⊢
    split at h
    · cases h
    · rename_i hb
      rw [if_neg fun z => hb (muts_take z)]
      exact h
  refine ⟨⟨by simp [R.len], R.nd.sublist (List.take_sublist _ _), fun a ha => R.al a (List.mem_of_mem_take ha), fun l a c h1 h2 => ?_⟩, e⟩
  have h1' : w.α[l]? = some a := by
    have z : (w.α.take n)[l]? = some a := h1
    rw [List.getElem?_take] at z
    split at z
    · exact z
    · cases z
  have h2' : w.S[l]? = some c := by
    have z : (w.S.take n)[l]? = some c := h2
    rw [List.getElem?_take] at z
    split at z
    · exact z
    · cases z
  exact (R.at_ l a c h1' h2').mono e fun _ => rfl
theorem Ext.cut (R : Rep K mg w) (R' : Rep K mg w') (e : Ext w w') : Ext w ⟨w'.α.take w.S.length, w'.S.take w.S.length, w'.H⟩ := by
  obtain ⟨t, ht⟩ := e.pre
  refine ⟨?_, e.same.trans (R'.cut w.S.length).2⟩
  have z : w'.α.take w.S.length = w.α := by
    rw [← ht, ← R.len, List.take_left']
    rfl
  show w.α <+: w'.α.take w.S.length
  rw [z]
  exact List.prefix_refl _
end
theorem re_start {K : PySem.W.Frag} {w : Wd} {N : List Str} {vs : List V} {as : List Val} (h : RVs K w vs as) : RE K w (L2.start N vs) (as.map some ++ List.replicate (N.length - as.length) none) := by
  have hl := h.length
  refine ⟨by unfold L2.start; simp [hl], fun i x q => ?_⟩
  unfold L2.start
  by_cases hi : i < as.length
  · rw [List.getElem?_append_left (by simpa using hi), List.getElem?_map] at q
    cases ea : as[i]? with
    | none => rw [ea] at q; cases q
    | some y =>
      rw [ea] at q
      cases q
      obtain ⟨v, e1, e2⟩ := paired_get h ea
      refine ⟨v, ?_, e2⟩
      rw [List.getElem?_append_left (by simp [hl]; exact hi), List.getElem?_map, e1]
      rfl
  · rw [List.getElem?_append_right (by simpa using hi), List.getElem?_replicate] at q
    split at q <;> cases q
where
  paired_get {K : PySem.W.Frag} {w : Wd} : ∀ {vs : List V} {as : List Val} {i : Nat} {y : Val}, Paired (RV K w) vs as → as[i]? = some y → ∃ v, vs[i]? = some v ∧ RV K w v y
    | _, _, _, _, .nil, h => by simp at h
    | _, _, 0, _, .cons r _, h => by simp at h; subst h; exact ⟨_, rfl, r⟩
    | _, _, i + 1, _, .cons _ t, h => by
      obtain ⟨v, e, r⟩ := paired_get (i := i) t (by simpa using h)
      exact ⟨v, by simpa using e, r⟩
section
variable {P : Program} {w : World} {K : PySem.W.Frag} {mg : Str → Option Value} {base : Heap}
/-- a def by its body -/
theorem fn_body {x qual : Str} {st : Stmt} {f : Addr} {fd : FuncData} {N ps : List Str} {k : Nat} {b : SD} (F : Fun K x qual st f fd) (S : FnScope N ps (defScope st))
    (hb : ∀ (cdv : Value) (A : Around) (outer : List Env) (s : Shared) (H : Hp) (E : XK),
      CxOk (cxOf (L2.CX P w) P w K mg base N qual (defScope st) f cdv A outer s H E) k → Takes (cxOf (L2.CX P w) P w K mg base N qual (defScope st) f cdv A outer s H E) (fun c d _ H => E c d H) →
      PassesOwn (model P w) (A.deeper (envOfC qual (defScope st) s.heap.objs.size f cdv)) (envOfC qual (defScope st) s.heap.objs.size f cdv) (cxOf (L2.CX P w) P w K mg base N qual (defScope st) f cdv A outer s H E).xe →
      PSs (cxOf (L2.CX P w) P w K mg base N qual (defScope st) f cdv A outer s H E) (defBody st) (tS K mg (fun c d _ H => E c d H) b)) :
    FnG P w K mg base (k + 1) f fd ps (bodyFn ps.length N.length b) := by
  obtain ⟨oc, od, kV, doc, pm, an, cdv, ct, osl, rfl, lk, hcd⟩ := F.ex
  refine ⟨fun A outer s H args us vs Q E hG hr e0 hbi r hl hq => ?_⟩
  have KX : K.In s.heap := e0.mod.kin.keeps fun b o e => (e0.bs b o e).1
  have lim : s.heap.NoLimit := e0.mod.nolimit.keeps fun b o e => (e0.bs b o e).1
  have hk' : ∀ y ∈ ps.zip us, (defScope st).names.lookup y.1 = some .local ∨ ((defScope st).names.lookup y.1 = some .cell ∧ ((cellsFrom (s.heap.objs.size + 1) (defScope st).names []).lookup y.1).isSome = true) := fun ⟨n, v⟩ hy =>
    (S.par n (List.of_mem_zip hy).1).imp id fun q => ⟨q, PySem.W.cellsFrom_some _ _ _ (.inl q)⟩
  refine codeAny_call_function hr.depth (KX _ _ lk) rfl S.co S.gen rfl (PySem.W.codeRec_of KX hcd) (hbi _ _ _ _ ?_)
  refine wpAny_newFunctionEnv_cells S.kind hk' fun env he s1 xx => ?_
  subst he
  refine ⟨lim.keeps xx.toInCall.keep, codeAny_func ?_⟩
  have I := inv_start (CX := L2.CX P w) (P := P) (w := w) (K := K) (mg := mg) (base := base) (qual := qual) (f := f) (cd := cdv) (E := E) S hr.hd e0 hl r xx
  have C : CxOk (cxOf (L2.CX P w) P w K mg base N qual (defScope st) f cdv A outer s H E) k := ⟨rfl, hr.deeper _, hG, S.nd⟩
  obtain ⟨α, S0, as, R, rs, q⟩ := hq
  have hla : as.length = ps.length := by rw [← rs.length]; exact hl
  unfold bodyFn at q
  rw [if_pos hla] at q
  have hrun := (hb cdv A outer s H E C (takes_of rfl rfl rfl rfl) (passes_of rfl)).run [] s1 (L2.start N vs) H { nx := fun _ H' => Q .non H', rt := Q } I ⟨α, S0, _, R, re_start rs, ?_⟩
  · refine wpAny_mono hrun (fun fl s' hs => ?_) fun e s' hs => hs
    have fin : ∀ {σ' : L2.St} {H' : Hp} {v : V} {u : Value}, Inv (cxOf (L2.CX P w) P w K mg base N qual (defScope st) f cdv A outer s H E) [] σ' H' s' → RelV v u → Q v H' → CE outer P w H s Q u s' :=
      fun {σ' H' v u} J rv qq => ⟨v, H', J.os, J.bare, J.base, J.hok, rv, qq⟩
    cases fl with
    | ret u =>
      obtain ⟨v, σ', H', J, rv, qq⟩ := hs
      exact fin J rv qq
    | next =>
      obtain ⟨σ', H', J, qq⟩ := hs
      exact fin (v := V.non) (u := Value.none) J rfl qq
    | brk =>
      obtain ⟨_, _, _, qq⟩ := hs
      exact False.elim qq
    | cont =>
      obtain ⟨_, _, _, qq⟩ := hs
      exact False.elim qq
  · -- what the body's end gives the caller
    cases er : b (as.map some ++ List.replicate (N.length - as.length) none) S0 with
    | st => rw [er] at q; exact q
    | bk ρ S1 => rw [er] at q; exact False.elim q
    | ct ρ S1 => rw [er] at q; exact False.elim q
    | nx ρ S1 =>
      rw [er] at q
      exact fun α' H' σ' e1 R1 re1 => q _ H' .non (Ext.cut R R1 e1) (R1.cut _).1 .non
    | rt v S1 =>
      rw [er] at q
      cases v with
      | d x => exact fun α' H' u e1 R1 ru => q _ H' u (Ext.cut R R1 e1) (R1.cut _).1 (Dv.mono (R1.cut S0.length).2 ru)
      | c l => exact fun α' H' u e1 R1 ru => q α' H' u e1 R1 ru
    | ex x ρ S1 =>
      rw [er] at q
      exact fun α' H' σ' c d e1 R1 re1 rx => q _ H' c d (Ext.cut R R1 e1) (R1.cut _).1 (let ⟨C, h1, h2, h3⟩ := rx; ⟨C, h1, h2, h3.mono (R1.cut S0.length).2⟩)
end
end Zz
set_option maxRecDepth 100000
set_option maxHeartbeats 4000000
namespace Zz
open PySem PySem.Spec PyProof.Rows L2
section
variable {X : Cx} {n : Nat} {W : WX} {pos : Pos} {e a b c : Expr} {es : List Expr} {f g h : Env' → M Val}
/-! ### names and constants -/
def dVar (i : Nat) : Env' → M Val := fun ρ S => match ρ[i]? with
  | some (some x) => .ok x S
  | _ => .st
theorem ed_var (i : Nat) {x : Str} (hN : X.N[i]? = some x := by rfl) (hv : Vis X.env.scope x := by first | exact Or.inl rfl | exact Or.inr (Or.inl rfl) | exact Or.inr (Or.inr rfl)) (hd : (x == ("__debug__" : Str)) = false := by decide)
    (hcd : (x == ("__classdict__" : Str)) = false := by decide) : ED X W (.Name x pos) (dVar i) :=
  PE.imp (pe_var hN hv hd hcd) fun σ H Q ⟨α, S, ρ, R, re, q⟩ => by
    unfold dVar at q
    cases er : ρ[i]? with
    | none => rw [er] at q; exact False.elim q
    | some o =>
      cases o with
      | none => rw [er] at q; exact False.elim q
      | some x =>
        rw [er] at q
        obtain ⟨v, e1, r⟩ := re.at_ i x er
        exact ⟨v, e1, q α H v (Ext.refl _) R r⟩
def dC (d : D) : Env' → M Val := fun _ S => .ok (.d d) S
theorem edC {v : V} {d : D} (h : PE X e (tC v)) (r : ∀ K F, Dv K F v d) : ED X W e (dC d) := PE.imp h fun σ H Q ⟨α, S, ρ, R, re, q⟩ => q α H v (Ext.refl _) R (r _ _)
theorem ed_int {i j} : ED X W (.Constant (.int i) j pos) (dC (.int i)) := edC pe_int fun _ _ => .int _
theorem ed_str {i j} : ED X W (.Constant (.str i) j pos) (dC (.str i)) := edC pe_str fun _ _ => .str _
theorem ed_bl {i j} : ED X W (.Constant (.bool i) j pos) (dC (.bool i)) := edC pe_bl fun _ _ => .bl _
theorem ed_non {j} : ED X W (.Constant .none j pos) (dC .none) := edC pe_non fun _ _ => .non
/-- a module's constant that is data of its own -/
theorem ed_glob {x : Str} {v : V} {u : Value} {d : D} (hm : X.mg x = some u) (r : RelV v u) (rd : ∀ F, Dv X.K F v d) (hg : Gl X x := by rfl) (hd : (x == ("__debug__" : Str)) = false := by decide) : ED X W (.Name x pos) (dC d) :=
  PE.imp (pe_glob hg hm r hd) fun σ H Q ⟨α, S, ρ, R, re, q⟩ => q α H v (Ext.refl _) R (rd _)
/-! ### operators -/
/-- both values at this moment -/
def on2 (o : O2) : Val → Val → M Val := fun x y S => match rd S x, rd S y with
  | some a, some b => (match o a b with | some c => .ok (.d c) S | none => .st)
  | _, _ => .st
def dBin (o : O2) (f g : Env' → M Val) : Env' → M Val := fun ρ => (f ρ).bind fun x => (g ρ).bind fun y => on2 o x y
theorem on2_ok {K : PySem.W.Frag} {mg : Str → Option Value} {o : O2} {w : Wd} {x y : Val} {v u : V} {Q : VK} {E : XK} (R : Rep K mg w) (r1 : RV K w v x) (r2 : RV K w u y) (q : After K mg (RV K) w (on2 o x y w.S) Q E) : r2D K mg o v u w.H Q := by
  unfold on2 at q
  cases e1 : rd w.S x with
  | none => rw [e1] at q; exact False.elim q
  | some da =>
    cases e2 : rd w.S y with
    | none => rw [e1, e2] at q; exact False.elim q
    | some db =>
      rw [e1, e2] at q
      dsimp only at q
      cases e3 : o da db with
      | none => rw [e3] at q; exact False.elim q
      | some c =>
        rw [e3] at q
        exact ⟨w, x, y, da, db, c, rfl, R, r1, r2, e1, e2, e3, fun H' v' x1 R1 d1 => q w.α H' v' x1 R1 d1⟩
theorem binQ {o : O2} {σ : L2.St} {H : Hp} {Q : VK} (q : tD X.K X.mg W (dBin o f g) σ H Q) : tOp (r2D X.K X.mg o) (tD X.K X.mg W f) (tD X.K X.mg W g) σ H Q := by
  obtain ⟨α, S, ρ, R, re, q⟩ := q
  refine ⟨α, S, ρ, R, re, After.imp (After.split (rel := RV X.K) q) (fun v H1 ⟨α1, S1, x, e1, R1, r1, q1⟩ => ?_) fun _ _ _ z => z⟩
  refine ⟨α1, S1, ρ, R1, re.mono e1, After.imp (After.split (rel := RV X.K) q1) (fun u H2 ⟨α2, S2, y, e2, R2, r2, q2⟩ => ?_) fun _ _ _ z => z⟩
  exact on2_ok (w := ⟨α2, S2, H2⟩) R2 (r1.mono e2) r2 q2
theorem ed_op {op : Operator} {o : O2} (ho : OpR X (binaryOp op) (r2D X.K X.mg o)) (ha : ED X W a f) (hb : ED X W b g) : ED X W (.BinOp a op b pos) (dBin o f g) := PE.imp (pe_op ho ha hb) fun _ _ _ q => binQ q
theorem ed_cmp {op : CmpOp} {o : O2} (ho : OpR X (compareOp op) (r2D X.K X.mg o)) (ha : ED X W a f) (hb : ED X W b g) (hm : behindInMarks op b = false := by first | exact nomark _ | rfl) : ED X W (.Compare a [op] [b] pos) (dBin o f g) :=
  PE.imp (pe_cmpR ho ha hb hm) fun _ _ _ q => binQ q
/-! ### tests -/
/-- a value that has to be a bool -/
def toBr : Res Val → Res Bool
  | .ok (.d (.bool b)) S' => .ok b S'
  | .ex x S' => .ex x S'
  | _ => .st
def toB (f : Env' → M Val) : Env' → M Bool := fun ρ S => toBr (f ρ S)
theorem toBr_ok {K : PySem.W.Frag} {mg : Str → Option Value} {w : Wd} {r : Res Val} {Q : Bool → Hp → Prop} {E : XK} (q : After K mg (fun _ b a => b = a) w (toBr r) Q E) : After K mg (RV K) w r (fun x H1 => ∃ c, x = .bl c ∧ Q c H1) E := by
  cases r with
  | st => exact q
  | ex x S' => exact q
  | ok v S' =>
    match v, q with
    | .d (.bool b), q =>
      intro α' H' u x1 R1 r1
      cases r1
      exact ⟨b, rfl, q α' H' b x1 R1 rfl⟩
    | .c _, q => exact False.elim q
    | .d .none, q => exact False.elim q
    | .d (.int _), q => exact False.elim q
    | .d (.str _), q => exact False.elim q
    | .d (.list _), q => exact False.elim q
    | .d (.tuple _), q => exact False.elim q
    | .d (.dict _), q => exact False.elim q
theorem toBQ {σ : L2.St} {H : Hp} {Q : Bool → Hp → Prop} (q : tDt X.K X.mg W (toB f) σ H Q) : tD X.K X.mg W f σ H (fun x H1 => ∃ c, x = .bl c ∧ Q c H1) := by
  obtain ⟨α, S, ρ, R, re, q⟩ := q
  exact ⟨α, S, ρ, R, re, toBr_ok q⟩
theorem td_cmp {op : CmpOp} {o : O2} (ho : OpR X (compareOp op) (r2D X.K X.mg o)) (ha : ED X W a f) (hb : ED X W b g) (hm : behindInMarks op b = false := by first | exact nomark _ | rfl) : TDt X W (.Compare a [op] [b] pos) (toB (dBin o f g)) :=
  PT.imp (pt_cmpR ho ha hb hm) fun σ H Q q => by
    obtain ⟨α, S, ρ, R, re, q⟩ := toBQ q
    exact binQ ⟨α, S, ρ, R, re, q⟩
/-- a value whose test is its truth -/
theorem td_val (he : ED X W e f) (hi : ∀ whole, isTrue e X.env whole = (do let v ← whole; standAt e.pos; holding [v] (truthy v)) := by intro _; rfl) : TDt X W e (toB f) := PT.imp (pt_val he hi) fun σ H Q q => toBQ q
/-- truth -/
def truD : D → Option Bool
  | .none => some false
  | .bool b => some b
  | .int i => some (i != 0)
  | .str x => if x.length ≤ 16777216 then some ((x.length : Int) != 0) else none
  | .list xs => some (!xs.isEmpty)
  | .tuple xs => some (!xs.isEmpty)
  | .dict xs => some (!xs.isEmpty)
def toT (f : Env' → M Val) : Env' → M Bool := fun ρ => (f ρ).bind fun x S => match rd S x with
  | some d => (match truD d with | some b => .ok b S | none => .st)
  | none => .st
theorem td_truth (he : ED X W e f) (hi : ∀ whole, isTrue e X.env whole = (do let v ← whole; standAt e.pos; holding [v] (truthy v)) := by intro _; rfl) : TDt X W e (toT f) :=
  PT.imp (pt_truth he hi) fun σ H Q ⟨α, S, ρ, R, re, q⟩ => by
    refine ⟨α, S, ρ, R, re, After.imp (After.split (rel := RV X.K) q) (fun v H1 ⟨α1, S1, x, e1, R1, r1, q1⟩ => ?_) fun _ _ _ z => z⟩
    cases er : rd S1 x with
    | none => rw [er] at q1; exact False.elim q1
    | some d =>
      rw [er] at q1
      dsimp only at q1
      cases et : truD d with
      | none => rw [et] at q1; exact False.elim q1
      | some k =>
        rw [et] at q1
        refine ⟨k, ?_, q1 α1 H1 k (Ext.refl _) R1 rfl⟩
        have dv := R1.any r1 er
        cases dv with
        | non => cases et; rfl
        | bl _ => cases et; rfl
        | int _ => cases et; rfl
        | str y =>
          simp only [truD] at et
          split at et
          · rename_i hz
            cases et
            exact ⟨by rw [sizeLine_eq]; exact hz, rfl⟩
          · cases et
        | lst h1 h2 => cases et; exact .inl ⟨_, h1, by cases h2 <;> rfl⟩
        | tup h1 h2 => cases et; exact .inr (.inl ⟨_, h1, by cases h2 <;> rfl⟩)
        | dct h1 h2 => cases et; exact .inr (.inr ⟨_, h1, by cases h2 <;> rfl⟩)
def tNotD (t : Env' → M Bool) : Env' → M Bool := fun ρ => (t ρ).bind fun b => M.ret (!b)
theorem td_not {t : Env' → M Bool} (ha : TDt X W a t) : TDt X W (.UnaryOp .Not a pos) (tNotD t) :=
  PT.imp (pt_not ha) fun σ H Q ⟨α, S, ρ, R, re, q⟩ => ⟨α, S, ρ, R, re, After.imp (After.split (rel := fun _ b a => b = a) q) (fun v H1 ⟨α1, S1, x, e1, R1, r1, q1⟩ => by subst r1; exact q1 α1 H1 _ (Ext.refl _) R1 rfl) fun _ _ _ z => z⟩
def tAndD (t u : Env' → M Bool) : Env' → M Bool := fun ρ => (t ρ).bind fun b => if b = true then u ρ else M.ret false
def tOrD (t u : Env' → M Bool) : Env' → M Bool := fun ρ => (t ρ).bind fun b => if b = true then M.ret true else u ρ
theorem wd_and1 {t : Env' → M Bool} (ha : TDt X W a t) : WDt X W (.BoolOp .And [a] pos) t := pw_and1 ha
theorem wd_or1 {t : Env' → M Bool} (ha : TDt X W a t) : WDt X W (.BoolOp .Or [a] pos) t := pw_or1 ha
theorem wd_and {t u : Env' → M Bool} (ha : TDt X W a t) (hb : WDt X W (.BoolOp .And (b :: es) pos) u) : WDt X W (.BoolOp .And (a :: b :: es) pos) (tAndD t u) :=
  PW.imp (pw_and ha hb) fun σ H Q ⟨α, S, ρ, R, re, q⟩ => ⟨α, S, ρ, R, re, After.imp (After.split (rel := fun _ b a => b = a) q) (fun v H1 ⟨α1, S1, x, e1, R1, r1, q1⟩ => by
    subst r1
    cases v with
    | true => exact ⟨α1, S1, ρ, R1, re.mono e1, q1⟩
    | false => exact q1 α1 H1 _ (Ext.refl _) R1 rfl) fun _ _ _ z => z⟩
theorem wd_or {t u : Env' → M Bool} (ha : TDt X W a t) (hb : WDt X W (.BoolOp .Or (b :: es) pos) u) : WDt X W (.BoolOp .Or (a :: b :: es) pos) (tOrD t u) :=
  PW.imp (pw_or ha hb) fun σ H Q ⟨α, S, ρ, R, re, q⟩ => ⟨α, S, ρ, R, re, After.imp (After.split (rel := fun _ b a => b = a) q) (fun v H1 ⟨α1, S1, x, e1, R1, r1, q1⟩ => by
    subst r1
    cases v with
    | false => exact ⟨α1, S1, ρ, R1, re.mono e1, q1⟩
    | true => exact q1 α1 H1 _ (Ext.refl _) R1 rfl) fun _ _ _ z => z⟩
theorem td_w {t : Env' → M Bool} (ha : WDt X W a t) : TDt X W a t := ha.pt
/-! ### not, and, or of bools as values -/
def dNot (f : Env' → M Val) : Env' → M Val := fun ρ => (toB f ρ).bind fun b => M.ret (.d (.bool (!b)))
def dAnd (f g : Env' → M Val) : Env' → M Val := fun ρ => (toB f ρ).bind fun b => if b = true then g ρ else M.ret (.d (.bool false))
def dOr (f g : Env' → M Val) : Env' → M Val := fun ρ => (toB f ρ).bind fun b => if b = true then M.ret (.d (.bool true)) else g ρ
theorem bQ {k : Bool → M Val} {ρ : Env'} {α : List Addr} {S : List Cell} {σ : L2.St} {H : Hp} {Q : VK} (R : Rep X.K X.mg ⟨α, S, H⟩) (re : RE X.K ⟨α, S, H⟩ σ ρ) (q : After X.K X.mg (RV X.K) ⟨α, S, H⟩ ((toB f ρ S).bind k) Q (fun c d H' => W c d σ H')) :
    tD X.K X.mg W f σ H fun x H1 => ∃ c, x = .bl c ∧ ∃ α' S', Rep X.K X.mg ⟨α', S', H1⟩ ∧ RE X.K ⟨α', S', H1⟩ σ ρ ∧ After X.K X.mg (RV X.K) ⟨α', S', H1⟩ (k c S') Q (fun c d H' => W c d σ H') :=
  ⟨α, S, ρ, R, re, toBr_ok (After.imp (After.split (rel := fun _ b a => b = a) q) (fun v H1 ⟨α1, S1, x, e1, R1, r1, q1⟩ => by subst r1; exact ⟨α1, S1, R1, re.mono e1, q1⟩) fun _ _ _ z => z)⟩
theorem ed_not (ha : ED X W a f) : ED X W (.UnaryOp .Not a pos) (dNot f) :=
  PE.imp (pe_not ha) fun σ H Q ⟨α, S, ρ, R, re, q⟩ => by
    obtain ⟨α0, S0, ρ0, R0, re0, q0⟩ := bQ (f := f) R re q
    exact ⟨α0, S0, ρ0, R0, re0, After.imp q0 (fun x H1 ⟨c, ex, α1, S1, R1, re1, q1⟩ => ⟨c, ex, q1 α1 H1 _ (Ext.refl _) R1 (.bl _)⟩) fun _ _ _ z => z⟩
theorem ed_one {op} (h : ED X W a f) : ED X W (.BoolOp op [a] pos) f := pe_one h
theorem ed_and (ha : ED X W a f) (hb : ED X W (.BoolOp .And (b :: es) pos) g) : ED X W (.BoolOp .And (a :: b :: es) pos) (dAnd f g) :=
  PE.imp (pe_and ha hb) fun σ H Q ⟨α, S, ρ, R, re, q⟩ => by
    obtain ⟨α0, S0, ρ0, R0, re0, q0⟩ := bQ (f := f) R re q
    refine ⟨α0, S0, ρ0, R0, re0, After.imp q0 (fun x H1 ⟨c, ex, α1, S1, R1, re1, q1⟩ => ⟨c, ex, ?_⟩) fun _ _ _ z => z⟩
    cases c with
    | true => exact ⟨α1, S1, ρ, R1, re1, q1⟩
    | false => exact q1 α1 H1 _ (Ext.refl _) R1 (.bl _)
theorem ed_or (ha : ED X W a f) (hb : ED X W (.BoolOp .Or (b :: es) pos) g) : ED X W (.BoolOp .Or (a :: b :: es) pos) (dOr f g) :=
  PE.imp (pe_or ha hb) fun σ H Q ⟨α, S, ρ, R, re, q⟩ => by
    obtain ⟨α0, S0, ρ0, R0, re0, q0⟩ := bQ (f := f) R re q
    refine ⟨α0, S0, ρ0, R0, re0, After.imp q0 (fun x H1 ⟨c, ex, α1, S1, R1, re1, q1⟩ => ⟨c, ex, ?_⟩) fun _ _ _ z => z⟩
    cases c with
    | false => exact ⟨α1, S1, ρ, R1, re1, q1⟩
    | true => exact q1 α1 H1 _ (Ext.refl _) R1 (.bl _)
/-- a if t else b -/
def dIf (t : Env' → M Bool) (f g : Env' → M Val) : Env' → M Val := fun ρ => (t ρ).bind fun b => if b = true then f ρ else g ρ
theorem ed_if {t : Env' → M Bool} (hc : TDt X W c t) (ha : ED X W a f) (hb : ED X W b g) : ED X W (.IfExp c a b pos) (dIf t f g) :=
  PE.imp (pe_ifExp hc ha hb) fun σ H Q ⟨α, S, ρ, R, re, q⟩ => ⟨α, S, ρ, R, re, After.imp (After.split (rel := fun _ b a => b = a) q) (fun v H1 ⟨α1, S1, x, e1, R1, r1, q1⟩ => by
    subst r1
    cases v with
    | true => exact ⟨α1, S1, ρ, R1, re.mono e1, q1⟩
    | false => exact ⟨α1, S1, ρ, R1, re.mono e1, q1⟩) fun _ _ _ z => z⟩
/-- a < b < c: b's value once -/
def dChain (o o' : O2) (f g h : Env' → M Val) : Env' → M Val := fun ρ => (f ρ).bind fun x => (g ρ).bind fun y => fun S => (toBr (on2 o x y S)).bind (fun b => if b = true then (h ρ).bind fun z => on2 o' y z else M.ret (.d (.bool false)))
theorem chainQ {o o' : O2} {σ : L2.St} {H : Hp} {Q : VK} (q : tD X.K X.mg W (dChain o o' f g h) σ H Q) : tChain (r2D X.K X.mg o) (r2D X.K X.mg o') (tD X.K X.mg W f) (tD X.K X.mg W g) (tD X.K X.mg W h) σ H Q := by
  obtain ⟨α, S, ρ, R, re, q⟩ := q
  refine ⟨α, S, ρ, R, re, After.imp (After.split (rel := RV X.K) q) (fun v H1 ⟨α1, S1, x, e1, R1, r1, q1⟩ => ?_) fun _ _ _ z => z⟩
  refine ⟨α1, S1, ρ, R1, re.mono e1, After.imp (After.split (rel := RV X.K) q1) (fun u H2 ⟨α2, S2, y, e2, R2, r2, q2⟩ => ?_) fun _ _ _ z => z⟩
  have q3 := toBr_ok (After.split (rel := fun _ b a => b = a) q2)
  obtain ⟨w, xa, ya, da, db, dc, ew, Rw, rx, ry, ea, eb, ec, ans⟩ := on2_ok (w := ⟨α2, S2, H2⟩) (E := fun c d H' => W c d σ H') R2 (r1.mono e2) r2 q3
  refine ⟨w, xa, ya, da, db, dc, ew, Rw, rx, ry, ea, eb, ec, fun H3 v3 x3 R3 d3 => ?_⟩
  obtain ⟨k, ev, α4, S4, b4, x4, R4, eb4, q4⟩ := ans H3 v3 x3 R3 d3
  subst eb4
  refine ⟨k, ev, ?_⟩
  cases k with
  | true =>
    refine ⟨α4, S4, ρ, R4, (re.mono (e1.trans (e2.trans x4))), After.imp (After.split (rel := RV X.K) q4) (fun z H5 ⟨α5, S5, zz, e5, R5, r5, q5⟩ => ?_) fun _ _ _ z => z⟩
    exact on2_ok (w := ⟨α5, S5, H5⟩) R5 ((r2.mono x4).mono e5) r5 q5
  | false => exact q4 α4 H3 _ (Ext.refl _) R4 (.bl _)
end
end Zz
set_option maxRecDepth 100000
set_option maxHeartbeats 4000000
namespace Zz
open PySem PySem.Spec PyProof.Rows L2
section
variable {X : Cx} {n : Nat} {W : WX} {pos p2 : Pos} {e a b c : Expr} {es : List Expr} {f g h : Env' → M Val} {o o' : O2}
theorem ed_chain {op op' : CmpOp} (ho : OpR X (compareOp op) (r2D X.K X.mg o)) (ho' : OpR X (compareOp op') (r2D X.K X.mg o')) (ha : ED X W a f) (hb : ED X W b g) (hc : ED X W c h)
    (hm : lastMarks [op, op'] [b, c] = false := by with_unfolding_all rfl) : ED X W (.Compare a [op, op'] [b, c] pos) (dChain o o' f g h) := PE.imp (pe_chain ho ho' ha hb hc hm) fun _ _ _ q => chainQ (o := o) (o' := o') q
theorem td_chain {op op' : CmpOp} (ho : OpR X (compareOp op) (r2D X.K X.mg o)) (ho' : OpR X (compareOp op') (r2D X.K X.mg o')) (ha : ED X W a f) (hb : ED X W b g) (hc : ED X W c h)
    (hm : lastMarks [op, op'] [b, c] = false := by with_unfolding_all rfl) : TDt X W (.Compare a [op, op'] [b, c] pos) (toB (dChain o o' f g h)) := PT.imp (pt_chain ho ho' ha hb hc hm) fun _ _ _ q => chainQ (o := o) (o' := o') (toBQ q)
/-! ### displays -/
def frzs : List Val → M (List D)
  | [] => M.ret []
  | v :: r => (frz v).bind fun d => (frzs r).bind fun ds => M.ret (d :: ds)
theorem Res.bind_assoc {A B C : Type} (r : Res A) (k : A → M B) (l : B → M C) : (r.bind k).bind l = r.bind fun a S => (k a S).bind l := by cases r <;> rfl
theorem frzs_ok {K : PySem.W.Frag} {mg : Str → Option Value} {A' B' : Type} {rel : Wd → B' → A' → Prop} {Q : B' → Hp → Prop} {E : XK} : ∀ {vs : List V} {xs : List Val} {w : Wd} {k : List D → M A'}, Rep K mg w → RVs K w vs xs → After K mg rel w ((frzs xs w.S).bind k) Q E →
    ∃ S' ds, Ext w ⟨w.α, S', w.H⟩ ∧ Rep K mg ⟨w.α, S', w.H⟩ ∧ DvAll K (Wd.F ⟨w.α, S', w.H⟩) vs ds ∧ After K mg rel ⟨w.α, S', w.H⟩ (k ds S') Q E
  | _, _, w, k, R, .nil, q => ⟨w.S, [], Ext.refl _, R, .nil, q⟩
  | _, _, w, k, R, .cons (a := v) (b := x) (l₁ := vs) (l₂ := xs) r t, q => by
    have q' : After K mg rel w ((frz x w.S).bind fun d S => ((frzs xs S).bind fun ds => M.ret (d :: ds)).bind k) Q E := by
      rw [← Res.bind_assoc]
      exact q
    obtain ⟨S1, d, e1, R1, r1, q1⟩ := frz_ok R r q'
    rw [Res.bind_assoc] at q1
    obtain ⟨S2, ds, e2, R2, r2, q2⟩ := frzs_ok (w := ⟨w.α, S1, w.H⟩) R1 (RVs.mono e1 t) q1
    exact ⟨S2, d :: ds, e1.trans e2, R2, .cons (r1.mono e2.same) r2, q2⟩
def dTup (g : Env' → M (List Val)) : Env' → M Val := fun ρ => (g ρ).bind fun xs => (frzs xs).bind fun ds => if ds.length ≤ 16777216 then M.ret (.d (.tuple ds)) else M.st
def dLst (g : Env' → M (List Val)) : Env' → M Val := fun ρ => (g ρ).bind fun xs => (frzs xs).bind fun ds => if ds.length ≤ 16777216 then M.ret (.d (.list ds)) else M.st
theorem ed_tup {g : Env' → M (List Val)} {x1} (h : AD X W es g) : ED X W (.Tuple es x1 pos) (dTup g) :=
  PE.imp (pe_tup h) fun σ H Q ⟨α, S, ρ, R, re, q⟩ => ⟨α, S, ρ, R, re, After.imp (After.split (rel := RVs X.K) q) (fun vs H1 ⟨α1, S1, xs, e1, R1, r1, q1⟩ => by
    obtain ⟨S2, ds, e2, R2, r2, q2⟩ := frzs_ok (w := ⟨α1, S1, H1⟩) R1 r1 q1
    split at q2
    · rename_i hz
      refine ⟨by rw [sizeLine_eq, r2.length]; exact hz, fun p hp => ?_⟩
      obtain ⟨r3, x3, f3⟩ := R2.new hp (.tup vs)
      exact q2 _ _ _ x3 r3 (.tup (SqT.of f3) (r2.mono x3.same))
    · exact False.elim q2) fun _ _ _ z => z⟩
theorem ed_lst {g : Env' → M (List Val)} (h : AD X W es g) : ED X W (.List es pos) (dLst g) :=
  PE.imp (pe_lst h) fun σ H Q ⟨α, S, ρ, R, re, q⟩ => ⟨α, S, ρ, R, re, After.imp (After.split (rel := RVs X.K) q) (fun vs H1 ⟨α1, S1, xs, e1, R1, r1, q1⟩ => by
    obtain ⟨S2, ds, e2, R2, r2, q2⟩ := frzs_ok (w := ⟨α1, S1, H1⟩) R1 r1 q1
    split at q2
    · rename_i hz
      refine ⟨by rw [sizeLine_eq, r2.length]; exact hz, fun p hp => ?_⟩
      obtain ⟨r3, x3, f3⟩ := R2.new hp (.lst vs)
      exact q2 _ _ _ x3 r3 (.lst (SqL.of f3) (r2.mono x3.same))
    · exact False.elim q2) fun _ _ _ z => z⟩
/-- a new cell with these items -/
def newCell (ds : List D) : M Val := fun S => .ok (.c S.length) (S ++ [.lst ds])
def dLstC (g : Env' → M (List Val)) : Env' → M Val := fun ρ => (g ρ).bind fun xs => (frzs xs).bind fun ds => if ds.length ≤ 16777216 then newCell ds else M.st
/-- the list at a new address is a cell -/
theorem cell_new {K : PySem.W.Frag} {mg : Str → Option Value} {w : Wd} {xs : List V} {ds : List D} {Q : VK} {E : XK} (R : Rep K mg w) (r : DvAll K w.F xs ds) (q : After K mg (RV K) w (newCell ds w.S) Q E) {p : Addr} (hp : w.H p = none) : Q (.ref p) (upd w.H p (.lst xs)) := by
  obtain ⟨r3, x3⟩ := R.cell hp (c := .lst ds) rfl ⟨xs, upd_same, r⟩
  exact q _ _ _ x3 r3 ⟨p, by rw [List.getElem?_append_right (by rw [R.len]; exact Nat.le_refl _), R.len, Nat.sub_self]; rfl, rfl⟩
theorem ed_lstC {g : Env' → M (List Val)} (h : AD X W es g) : ED X W (.List es pos) (dLstC g) :=
  PE.imp (pe_lst h) fun σ H Q ⟨α, S, ρ, R, re, q⟩ => ⟨α, S, ρ, R, re, After.imp (After.split (rel := RVs X.K) q) (fun vs H1 ⟨α1, S1, xs, e1, R1, r1, q1⟩ => by
    obtain ⟨S2, ds, e2, R2, r2, q2⟩ := frzs_ok (w := ⟨α1, S1, H1⟩) R1 r1 q1
    split at q2
    · rename_i hz
      exact ⟨by rw [sizeLine_eq, r2.length]; exact hz, fun p hp => cell_new (w := ⟨α1, S2, H1⟩) R2 r2 q2 hp⟩
    · exact False.elim q2) fun _ _ _ z => z⟩
/-! ### subscripts -/
def ixD (xs : List D) (i : Int) : Option D := atI xs i
def oIx : O2 := fun a b => match a, b with
  | .list xs, .int i => atI xs i
  | .tuple xs, .int i => atI xs i
  | .str z, .int i => if z.length ≤ 16777216 then (atI z.cps.toList i).map fun c => .str ⟨#[c]⟩ else none
  | .dict kds, k => (toKey k).bind (getD' kds)
  | _, _ => none
theorem atI_dv {K : PySem.W.Frag} {F : Hp} {vs : List V} {ds : List D} {i : Int} {d : D} (h : DvAll K F vs ds) (e : atI ds i = some d) : ∃ v, atI vs i = some v ∧ Dv K F v d := by
  unfold atI at e ⊢
  rw [h.length]
  cases ej : ixN ds.length i with
  | none => rw [ej] at e; cases e
  | some j =>
    rw [ej] at e
    exact h.get e
theorem ix_dict (hu : X.A.units + 1 < cLine) : IxR X (fun x y H Q => ∃ a v, x = .ref a ∧ DGet H a y (some v) ∧ Q v H) := by
  intro value slice pins s σ H x y v u Q I rx ry h hs
  obtain ⟨a, v, rfl, g, q⟩ := h
  cases rx
  exact tail_any (dict_typeIs I g) PySem.F.slot_dict_getitem.lookup (d_getItem hu I g ry fun w' s3 I3 rw' => ⟨v, H, I3, rw', q⟩) hs
theorem od_ix (hu : X.A.units + 1 < cLine) : IxR X (r2D X.K X.mg oIx) := by
  refine IxR.imp ((ix_seq (X := X)).or (ix_dict hu)) fun x y H Q h => ?_
  obtain ⟨w, a, b, da, db, c, rfl, R, ra, rb, ea, eb, ec, q⟩ := h
  unfold oIx at ec
  split at ec
  · obtain ⟨p, xs, rfl, h1, g1⟩ := R.list ra ea
    cases R.int rb eb
    obtain ⟨v, e1, dv⟩ := atI_dv g1 ec
    exact .inl (.inl ⟨p, xs, _, v, rfl, rfl, h1, e1, q.here R dv⟩)
  · obtain ⟨p, xs, rfl, h1, g1, _⟩ := R.tuple ra ea
    cases R.int rb eb
    obtain ⟨v, e1, dv⟩ := atI_dv g1 ec
    exact .inl (.inr (.inl ⟨p, xs, _, v, rfl, rfl, h1, e1, q.here R dv⟩))
  · split at ec
    · rename_i hz
      cases R.str ra ea
      cases R.int rb eb
      obtain ⟨k, e1, e2⟩ := Option.map_eq_some_iff.mp ec
      subst e2
      exact .inl (.inr (.inr ⟨_, _, k, rfl, rfl, by rw [sizeLine_eq]; exact hz, e1, q.here R (.str _)⟩))
    · cases ec
  · rename_i kds
    obtain ⟨k, e1, e2⟩ := Option.bind_eq_some_iff.mp ec
    obtain ⟨p, ks, rfl, g1, g2⟩ := R.dict ra ea
    have ex := dv_key (R.any rb eb) e1
    subst ex
    rcases g2.val k with ⟨v, d, z1, z2, dv⟩ | ⟨z1, z2⟩
    · rw [e2] at z2
      cases z2
      exact .inr ⟨p, v, rfl, by have z := DGet.k (k := k) g1; rw [z1] at z; exact z, q.here R dv⟩
    · rw [e2] at z2; cases z2
  · cases ec
theorem ed_ix (C : CxOk X n) (ha : ED X W a f) (hb : ED X W b g) (hs : PlainIx b := by exact fun _ _ => rfl) : ED X W (.Subscript a b pos) (dBin oIx f g) := PE.imp (pe_ix (od_ix C.u1) ha hb hs) fun _ _ _ q => binQ q
/-! ### slices -/
abbrev PtD := Env' → M (Option Int)
def tP (K : PySem.W.Frag) (mg : Str → Option Value) (W : WX) (f : PtD) : TO := fun σ H Q => ∃ α S ρ, Rep K mg ⟨α, S, H⟩ ∧ RE K ⟨α, S, H⟩ σ ρ ∧ After K mg (fun _ b a => b = a) ⟨α, S, H⟩ (f ρ S) Q (fun c d H' => W c d σ H')
abbrev PD (X : Cx) (W : WX) (e : Option Expr) (f : PtD) : Prop := PO X e (tP X.K X.mg W f)
theorem PO.imp {e : Option Expr} {t t' : TO} (h : PO X e t) (k : ∀ σ H Q, t' σ H Q → t σ H Q) : PO X e t' := ⟨fun pins s σ H Q I q => h.run pins s σ H Q I (k σ H Q q)⟩
def pNone : PtD := fun _ => M.ret none
def pSome (f : Env' → M Val) : PtD := fun ρ => (f ρ).bind fun x S => match rd S x with
  | some (.int i) => .ok (some i) S
  | _ => .st
theorem pd_none : PD X W none pNone := PO.imp po_none fun σ H Q ⟨α, S, ρ, R, re, q⟩ => q α H none (Ext.refl _) R rfl
theorem pd_some (he : ED X W e f) : PD X W (some e) (pSome f) := PO.imp (po_some he) fun σ H Q ⟨α, S, ρ, R, re, q⟩ => ⟨α, S, ρ, R, re, After.imp (After.split (rel := RV X.K) q) (fun v H1 ⟨α1, S1, x, e1, R1, r1, q1⟩ => by
  split at q1
  · rename_i i er
    exact ⟨i, R1.int r1 er, q1 α1 H1 _ (Ext.refl _) R1 rfl⟩
  · exact False.elim q1) fun _ _ _ z => z⟩
def cutD (xs : List D) (lo hi : Option Int) : List D := (xs.drop (HT.sIx xs.length 0 lo)).take (HT.sIx xs.length xs.length hi - HT.sIx xs.length 0 lo)
theorem cut_dv {K : PySem.W.Frag} {F : Hp} {vs : List V} {ds : List D} (h : DvAll K F vs ds) (lo hi : Option Int) : DvAll K F (cutV vs lo hi) (cutD ds lo hi) := by
  unfold cutV cutD
  rw [h.length]
  exact (h.drop _).take _
abbrev O3 := D → Option Int → Option Int → Option D
def oSl : O3 := fun a lo hi => match a with
  | .list xs => some (.list (cutD xs lo hi))
  | .tuple xs => some (.tuple (cutD xs lo hi))
  | .str z => if z.length ≤ 16777216 then some (.str (cutS z lo hi)) else none
  | _ => none
def dSl (f : Env' → M Val) (p p' : PtD) : Env' → M Val := fun ρ => (f ρ).bind fun x => (p ρ).bind fun lo => (p' ρ).bind fun hi => fun S => match rd S x with
  | some a => (match oSl a lo hi with | some c => .ok (.d c) S | none => .st)
  | none => .st
theorem ed_sl {lo hi : Option Expr} {p p' : PtD} (he : ED X W e f) (hl : PD X W lo p) (hh : PD X W hi p') : ED X W (.Subscript e (.Slice lo hi none p2) pos) (dSl f p p') := by
  refine PE.imp (pe_slice ((sl_list (X := X)).or (sl_tupA.or sl_str)) he hl hh) fun σ H Q ⟨α, S, ρ, R, re, q⟩ => ?_
  refine ⟨α, S, ρ, R, re, After.imp (After.split (rel := RV X.K) q) (fun v H1 ⟨α1, S1, x, e1, R1, r1, q1⟩ => ?_) fun _ _ _ z => z⟩
  refine ⟨α1, S1, ρ, R1, re.mono e1, After.imp (After.split (rel := fun _ b a => b = a) q1) (fun l H2 ⟨α2, S2, l', e2, R2, r2, q2⟩ => ?_) fun _ _ _ z => z⟩
  refine ⟨α2, S2, ρ, R2, re.mono (e1.trans e2), After.imp (After.split (rel := fun _ b a => b = a) q2) (fun u H3 ⟨α3, S3, u', e3, R3, r3, q3⟩ => ?_) fun _ _ _ z => z⟩
  subst r2 r3
  have rv := r1.mono (e2.trans e3)
  cases er : rd S3 x with
  | none => rw [er] at q3; exact False.elim q3
  | some d =>
    rw [er] at q3
    dsimp only at q3
    cases eo : oSl d l u with
    | none => rw [eo] at q3; exact False.elim q3
    | some c =>
      rw [eo] at q3
      have ans : Ans X.K X.mg ⟨α3, S3, H3⟩ c Q := fun H' v' x1 R1' d1 => q3 α3 H' v' x1 R1' d1
      unfold oSl at eo
      split at eo
      · cases eo
        obtain ⟨p, xs, rfl, h1, g1⟩ := R3.list rv er
        exact .inl ⟨p, xs, rfl, h1, fun q hq => ans.lst R3 (cut_dv g1 l u) hq⟩
      · cases eo
        rename_i ds
        obtain ⟨p, xs, rfl, h1, g1, d1⟩ := R3.tuple rv er
        refine .inr (.inl ⟨p, xs, rfl, h1, fun z => ?_, fun z q hq => ans.tup R3 (cut_dv g1 l u) hq⟩)
        have z' : cutD ds l u = ds := by
          rw [g1.length] at z
          unfold cutD
          rw [z.1, z.2, Nat.sub_zero, List.drop_zero, List.take_length]
        rw [z'] at ans
        exact ans.here R3 d1
      · split at eo
        · rename_i hz
          cases eo
          cases R3.str rv er
          exact .inr (.inr ⟨_, rfl, by rw [sizeLine_eq]; exact hz, ans.here R3 (.str _)⟩)
        · cases eo
      · cases eo
/-! ### built-ins of one argument, by data -/
def r1D (K : PySem.W.Frag) (mg : Str → Option Value) (o : D → Option D) : List V → Hp → VK → Prop := fun xs H Q =>
  ∃ w x a da c, w.H = H ∧ xs = [x] ∧ Rep K mg w ∧ RV K w x a ∧ rd w.S a = some da ∧ o da = some c ∧ Ans K mg w c Q
def on1 (o : D → Option D) : Val → M Val := fun x S => match rd S x with
  | some a => (match o a with | some c => .ok (.d c) S | none => .st)
  | none => .st
def dFn1 (o : D → Option D) (f : Env' → M Val) : Env' → M Val := fun ρ => (f ρ).bind (on1 o)
theorem on1_ok {K : PySem.W.Frag} {mg : Str → Option Value} {o : D → Option D} {w : Wd} {x : Val} {v : V} {Q : VK} {E : XK} (R : Rep K mg w) (r1 : RV K w v x) (q : After K mg (RV K) w (on1 o x w.S) Q E) : r1D K mg o [v] w.H Q := by
  unfold on1 at q
  cases e1 : rd w.S x with
  | none => rw [e1] at q; exact False.elim q
  | some da =>
    rw [e1] at q
    dsimp only at q
    cases e3 : o da with
    | none => rw [e3] at q; exact False.elim q
    | some c =>
      rw [e3] at q
      exact ⟨w, v, x, da, c, rfl, rfl, R, r1, e1, e3, fun H' v' x1 R1 d1 => q w.α H' v' x1 R1 d1⟩
theorem oneA (ha : ED X W a f) (hs : starEach [a] X.env = (false, eval a X.env) :: starEach [] X.env := by rfl) : PA X [a] (tCons (tD X.K X.mg W f) tNil) := pa_cons ha pa_nil hs
theorem ed_fn1 {id : String} {x : Str} {p : Pos} {o : D → Option D} (hc : CallR X (.builtin id) (r1D X.K X.mg o)) (hm : X.mg x = none) (hv : bootBuiltins x = some (.builtin id)) (ha : ED X W a f) (hg : Gl X x := by rfl) (hn : x ≠ "__name__" := by decide) (hdb : (x == ("__debug__" : Str)) = false := by decide)
    (he : starEach [a] X.env = (false, eval a X.env) :: starEach [] X.env := by rfl) (hpl : (backTo pos (starEach [] X.env)).any (·.1) = false := by rfl) : ED X W (.Call (.Name x p) [a] [] pos) (dFn1 o f) :=
  PE.imp (pe_callB hc hg hm hv (oneA ha he) hn hdb he hpl) fun σ H Q ⟨α, S, ρ, R, re, q⟩ => ⟨α, S, ρ, R, re, After.imp (After.split (rel := RV X.K) q) (fun v H1 ⟨α1, S1, x, e1, R1, r1, q1⟩ => on1_ok (w := ⟨α1, S1, H1⟩) R1 r1 q1) fun _ _ _ z => z⟩
theorem ed_ty1 {T : String} {x : Str} {p : Pos} {o : D → Option D} (hc : CallR X (.type T) (r1D X.K X.mg o)) (hm : X.mg x = none) (hv : bootBuiltins x = some (.type T)) (ha : ED X W a f) (hg : Gl X x := by rfl) (hn : x ≠ "__name__" := by decide) (hdb : (x == ("__debug__" : Str)) = false := by decide)
    (he : starEach [a] X.env = (false, eval a X.env) :: starEach [] X.env := by rfl) (hpl : (backTo pos (starEach [] X.env)).any (·.1) = false := by rfl) : ED X W (.Call (.Name x p) [a] [] pos) (dFn1 o f) :=
  PE.imp (pe_callTy hc hg hm hv (oneA ha he) hn hdb he hpl) fun σ H Q ⟨α, S, ρ, R, re, q⟩ => ⟨α, S, ρ, R, re, After.imp (After.split (rel := RV X.K) q) (fun v H1 ⟨α1, S1, x, e1, R1, r1, q1⟩ => on1_ok (w := ⟨α1, S1, H1⟩) R1 r1 q1) fun _ _ _ z => z⟩
def oLen : D → Option D
  | .str z => if z.length ≤ 16777216 then some (.int z.length) else none
  | .list xs => some (.int xs.length)
  | .tuple xs => some (.int xs.length)
  | _ => none
theorem cd_len : CallR X (.builtin "len") (r1D X.K X.mg oLen) := by
  refine CallR.imp (call_len (X := X)) fun xs H Q h => ?_
  obtain ⟨w, x, a, da, c, rfl, rfl, R, ra, ea, ec, q⟩ := h
  unfold oLen at ec
  split at ec
  · split at ec
    · rename_i hz
      cases ec
      cases R.str ra ea
      exact ⟨_, _, rfl, ⟨by rw [sizeLine_eq]; exact hz, rfl⟩, q.here R (.int _)⟩
    · cases ec
  · cases ec
    obtain ⟨p, xs, rfl, h1, g1⟩ := R.list ra ea
    exact ⟨_, _, rfl, .inl ⟨_, h1, g1.length.symm⟩, q.here R (.int _)⟩
  · cases ec
    obtain ⟨p, xs, rfl, h1, g1, _⟩ := R.tuple ra ea
    exact ⟨_, _, rfl, .inr ⟨_, h1, g1.length.symm⟩, q.here R (.int _)⟩
  · cases ec
def asBool : D → Option Bool
  | .bool b => some b
  | _ => none
theorem bools_dv {K : PySem.W.Frag} {F : Hp} : ∀ {vs : List V} {ds : List D} {bs : List Bool}, DvAll K F vs ds → ds.mapM asBool = some bs → vs = bs.map V.bl
  | _, _, bs, .nil, e => by cases e; rfl
  | _, _, bs, .cons (d := d) (ds := ds) r t, e => by
    rw [List.mapM_cons] at e
    cases d <;> first | cases e | skip
    all_goals skip
    rename_i b
    cases em : ds.mapM asBool with
    | none => simp [asBool, em] at e
    | some bs' =>
      simp [asBool, em] at e
      subst e
      cases r
      rw [bools_dv t em]
      rfl
def oAll : D → Option D
  | .list xs => (xs.mapM asBool).map fun bs => .bool (bs.all id)
  | _ => none
def oAny : D → Option D
  | .list xs => (xs.mapM asBool).map fun bs => .bool (bs.any id)
  | _ => none
theorem cd_all (C : CxOk X n) : CallR X (.builtin "all") (r1D X.K X.mg oAll) := by
  refine CallR.imp (cr_all C.hc) fun xs H Q h => ?_
  obtain ⟨w, x, a, da, c, rfl, rfl, R, ra, ea, ec, q⟩ := h
  unfold oAll at ec
  split at ec
  · obtain ⟨bs, e1, e2⟩ := Option.map_eq_some_iff.mp ec
    subst e2
    obtain ⟨p, xs, rfl, h1, g1⟩ := R.list ra ea
    rw [bools_dv g1 e1] at h1
    exact ⟨p, bs, rfl, h1, q.here R (.bl _)⟩
  · cases ec
theorem cd_any (C : CxOk X n) : CallR X (.builtin "any") (r1D X.K X.mg oAny) := by
  refine CallR.imp (cr_any C.hc) fun xs H Q h => ?_
  obtain ⟨w, x, a, da, c, rfl, rfl, R, ra, ea, ec, q⟩ := h
  unfold oAny at ec
  split at ec
  · obtain ⟨bs, e1, e2⟩ := Option.map_eq_some_iff.mp ec
    subst e2
    obtain ⟨p, xs, rfl, h1, g1⟩ := R.list ra ea
    rw [bools_dv g1 e1] at h1
    exact ⟨p, bs, rfl, h1, q.here R (.bl _)⟩
  · cases ec
def oTuple : D → Option D
  | .list xs => some (.tuple xs)
  | .tuple xs => some (.tuple xs)
  | _ => none
theorem cd_tuple : CallR X (.type "tuple") (r1D X.K X.mg oTuple) := by
  refine CallR.imp (call_tuple_of (X := X)) fun xs H Q h => ?_
  obtain ⟨w, x, a, da, c, rfl, rfl, R, ra, ea, ec, q⟩ := h
  unfold oTuple at ec
  split at ec
  · cases ec
    obtain ⟨p, xs, rfl, h1, g1⟩ := R.list ra ea
    exact ⟨p, xs, rfl, .inl ⟨h1, fun l hl => q.tup R g1 hl⟩⟩
  · cases ec
    obtain ⟨p, xs, rfl, h1, g1, d1⟩ := R.tuple ra ea
    exact ⟨p, xs, rfl, .inr ⟨h1, q.here R d1⟩⟩
  · cases ec
def oList : D → Option D
  | .list xs => some (.list xs)
  | .tuple xs => some (.list xs)
  | _ => none
theorem cd_list : CallR X (.type "list") (r1D X.K X.mg oList) := by
  refine CallR.imp (call_list_of (X := X)) fun xs H Q h => ?_
  obtain ⟨w, x, a, da, c, rfl, rfl, R, ra, ea, ec, q⟩ := h
  unfold oList at ec
  split at ec
  · cases ec
    obtain ⟨p, xs, rfl, h1, g1⟩ := R.list ra ea
    exact ⟨p, xs, rfl, .inl h1, fun l hl => q.lst R g1 hl⟩
  · cases ec
    obtain ⟨p, xs, rfl, h1, g1, _⟩ := R.tuple ra ea
    exact ⟨p, xs, rfl, .inr h1, fun l hl => q.lst R g1 hl⟩
  · cases ec
def oInt : D → Option D
  | .int i => some (.int i)
  | .bool k => some (.int (if k then 1 else 0))
  | _ => none
theorem cd_int : CallR X (.type "int") (r1D X.K X.mg oInt) := by
  refine CallR.imp (call_int1 (X := X)) fun xs H Q h => ?_
  obtain ⟨w, x, a, da, c, rfl, rfl, R, ra, ea, ec, q⟩ := h
  unfold oInt at ec
  split at ec
  · cases ec
    cases R.int ra ea
    exact .inl ⟨_, rfl, q.here R (.int _)⟩
  · cases ec
    cases R.bool ra ea
    exact .inr ⟨_, rfl, q.here R (.int _)⟩
  · cases ec
/-! ### repr -/
end
mutual
/-- no list in it -/
def noL : D → Bool
  | .none => true
  | .bool _ => true
  | .int _ => true
  | .str _ => true
  | .list _ => false
  | .tuple xs => noLs xs
  | .dict kvs => noLk kvs
def noLs : List D → Bool
  | [] => true
  | x :: r => noL x && noLs r
def noLk : List (D × D) → Bool
  | [] => true
  | (_, v) :: r => noL v && noLk r
end
section
variable {X : Cx} {n : Nat} {W : WX} {pins : List (Addr × Obj)} {σ : L2.St} {H : Hp} {s : Shared}
theorem key_reads {h : Heap} {k : Key} {u : Value} (e : keyIs k u = true) : Reads h u (keyD k) [] := by
  rcases keyIs_shape e with ⟨i, t, rfl, rfl⟩ | ⟨x, t, rfl, rfl⟩
  · exact .int i t
  · exact .str x t
mutual
theorem Dv.reads_ (I : Inv X pins σ H s) : ∀ {d : D} {v : V} {u : Value}, Dv X.K H v d → RelV v u → ∃ as, Reads s.heap u d as ∧ (noL d = true → sysModules ∉ as)
  | .none, _, _, h, r => by cases h; cases r; exact ⟨_, .none, by simp⟩
  | .bool b, _, _, h, r => by cases h; cases r; exact ⟨_, .bool b, by simp⟩
  | .int i, _, _, h, r => by cases h; obtain ⟨t, rfl⟩ := r; exact ⟨_, .int i t, by simp⟩
  | .str x, _, _, h, r => by cases h; obtain ⟨t, rfl⟩ := r; exact ⟨_, .str x t, by simp⟩
  | .list ds, _, _, h, r => by
    cases h with
    | lst hs ha =>
      cases r
      obtain ⟨its, rv, ⟨o, n, ho, hc, hd', hd⟩, _⟩ := I.list hs
      obtain ⟨as, hr, hn⟩ := DvAll.reads_ I ha rv
      exact ⟨_, .list ho hc hd hr, fun z => Bool.noConfusion (show false = true from by rw [noL] at z; exact z)⟩
  | .tuple ds, _, _, h, r => by
    cases h with
    | tup hs ha =>
      cases r
      obtain ⟨its, rv, ⟨o, ho, hc, n, hd⟩, _⟩ := I.tuple hs
      obtain ⟨as, hr, hn⟩ := DvAll.reads_ I ha rv
      exact ⟨_, .tuple ho hc hd hr, fun z => hn (by rw [noL] at z; exact z)⟩
  | .dict kds, _, _, h, r => by
    cases h with
    | dct hs ha =>
      cases r
      obtain ⟨_, hne, vs, kv, o, es, ep, ho, hx, hd, _, hp, _⟩ := I.hok _ _ hs
      obtain ⟨as, bs, h1, h2, h3, h4⟩ := DvKV.reads_ I ha kv hp
      refine ⟨_, .dict ho hx.1 hd h1 h2, fun z => ?_⟩
      have z2 := h4 (by rw [noL] at z; exact z)
      subst h3
      simp only [List.cons_append, List.append_nil, List.nil_append, List.mem_cons, not_or]
      exact ⟨fun q => by rw [← q] at hne; simp at hne, z2⟩
theorem DvAll.reads_ (I : Inv X pins σ H s) : ∀ {ds : List D} {vs : List V} {us : List Value}, DvAll X.K H vs ds → Vals vs us → ∃ as, ReadsAll s.heap us ds as ∧ (noLs ds = true → sysModules ∉ as)
  | [], _, _, h, r => by cases h; cases r; exact ⟨_, .nil, by simp⟩
  | d :: ds, _, _, h, r => by
    cases h with
    | cons h1 h2 =>
      cases r with
      | cons r1 r2 =>
        obtain ⟨as, q1, n1⟩ := Dv.reads_ I h1 r1
        obtain ⟨bs, q2, n2⟩ := DvAll.reads_ I h2 r2
        refine ⟨_, .cons q1 q2, fun z => ?_⟩
        rw [noLs, Bool.and_eq_true] at z
        simp [n1 z.1, n2 z.2]
theorem DvKV.reads_ (I : Inv X pins σ H s) : ∀ {kds : List (D × D)} {ks : List (Key × V)} {vs : List (Key × Value)} {es : List DictEntry}, DvKV X.K H ks kds → KV ks vs → Pairs (mixKind X.prog X.w) es vs →
    ∃ as bs, ReadsAll s.heap (es.map (·.key)) (kds.map (·.1)) as ∧ ReadsAll s.heap (es.map (·.val)) (kds.map (·.2)) bs ∧ as = [] ∧ (noLk kds = true → sysModules ∉ bs)
  | [], _, _, _, h, r, p => by
    cases h
    cases r
    cases p
    exact ⟨[], [], .nil, .nil, rfl, by simp⟩
  | (_, d) :: kds, _, _, _, h, r, p => by
    cases h with
    | cons h1 h2 =>
      cases r with
      | cons r1 r2 =>
        cases p with
        | cons p1 p2 p3 =>
          obtain ⟨as, bs, q1, q2, q3, q4⟩ := DvKV.reads_ I h2 r2 p3
          subst q3
          obtain ⟨e1, e2⟩ := r1
          obtain ⟨cs, q5, n5⟩ := Dv.reads_ I h1 e2
          rw [← p2] at q5
          have p1' := e1 ▸ p1
          refine ⟨_, _, .cons (key_reads p1') q1, .cons q5 q2, rfl, fun z => ?_⟩
          rw [noLk, Bool.and_eq_true] at z
          simp [n5 z.1, q4 z.2]
end
/-- what repr tells, where it is told -/
def oRepr (d : D) : Option D := if d.showable && (!d.hasDict || noL d) && decide (d.shown.length ≤ 16777216) && decide (d.depth ≤ 90) then some (.str d.shown) else none
theorem cd_repr (C : CxOk X n) : CallR X (.builtin "repr") (r1D X.K X.mg oRepr) := by
  intro pins s σ H xs us Q I r h
  obtain ⟨w, x, a, da, c, rfl, rfl, R, ra, ea, ec, q⟩ := h
  unfold oRepr at ec
  split at ec
  · rename_i hz
    cases ec
    simp only [Bool.and_eq_true, Bool.or_eq_true, decide_eq_true_eq, Bool.not_eq_true'] at hz
    obtain ⟨⟨⟨h1, h2⟩, h3⟩, h4⟩ := hz
    obtain ⟨u, rfl, ru⟩ := vals1 r
    have hsz : da.shown.length ≤ sizeLine := by rw [sizeLine_eq]; exact h3
    have dv := R.any ra ea
    obtain ⟨as, hr, hn⟩ := Dv.reads_ I dv ru
    have fin : ∀ (h' : Heap) (t : Tok) (tk : Nat), (∀ b o, s.heap.get? b = some o → h'.get? b = some o) → EP X pins σ Q (.str da.shown t) { s with heap := h', toks := tk } := fun h' t tk hk =>
      ⟨.str _, w.H, I.kept hk, ⟨t, rfl⟩, q.here R (.str _)⟩
    have hsm : da.hasDict = true → sysModules ∉ as := fun z => by
      rcases h2 with h2 | h2
      · rw [z] at h2; cases h2
      · exact hn h2
    have hu := C.u65
    have hu2 := C.hr.un
    cases dv with
    | non =>
      cases ru
      exact PySem.P.repr_of_none (by exact fin _ _ _ fun _ _ e => e)
    | bl b =>
      cases ru
      exact PySem.P.repr_of_bool (by exact fin _ _ _ fun _ _ e => e)
    | int i =>
      obtain ⟨t, rfl⟩ := ru
      exact PySem.P.repr_of_int (by simpa [PyData.showable] using h1) (by exact fin _ _ _ fun _ _ e => e)
    | str y =>
      obtain ⟨t, rfl⟩ := ru
      exact PySem.P.repr_of_str (by exact fin _ _ _ fun _ _ e => e) hsz
    | lst a1 a2 =>
      cases ru
      exact repr_of_reads' hr h1 hsm C.hG (by omega) (fun _ _ e => e) (fun h' t tk hk => fin h' t tk hk) hsz
    | tup a1 a2 =>
      cases ru
      exact repr_of_reads' hr h1 hsm C.hG (by omega) (fun _ _ e => e) (fun h' t tk hk => fin h' t tk hk) hsz
    | dct a1 a2 =>
      cases ru
      exact repr_of_reads' hr h1 hsm C.hG (by omega) (fun _ _ e => e) (fun h' t tk hk => fin h' t tk hk) hsz
  · cases ec
end
end Zz
set_option maxRecDepth 100000
set_option maxHeartbeats 4000000
namespace Zz
open PySem PySem.Spec PyProof.Rows L2
/-! ### what is walked -/
/-- J yields the data ds one by one, from the world w on -/
def Yields (K : PySem.W.Frag) (mg : Str → Option Value) (w : Wd) (J : It) (ds : List D) : Prop :=
  ∀ w', Ext w w' → Rep K mg w' → ∀ i, (∀ d, ds[i]? = some d → J.go i w'.H ∧ ∀ x H', J.yld i w'.H x H' → Ext w' (w'.at H') ∧ Rep K mg (w'.at H') ∧ Dv K (w'.at H').F x d) ∧ (ds.length ≤ i → J.stop i w'.H)
theorem Yields.mono {K : PySem.W.Frag} {mg : Str → Option Value} {w w1 : Wd} {J : It} {ds : List D} (e : Ext w w1) (h : Yields K mg w J ds) : Yields K mg w1 J ds := fun w' e' R' => h w' (e.trans e') R'
def tI (K : PySem.W.Frag) (mg : Str → Option Value) (W : WX) (it : Env' → M (List D)) : TI := fun σ H R =>
  ∃ α S ρ, Rep K mg ⟨α, S, H⟩ ∧ RE K ⟨α, S, H⟩ σ ρ ∧ After K mg (Yields K mg) ⟨α, S, H⟩ (it ρ S) R (fun c d H' => W c d σ H')
abbrev ID (X : Cx) (W : WX) (tg e : Expr) (it : Env' → M (List D)) : Prop := PI X tg e (tI X.K X.mg W it)
theorem PI.imp {X : Cx} {tg e : Expr} {t t' : TI} (h : PI X tg e t) (k : ∀ σ H R, t' σ H R → t σ H R) : PI X tg e t' := ⟨fun pins s σ H R I q => h.run pins s σ H R I (k σ H R q)⟩
section
variable {K : PySem.W.Frag} {mg : Str → Option Value} {w w' : Wd}
theorem yl_list {a : Addr} {vs : List V} {ds : List D} (h : SqL K w.F a vs) (dv : DvAll K w.F vs ds) : Yields K mg w (Itl K a) ds := fun w' e R i => by
  have h' : SqL K w'.F a vs := seqL e.same h
  have h2 : SqL K w'.H a vs := seqL (Wd.F_same w') h'
  refine ⟨fun d hd => ?_, fun hi => ⟨vs, h2, by rw [dv.length]; exact hi⟩⟩
  obtain ⟨v, e1, r⟩ := dv.get hd
  refine ⟨⟨vs, v, h2, e1⟩, fun x H' ⟨eh, y⟩ => ?_⟩
  subst eh
  have ex := y vs h2
  rw [e1] at ex
  cases ex
  exact ⟨Ext.refl _, R, r.mono e.same⟩
theorem yl_tup {a : Addr} {vs : List V} {ds : List D} (h : SqT K w.F a vs) (dv : DvAll K w.F vs ds) : Yields K mg w (Itt K a) ds := fun w' e R i => by
  have h' : SqT K w'.F a vs := seqT e.same h
  have h2 : SqT K w'.H a vs := seqT (Wd.F_same w') h'
  refine ⟨fun d hd => ?_, fun hi => ⟨vs, h2, by rw [dv.length]; exact hi⟩⟩
  obtain ⟨v, e1, r⟩ := dv.get hd
  refine ⟨⟨vs, v, h2, e1⟩, fun x H' ⟨eh, y⟩ => ?_⟩
  subst eh
  have ex := y vs h2
  rw [e1] at ex
  cases ex
  exact ⟨Ext.refl _, R, r.mono e.same⟩
theorem yl_rng (lo : Int) (n : Nat) : Yields K mg w (Itr lo n) ((List.range n).map fun i : Nat => PyData.int (lo + i)) := fun w' e R i => by
  refine ⟨fun d hd => ?_, fun hi => by show n ≤ i; simpa using hi⟩
  rw [List.getElem?_map, Option.map_eq_some_iff] at hd
  obtain ⟨j, h1, h2⟩ := hd
  have h3 := List.getElem?_eq_some_iff.mp h1
  obtain ⟨h4, h5⟩ := h3
  rw [List.getElem_range] at h5
  subst h5
  subst h2
  refine ⟨by show i < n; simpa using h4, fun x H' ⟨eh, y⟩ => ?_⟩
  subst eh
  subst y
  exact ⟨Ext.refl _, R, .int _⟩
theorem yl_str (x : Str) : Yields K mg w (Its x) (x.cps.toList.map fun c => PyData.str ⟨#[c]⟩) := fun w' e R i => by
  refine ⟨fun d hd => ?_, fun hi => by show x.cps.size ≤ i; simpa using hi⟩
  rw [List.getElem?_map, Option.map_eq_some_iff] at hd
  obtain ⟨c, h1, h2⟩ := hd
  subst h2
  rw [Array.getElem?_toList] at h1
  refine ⟨(Array.getElem?_eq_some_iff.mp h1).1, fun v H' ⟨eh, c', e1, e2⟩ => ?_⟩
  subst eh
  rw [h1] at e1
  cases e1
  subst e2
  exact ⟨Ext.refl _, R, .str _⟩
end
section
variable {X : Cx} {n : Nat} {W : WX} {pos p : Pos} {tg e a b : Expr} {f : Env' → M Val}
/-- the items of a list, a tuple -/
def itSeq (f : Env' → M Val) : Env' → M (List D) := fun ρ => (f ρ).bind fun x => (frz x).bind fun d => match d with
  | .list ds => M.ret ds
  | _ => M.st
def itTup (f : Env' → M Val) : Env' → M (List D) := fun ρ => (f ρ).bind fun x => (frz x).bind fun d => match d with
  | .tuple ds => M.ret ds
  | _ => M.st
def itStr (f : Env' → M Val) : Env' → M (List D) := fun ρ => (f ρ).bind fun x => (frz x).bind fun d => match d with
  | .str x => M.ret (x.cps.toList.map fun c => .str ⟨#[c]⟩)
  | _ => M.st
def itRng (f : Env' → M Val) : Env' → M (List D) := fun ρ => (f ρ).bind fun x => (frz x).bind fun d => match d with
  | .int j => if -(2 ^ 62) ≤ j ∧ j < 2 ^ 62 then M.ret ((List.range j.toNat).map fun i : Nat => .int (0 + i)) else M.st
  | _ => M.st
theorem itQ {k : D → M (List D)} {σ : L2.St} {H : Hp} {R : It → Hp → Prop} (q : tI X.K X.mg W (fun ρ => (f ρ).bind fun x => (frz x).bind k) σ H R) : tD X.K X.mg W f σ H fun v H1 => ∃ w d, w.H = H1 ∧ Rep X.K X.mg w ∧ Dv X.K w.F v d ∧ After X.K X.mg (Yields X.K X.mg) w (k d w.S) R (fun c d H' => W c d σ H') := by
  obtain ⟨α, S, ρ, R, re, q⟩ := q
  refine ⟨α, S, ρ, R, re, After.imp (After.split (rel := RV X.K) q) (fun v H1 ⟨α1, S1, x, e1, R1, r1, q1⟩ => ?_) fun _ _ _ z => z⟩
  obtain ⟨S2, d, e2, R2, r2, q2⟩ := frz_ok (w := ⟨α1, S1, H1⟩) R1 r1 q1
  exact ⟨⟨α1, S2, H1⟩, d, rfl, R2, r2, q2⟩
theorem id_seq (he : ED X W e f) : ID X W tg e (itSeq f) := PI.imp (pi_list he) fun σ H R q => by
  obtain ⟨α, S, ρ, h1, h2, q⟩ := itQ q
  refine ⟨α, S, ρ, h1, h2, After.imp q (fun v H1 ⟨w, d, eh, Rw, dv, q1⟩ => ?_) fun _ _ _ z => z⟩
  subst eh
  split at q1
  · cases dv with
    | lst s1 s2 => exact ⟨_, rfl, ⟨_, seqL (Wd.F_same w) s1⟩, q1 w.α w.H _ (Ext.refl _) Rw (yl_list s1 s2)⟩
  · exact False.elim q1
theorem id_tup (he : ED X W e f) : ID X W tg e (itTup f) := PI.imp (pi_tup he) fun σ H R q => by
  obtain ⟨α, S, ρ, h1, h2, q⟩ := itQ q
  refine ⟨α, S, ρ, h1, h2, After.imp q (fun v H1 ⟨w, d, eh, Rw, dv, q1⟩ => ?_) fun _ _ _ z => z⟩
  subst eh
  split at q1
  · cases dv with
    | tup s1 s2 => exact ⟨_, rfl, ⟨_, seqT (Wd.F_same w) s1⟩, q1 w.α w.H _ (Ext.refl _) Rw (yl_tup s1 s2)⟩
  · exact False.elim q1
theorem id_str (he : ED X W e f) : ID X W tg e (itStr f) := PI.imp (pi_str he) fun σ H R q => by
  obtain ⟨α, S, ρ, h1, h2, q⟩ := itQ q
  refine ⟨α, S, ρ, h1, h2, After.imp q (fun v H1 ⟨w, d, eh, Rw, dv, q1⟩ => ?_) fun _ _ _ z => z⟩
  subst eh
  split at q1
  · cases dv with
    | str => exact ⟨_, rfl, q1 w.α w.H _ (Ext.refl _) Rw (yl_str _)⟩
  · exact False.elim q1
theorem id_rng (hm : X.mg "range" = none) (ha : ED X W a f) (hg : Gl X "range" := by rfl) (hs : starEach [a] X.env = [(false, eval a X.env)] := by rfl) : ID X W tg (.Call (.Name "range" p) [a] [] pos) (itRng f) := PI.imp (pi_range1 hg hm (ad_cons (W := W) ha ad_nil hs) hs) fun σ H R q => by
  obtain ⟨α, S, ρ, h1, h2, q⟩ := itQ q
  refine ⟨α, S, ρ, h1, h2, ?_⟩
  show After X.K X.mg (RVs X.K) ⟨α, S, H⟩ ((f ρ S).bind fun x => M.ret [x]) _ _
  cases ef : f ρ S with
  | st => rw [ef] at q; exact q
  | ex x S => rw [ef] at q; exact q
  | ok x S1 =>
    rw [ef] at q
    refine fun α1 H1 vs e1 R1 r1 => ?_
    cases r1 with
    | cons r r' =>
      cases r'
      obtain ⟨w, d, eh, Rw, dv, q1⟩ := q α1 H1 _ e1 R1 r
      subst eh
      split at q1
      · split at q1
        · rename_i j hj
          cases dv
          exact ⟨j, rfl, hj.1, hj.2, q1 w.α w.H _ (Ext.refl _) Rw (yl_rng 0 j.toNat)⟩
        · exact False.elim q1
      · exact False.elim q1
/-! ### for -/
def forGo (g : Tg) (b : SD) : List D → SD
  | [] => sNil
  | d :: ds => fun ρ S => match g (.d d) ρ with
    | none => .st
    | some ρ1 => match b ρ1 S with
      | .nx ρ2 S2 => forGo g b ds ρ2 S2
      | .ct ρ2 S2 => forGo g b ds ρ2 S2
      | .bk ρ2 S2 => .nx ρ2 S2
      | .rt v S2 => .rt v S2
      | .ex x ρ2 S2 => .ex x ρ2 S2
      | .st => .st
def sFor (it : Env' → M (List D)) (g : Tg) (b : SD) : SD := fun ρ S => (it ρ S).then_ ρ fun ds S' => forGo g b ds ρ S'
theorem sd_for {it : Env' → M (List D)} {g : Tg} {b : SD} {is : List Nat} {body : List Stmt} (C : CxOk X n) (hp : PassesOwn (model X.prog X.w) X.A X.env X.xe) (hi : ID X W tg e it) (hg : GD X tg is g) (hb : BkD X W body b)
    (hs : ∀ x, foldedSetIterable e X.env x = pure x := by intro _; rfl) : StD X W (.For tg e body [] pos) (sFor it g b) := by
  refine PS.imp (ps_for hp C.hc hi hg hb hs) fun D σ H ⟨α, S, ρ, R, re, q⟩ => ⟨α, S, ρ, R, re, After.imp (AfterS.split (rel := Yields X.K X.mg) q re) (fun J H1 ⟨α1, S1, ds, e1, R1, y1, re1, q1⟩ => ?_) fun _ _ _ z => z⟩
  refine ⟨fun i m σ H => m = ds.length - i ∧ ∃ w ρ, w.H = H ∧ Ext ⟨α1, S1, H1⟩ w ∧ Rep X.K X.mg w ∧ RE X.K w σ ρ ∧ AfterS X.K X.mg w (forGo g b (ds.drop i) ρ w.S) D W, ⟨_, rfl, ⟨α1, S1, H1⟩, ρ, rfl, Ext.refl _, R1, re1, q1⟩, ?_⟩
  rintro i m σ2 H2 ⟨rfl, w, ρ2, rfl, e2, R2, re2, q2⟩
  obtain ⟨yg, ys⟩ := y1 w e2 R2 i
  cases ed : ds[i]? with
  | none =>
    have hl : ds.length ≤ i := List.getElem?_eq_none_iff.mp ed
    rw [List.drop_eq_nil_of_le hl] at q2
    exact .inl ⟨ys hl, q2 w.α w.H σ2 (Ext.refl _) R2 re2⟩
  | some d =>
    obtain ⟨hl, el⟩ := List.getElem?_eq_some_iff.mp ed
    have e3 : ds.drop i = d :: ds.drop (i + 1) := by rw [← el]; exact List.drop_eq_getElem_cons hl
    rw [e3] at q2
    unfold forGo at q2
    obtain ⟨go, yy⟩ := yg d ed
    refine .inr ⟨go, fun σ' H' => ∃ w ρ, w.H = H' ∧ Ext ⟨α1, S1, H1⟩ w ∧ Rep X.K X.mg w ∧ RE X.K w σ' ρ ∧ AfterS X.K X.mg w (forGo g b (ds.drop (i + 1)) ρ w.S) D W, fun σ' H' z => ⟨ds.length - (i + 1), by omega, rfl, z⟩, fun x H' yl => ?_⟩
    obtain ⟨ex, Rx, dx⟩ := yy x H' yl
    cases eg : g (.d d) ρ2 with
    | none => simp only [eg] at q2; exact False.elim q2
    | some ρ3 =>
      simp only [eg] at q2
      refine ⟨w.at H', .d d, ρ2, ρ3, rfl, Rx, re2.mono ex, dx, eg, fun H3 σ3 x3 R3 re3 _ => ⟨w.α, w.S, ρ3, R3, re3, ?_⟩⟩
      have x4 : Ext ⟨α1, S1, H1⟩ ⟨w.α, w.S, H3⟩ := (e2.trans ex).trans x3
      have x5 : Ext w ⟨w.α, w.S, H3⟩ := ex.trans x3
      cases eb : b ρ3 w.S with
      | st => rw [eb] at q2; exact q2
      | nx ρ4 S4 =>
        rw [eb] at q2
        exact fun α5 H5 σ5 x6 R6 re6 => ⟨⟨α5, S4, H5⟩, ρ4, rfl, x4.trans x6, R6, re6, AfterS.later q2 (x5.trans x6)⟩
      | ct ρ4 S4 =>
        rw [eb] at q2
        exact fun α5 H5 σ5 x6 R6 re6 => ⟨⟨α5, S4, H5⟩, ρ4, rfl, x4.trans x6, R6, re6, AfterS.later q2 (x5.trans x6)⟩
      | bk ρ4 S4 => rw [eb] at q2; exact fun α5 H5 σ5 x6 R6 re6 => q2 α5 H5 σ5 (x5.trans x6) R6 re6
      | rt v S4 => rw [eb] at q2; exact fun α5 H5 u x6 R6 ru => q2 α5 H5 u (x5.trans x6) R6 ru
      | ex x ρ4 S4 => rw [eb] at q2; exact fun α5 H5 σ5 c d x6 R6 re6 rx => q2 α5 H5 σ5 c d (x5.trans x6) R6 re6 rx
end
end Zz
set_option maxRecDepth 100000
set_option maxHeartbeats 4000000
namespace Zz
open PySem PySem.Spec PyProof.Rows L2
/-! ### list comprehensions -/
def wipeE (ρ : Env') : List Nat → Env'
  | [] => ρ
  | v :: vs => (wipeE ρ vs).set v none
theorem RE.wipe {K : PySem.W.Frag} {w : Wd} {σ : L2.St} {ρ : Env'} (h : RE K w σ ρ) : ∀ vs : List Nat, RE K w (L2.wipe σ vs) (wipeE ρ vs)
  | [] => h
  | v :: vs => (RE.wipe h vs).del v none
theorem wipe_wipe (σ : L2.St) (vs : List Nat) : L2.wipe (L2.wipe σ vs) vs = L2.wipe σ vs := wipe_eq (wipe_length σ vs) fun i hi => wipe_out hi
theorem frz_noex (x : Val) (S : List Cell) (y : Ex) (S' : List Cell) : frz x S ≠ .ex y S' := by
  cases x with
  | d x => intro h; cases h
  | c l =>
    intro h
    unfold frz at h
    cases e : S[l]? with
    | none => simp only [e] at h; cases h
    | some c => cases c <;> (simp only [e] at h; cases h)
/-- frz, told apart -/
theorem frz_to {K : PySem.W.Frag} {mg : Str → Option Value} {w : Wd} {v : V} {x : Val} {d : D} {S : List Cell} (R : Rep K mg w) (r : RV K w v x) (h : frz x w.S = .ok d S) : Ext w ⟨w.α, S, w.H⟩ ∧ Rep K mg ⟨w.α, S, w.H⟩ ∧ Dv K (Wd.F ⟨w.α, S, w.H⟩) v d := by
  classical
  obtain ⟨S', d', e1, R1, dv, q⟩ := frz_ok (A' := Unit) (B' := Unit) (rel := fun _ _ _ => True) (k := fun d' S' => if d' = d ∧ S' = S then Res.ok () S' else Res.st) (Q := fun _ _ => True) (X := fun _ _ _ => True) R r (by
    rw [h]
    show After K mg _ w (if d = d ∧ S = S then Res.ok () S else Res.st) _ _
    rw [if_pos ⟨rfl, rfl⟩]
    exact fun _ _ _ _ _ _ => trivial)
  by_cases z : d' = d ∧ S' = S
  · obtain ⟨rfl, rfl⟩ := z
    exact ⟨e1, R1, dv⟩
  · rw [if_neg z] at q
    exact False.elim q
/-- a turn's deed: of the environment and the store -/
abbrev Kt := Env' → List Cell → Option (List Cell)
def lcGo (g : Tg) (k : Kt) (ρ0 : Env') : List D → List Cell → Option (List Cell)
  | [], T => some T
  | d :: ds, T => (g (.d d) ρ0).bind fun ρ1 => (k ρ1 T).bind (lcGo g k ρ0 ds)
def push (l : Nat) (y : D) (T : List Cell) : Option (List Cell) := match T[l]? with
  | some (.lst acc) => if acc.length < 16777216 then some (T.set l (.lst (acc ++ [y]))) else none
  | _ => none
def kTest (ts : Env' → M Bool) (k : Kt) : Kt := fun ρ T => match ts ρ T with
  | .ok b T1 => if b = true then k ρ T1 else some T1
  | _ => none
def kPush (l : Nat) (f : Env' → M Val) : Kt := fun ρ T => match (f ρ T).bind frz with
  | .ok d T2 => push l d T2
  | _ => none
def kFor (it : Env' → M (List D)) (g : Tg) (k : Kt) (vs : List Nat) : Kt := fun ρ T => match it ρ T with
  | .ok ds T1 => lcGo g k (wipeE ρ vs) ds T1
  | _ => none
def lcEnd (l : Nat) : Option (List Cell) → Res Val
  | some T => (frz (.c l) T).bind fun d T' => .ok (.d d) (T'.take l)
  | none => .st
def dLc (it : Env' → M (List D)) (g : Tg) (k : Nat → Kt) (vs : List Nat) : Env' → M Val := fun ρ => (it ρ).bind fun ds S => lcEnd S.length (lcGo g (k S.length) (wipeE ρ vs) ds (S ++ [.lst []]))
/-- the list stays a cell -/
def lcEndC (l : Nat) : Option (List Cell) → Res Val
  | some T => .ok (.c l) T
  | none => .st
def dLcC (it : Env' → M (List D)) (g : Tg) (k : Nat → Kt) (vs : List Nat) : Env' → M Val := fun ρ => (it ρ).bind fun ds S => lcEndC S.length (lcGo g (k S.length) (wipeE ρ vs) ds (S ++ [.lst []]))
abbrev W0 : WX := fun _ _ _ _ => False
section
variable {K : PySem.W.Frag} {mg : Str → Option Value} {w0 w1 : Wd}
theorem loop_ok {J : It} {ds : List D} {g : Tg} {k : Kt} {ρ0 : Env'} {σ0 : L2.St} {T' : List Cell} {body : V → Hp → (Hp → Prop) → Prop} {Qs : Hp → Prop} (y : Yields K mg w0 J ds) (e01 : Ext w0 w1) (R1 : Rep K mg w1) (re : RE K w1 σ0 ρ0) (hgo : lcGo g k ρ0 ds w1.S = some T')
    (turn : ∀ (w : Wd) (x : V) (d : D) (ρ1 : Env') (T1 : List Cell) (Nx : Hp → Prop), Ext w1 w → Rep K mg w → Dv K w.F x d → g (.d d) ρ0 = some ρ1 → k ρ1 w.S = some T1 → RE K w σ0 ρ0 → (∀ w', Ext w w' → Rep K mg w' → w'.S = T1 → Nx w'.H) → body x w.H Nx)
    (hstop : ∀ w, Ext w1 w → Rep K mg w → w.S = T' → Qs w.H) :
    ∃ W : Nat → Nat → Hp → Prop, (∃ m, W 0 m w1.H) ∧ ∀ i m H, W i m H → (J.stop i H ∧ Qs H) ∨ (J.go i H ∧ ∃ Nx : Hp → Prop, (∀ H', Nx H' → ∃ m', m' < m ∧ W (i + 1) m' H') ∧ ∀ x H', J.yld i H x H' → body x H' Nx) := by
  refine ⟨fun i m H => m = ds.length - i ∧ ∃ w, w.H = H ∧ Ext w1 w ∧ Rep K mg w ∧ lcGo g k ρ0 (ds.drop i) w.S = some T', ⟨_, rfl, w1, rfl, Ext.refl _, R1, hgo⟩, ?_⟩
  rintro i m H ⟨rfl, w, rfl, e2, R2, q2⟩
  obtain ⟨yg, ys⟩ := y w (e01.trans e2) R2 i
  cases ed : ds[i]? with
  | none =>
    have hl : ds.length ≤ i := List.getElem?_eq_none_iff.mp ed
    rw [List.drop_eq_nil_of_le hl] at q2
    cases q2
    exact .inl ⟨ys hl, hstop w e2 R2 rfl⟩
  | some d =>
    obtain ⟨hl, el⟩ := List.getElem?_eq_some_iff.mp ed
    have e3 : ds.drop i = d :: ds.drop (i + 1) := by rw [← el]; exact List.drop_eq_getElem_cons hl
    rw [e3] at q2
    unfold lcGo at q2
    obtain ⟨ρ1, eg, q3⟩ := Option.bind_eq_some_iff.mp q2
    obtain ⟨T1, ek, q4⟩ := Option.bind_eq_some_iff.mp q3
    obtain ⟨go, yy⟩ := yg d ed
    refine .inr ⟨go, fun H' => ∃ w, w.H = H' ∧ Ext w1 w ∧ Rep K mg w ∧ lcGo g k ρ0 (ds.drop (i + 1)) w.S = some T', fun H' z => ⟨ds.length - (i + 1), by omega, rfl, z⟩, fun x H' yl => ?_⟩
    obtain ⟨ex, Rx, dx⟩ := yy x H' yl
    exact turn (w.at H') x d ρ1 T1 _ (e2.trans ex) Rx dx eg ek (re.mono (e2.trans ex)) fun w' e5 R5 e6 => ⟨w', rfl, (e2.trans ex).trans e5, R5, by rw [e6]; exact q4⟩
/-- one more item -/
theorem push_ok {w : Wd} {l : Nat} {a : Addr} {d : D} {v : V} {T : List Cell} (R : Rep K mg w) (ha : w.α[l]? = some a) (dv : Dv K w.F v d) (h : push l d w.S = some T) : ∃ acc, w.H a = some (.lst acc) ∧ acc.length < sizeLine ∧ Rep K mg ⟨w.α, T, upd w.H a (.lst (acc ++ [v]))⟩ ∧ Ext w ⟨w.α, T, upd w.H a (.lst (acc ++ [v]))⟩ := by
  unfold push at h
  split at h
  · rename_i ds hs
    split at h
    · rename_i hz
      cases h
      obtain ⟨xs, h1, h2⟩ := R.at_ l a _ ha hs
      exact ⟨xs, h1, by rw [sizeLine_eq, h2.length]; exact hz, R.write ha hs rfl rfl ⟨_, upd_same, h2.append (.cons dv .nil)⟩⟩
    · cases h
  · cases h
theorem kpush_ok {W : WX} {f : Env' → M Val} {l : Nat} {a : Addr} {w : Wd} {σ : L2.St} {ρ : Env'} {T : List Cell} {Nx : Hp → Prop} (R : Rep K mg w) (re : RE K w σ ρ) (ha : w.α[l]? = some a) (h : kPush l f ρ w.S = some T) (q : ∀ w', Ext w w' → Rep K mg w' → w'.S = T → Nx w'.H) :
    tD K mg W f σ w.H fun y H4 => ∃ acc, H4 a = some (.lst acc) ∧ acc.length < sizeLine ∧ Nx (upd H4 a (.lst (acc ++ [y]))) := by
  refine ⟨w.α, w.S, ρ, R, re, ?_⟩
  unfold kPush at h
  cases ef : f ρ w.S with
  | st => rw [ef] at h; cases h
  | ex x S => rw [ef] at h; cases h
  | ok v S =>
    rw [ef] at h
    refine fun α H b e1 R1 r1 => ?_
    have h' : (match frz v S with | .ok d T2 => push l d T2 | _ => none) = some T := h
    cases ez : frz v S with
    | st => rw [ez] at h'; cases h'
    | ex x S => rw [ez] at h'; cases h'
    | ok d S2 =>
      rw [ez] at h'
      obtain ⟨e2, R2, dv⟩ := frz_to (w := ⟨α, S, H⟩) R1 r1 ez
      obtain ⟨acc, h1, h2, R3, e3⟩ := push_ok (w := ⟨α, S2, H⟩) R2 (e1.at_ ha) dv h'
      exact ⟨acc, h1, h2, q ⟨α, T, _⟩ ((e1.trans e2).trans e3) R3 rfl⟩
theorem ktest_ok {W : WX} {ts : Env' → M Bool} {k : Kt} {w : Wd} {σ : L2.St} {ρ : Env'} {T : List Cell} {Qt : Bool → Hp → Prop} (R : Rep K mg w) (re : RE K w σ ρ) (h : kTest ts k ρ w.S = some T)
    (qt : ∀ w', Ext w w' → Rep K mg w' → RE K w' σ ρ → k ρ w'.S = some T → Qt true w'.H) (qf : ∀ w', Ext w w' → Rep K mg w' → w'.S = T → Qt false w'.H) : tDt K mg W ts σ w.H Qt := by
  refine ⟨w.α, w.S, ρ, R, re, ?_⟩
  unfold kTest at h
  cases ef : ts ρ w.S with
  | st => rw [ef] at h; cases h
  | ex x S => rw [ef] at h; cases h
  | ok b S =>
    rw [ef] at h
    refine fun α H b' e1 R1 r1 => ?_
    subst r1
    cases b' with
    | true => exact qt ⟨α, S, H⟩ e1 R1 (re.mono e1) (by simpa using h)
    | false => exact qf ⟨α, S, H⟩ e1 R1 (by simpa using h)
/-- the end, as data or as a cell -/
theorem lcEnd_ok {w w' : Wd} {l : Nat} {a : Addr} {Q : VK} {E : XK} (R : Rep K mg w) (R' : Rep K mg w') (e : Ext w w') (hl : w.S.length = l) (ha : w'.α[l]? = some a) (q : After K mg (RV K) w (lcEnd l (some w'.S)) Q E) : Q (.ref a) w'.H := by
  have q' : After K mg (RV K) w ((frz (.c l) w'.S).bind fun d T' => .ok (.d d) (T'.take l)) Q E := q
  cases ez : frz (.c l) w'.S with
  | st => rw [ez] at q'; exact False.elim q'
  | ex x S =>
    exact absurd ez (frz_noex _ _ _ _)
  | ok d S2 =>
    rw [ez] at q'
    obtain ⟨e2, R2, dv⟩ := frz_to (x := .c l) (v := .ref a) R' ⟨a, ha, rfl⟩ ez
    subst hl
    exact q' _ _ _ (Ext.cut R R2 (e.trans e2)) (R2.cut _).1 (Dv.mono (R2.cut w.S.length).2 dv)
end
section
variable {X : Cx} {n : Nat} {W : WX} {pos p : Pos} {tg e elt : Expr} {ifs : List Expr} {scope : Scope} {own : List (Str × Nat)} {f : Env' → M Val} {it : Env' → M (List D)} {g : Tg} {ts : Env' → M Bool} {is : List Nat}
theorem PTs.imp {t t' : TT} (h : PTs X ifs t) (k : ∀ σ H Q, t' σ H Q → t σ H Q) : PTs X ifs t' := ⟨fun pins s σ H Q I q => h.run pins s σ H Q I (k σ H Q q)⟩
theorem td_nil : PTs X [] (tDt X.K X.mg W fun _ => M.ret true) := PTs.imp pts_nil fun σ H Q ⟨α, S, ρ, R, re, q⟩ => q α H true (Ext.refl _) R rfl
theorem td_one {c : Expr} (h : TDt X W c ts) : PTs X [c] (tDt X.K X.mg W ts) := pts_one h
theorem lcQ {k : Nat → Kt} {fin : Nat → Option (List Cell) → Res Val} {vs : List Nat} {σ : L2.St} {H : Hp} {Q : VK} (hin : ∀ i ∈ is, i ∈ vs) (hk : k = fun l => kTest ts (kPush l f)) (hf0 : ∀ l, fin l none = .st)
    (hfin : ∀ (w w' : Wd) (l : Nat) (a : Addr), Rep X.K X.mg w → Rep X.K X.mg w' → Ext w w' → w.S.length = l → w'.α[l]? = some a → After X.K X.mg (RV X.K) w (fin l (some w'.S)) Q (fun c d H' => W c d σ H') → Q (.ref a) w'.H)
    (q : tD X.K X.mg W (fun ρ => (it ρ).bind fun ds S => fin S.length (lcGo g (k S.length) (wipeE ρ vs) ds (S ++ [.lst []]))) σ H Q) :
    tLc (tI X.K X.mg W it) (tG X.K X.mg is g) (tDt X.K X.mg W0 ts) (tD X.K X.mg W0 f) vs σ H Q := by
  subst hk
  obtain ⟨α, S, ρ, R, re, q⟩ := q
  refine ⟨α, S, ρ, R, re, After.imp (After.split (rel := Yields X.K X.mg) q) (fun J H1 ⟨α1, S1, ds, e1, R1, y1, q1⟩ => ?_) fun _ _ _ z => z⟩
  intro D hD
  obtain ⟨Rc, ec⟩ := R1.cell hD (c := .lst []) rfl ⟨[], upd_same, .nil⟩
  have ha : ((α1 ++ [D]) : List Addr)[S1.length]? = some D := by
    rw [List.getElem?_append_right (by rw [R1.len]; exact Nat.le_refl _), R1.len, Nat.sub_self]; rfl
  cases eg : lcGo g (kTest ts (kPush S1.length f)) (wipeE ρ vs) ds (S1 ++ [.lst []]) with
  | none => rw [eg, hf0] at q1; exact False.elim q1
  | some T' =>
    rw [eg] at q1
    have re1 : RE X.K ⟨α1 ++ [D], S1 ++ [.lst []], upd H1 D (.lst [])⟩ (L2.wipe σ vs) (wipeE ρ vs) := ((re.mono e1).mono ec).wipe vs
    refine loop_ok (w0 := ⟨α1, S1, H1⟩) (w1 := ⟨α1 ++ [D], S1 ++ [.lst []], upd H1 D (.lst [])⟩) (body := fun x H' Nx => tG X.K X.mg is g x (L2.wipe σ vs) H' fun σ2 H2 => L2.wipe σ2 vs = L2.wipe σ vs ∧ tDt X.K X.mg W0 ts σ2 H2 fun b H3 =>
      if b = true then tD X.K X.mg W0 f σ2 H3 fun y H4 => ∃ acc, H4 D = some (.lst acc) ∧ acc.length < sizeLine ∧ Nx (upd H4 D (.lst (acc ++ [y]))) else Nx H3) y1 ec Rc re1 eg
      (fun w x d ρ1 T1 Nx ew Rw dv hg hk rew hn => ?_) fun w ew Rw es => ?_
    · refine ⟨w, .d d, _, ρ1, rfl, Rw, rew, dv, hg, fun H2 σ2 x2 R2 re2 o2 => ⟨by rw [o2.wipe hin, wipe_wipe], ?_⟩⟩
      refine ktest_ok (w := w.at H2) R2 re2 hk (fun w' e3 R3 re3 hk3 => ?_) fun w' e3 R3 e4 => ?_
      · simp only [if_true]
        exact kpush_ok R3 re3 (((ew.trans x2).trans e3).at_ ha) hk3 fun w5 e5 R5 e6 => hn w5 ((x2.trans e3).trans e5) R5 e6
      · simp only [Bool.false_eq_true, if_false]
        exact hn w' (x2.trans e3) R3 e4
    · subst es
      exact hfin ⟨α1, S1, H1⟩ w S1.length D R1 Rw (ec.trans ew) rfl (ew.at_ ha) q1
/-- a block's context -/
abbrev bx (X : Cx) (s : Shared) (H : Hp) (scope : Scope) (cl : List (Str × Addr)) (C : Addr) (fp : List Addr) : Cx := X.blk s H scope (compEnvC scope cl C X.env) fp
theorem ed_lc (C : CxOk X n) (hi : ID X W tg e it) (ok : BlkOk X.N X.env.scope scope own) (hin : ∀ i ∈ is, i ∈ own.map (·.2))
    (hg : ∀ s H C cl fp, GD (bx X s H scope cl C fp) tg is g) (ht : ∀ s H C cl fp, PTs (bx X s H scope cl C fp) ifs (tDt X.K X.mg W0 ts)) (he : ∀ s H C cl fp, ED (bx X s H scope cl C fp) W0 elt f)
    (hs : ∀ x, foldedSetIterable e X.env x = pure x := by intro _; rfl) : ED X W (.ListComp elt [⟨tg, e, ifs, 0⟩] scope pos) (dLc it g (fun l => kTest ts (kPush l f)) (own.map (·.2))) :=
  PE.imp (pe_lc C.hc C.hN hi ok hg ht he hs) fun σ H Q q => lcQ (fin := lcEnd) hin rfl (fun _ => rfl) (fun w w' l a R R' e hl ha q => lcEnd_ok R R' e hl ha q) q
theorem ed_lcC (C : CxOk X n) (hi : ID X W tg e it) (ok : BlkOk X.N X.env.scope scope own) (hin : ∀ i ∈ is, i ∈ own.map (·.2))
    (hg : ∀ s H C cl fp, GD (bx X s H scope cl C fp) tg is g) (ht : ∀ s H C cl fp, PTs (bx X s H scope cl C fp) ifs (tDt X.K X.mg W0 ts)) (he : ∀ s H C cl fp, ED (bx X s H scope cl C fp) W0 elt f)
    (hs : ∀ x, foldedSetIterable e X.env x = pure x := by intro _; rfl) : ED X W (.ListComp elt [⟨tg, e, ifs, 0⟩] scope pos) (dLcC it g (fun l => kTest ts (kPush l f)) (own.map (·.2))) :=
  PE.imp (pe_lc C.hc C.hN hi ok hg ht he hs) fun σ H Q q => lcQ (fin := lcEndC) hin rfl (fun _ => rfl) (fun w w' l a R R' e hl ha q => q _ _ _ e R' ⟨a, ha, rfl⟩) q
/-- name = [..] -/
theorem setQ {i : Nat} {f : Env' → M Val} {D : Ends} {σ : L2.St} {H : Hp} (q : tS X.K X.mg W (sSet i f) D σ H) : tD X.K X.mg W f σ H fun v H' => D.nx (σ.set i (some v)) H' := by
  obtain ⟨α, S, ρ, R, re, q⟩ := q
  exact ⟨α, S, ρ, R, re, After.imp (AfterS.split (rel := RV X.K) q re) (fun v H' ⟨α', S', a, e1, R1, r1, re1, q1⟩ => q1 α' H' _ (Ext.refl _) R1 (re1.set r1 i)) fun _ _ _ z => z⟩
theorem sd_setLc {i : Nat} {y : Str} {py spos : Pos} (C : CxOk X n) (hi : ID X W tg e it) (ok : BlkOk X.N X.env.scope scope own) (hin : ∀ i ∈ is, i ∈ own.map (·.2))
    (hg : ∀ s H C cl fp, GD (bx X s H scope cl C fp) tg is g) (ht : ∀ s H C cl fp, PTs (bx X s H scope cl C fp) ifs (tDt X.K X.mg W0 ts)) (he : ∀ s H C cl fp, ED (bx X s H scope cl C fp) W0 elt f)
    (hy : X.N[i]? = some y := by rfl) (hyl : X.env.scope.names.lookup y = some .local := by rfl) (hsw : swapsWith (.ListComp elt [⟨tg, e, ifs, 0⟩] scope pos) (some (.Name y py)) spos.line X.env = pure true)
    (hs : ∀ x, foldedSetIterable e X.env x = pure x := by intro _; rfl) : StD X W (.Assign [.Name y py] (.ListComp elt [⟨tg, e, ifs, 0⟩] scope pos) spos) (sSet i (dLc it g (fun l => kTest ts (kPush l f)) (own.map (·.2)))) :=
  PS.imp (ps_setLc C.hc C.hN hy hyl hsw hi ok hg ht he hs) fun D σ H q => lcQ (fin := lcEnd) hin rfl (fun _ => rfl) (fun w w' l a R R' e hl ha q => lcEnd_ok R R' e hl ha q) (setQ q)
theorem sd_setLcC {i : Nat} {y : Str} {py spos : Pos} (C : CxOk X n) (hi : ID X W tg e it) (ok : BlkOk X.N X.env.scope scope own) (hin : ∀ i ∈ is, i ∈ own.map (·.2))
    (hg : ∀ s H C cl fp, GD (bx X s H scope cl C fp) tg is g) (ht : ∀ s H C cl fp, PTs (bx X s H scope cl C fp) ifs (tDt X.K X.mg W0 ts)) (he : ∀ s H C cl fp, ED (bx X s H scope cl C fp) W0 elt f)
    (hy : X.N[i]? = some y := by rfl) (hyl : X.env.scope.names.lookup y = some .local := by rfl) (hsw : swapsWith (.ListComp elt [⟨tg, e, ifs, 0⟩] scope pos) (some (.Name y py)) spos.line X.env = pure true)
    (hs : ∀ x, foldedSetIterable e X.env x = pure x := by intro _; rfl) : StD X W (.Assign [.Name y py] (.ListComp elt [⟨tg, e, ifs, 0⟩] scope pos) spos) (sSet i (dLcC it g (fun l => kTest ts (kPush l f)) (own.map (·.2)))) :=
  PS.imp (ps_setLc C.hc C.hN hy hyl hsw hi ok hg ht he hs) fun D σ H q => lcQ (fin := lcEndC) hin rfl (fun _ => rfl) (fun w w' l a R R' e hl ha q => q _ _ _ e R' ⟨a, ha, rfl⟩) (setQ q)
end
end Zz
set_option maxRecDepth 100000
set_option maxHeartbeats 4000000
namespace Zz
open PySem PySem.Spec PyProof.Rows L2
section
variable {X : Cx} {n : Nat} {W : WX} {pos p : Pos} {tg e tg1 e1 elt : Expr} {ifs ifs1 : List Expr} {scope : Scope} {own : List (Str × Nat)} {f : Env' → M Val} {it it1 : Env' → M (List D)} {g g1 : Tg} {ts ts1 : Env' → M Bool} {is is1 vs1 : List Nat}
theorem lc2Q {k : Nat → Kt} {fin : Nat → Option (List Cell) → Res Val} {vs : List Nat} {σ : L2.St} {H : Hp} {Q : VK} (hin : ∀ i ∈ is, i ∈ vs) (hin1 : ∀ i ∈ is1, i ∈ vs1) (hk : k = fun l => kTest ts (kFor it1 g1 (kTest ts1 (kPush l f)) vs1)) (hf0 : ∀ l, fin l none = .st)
    (hfin : ∀ (w w' : Wd) (l : Nat) (a : Addr), Rep X.K X.mg w → Rep X.K X.mg w' → Ext w w' → w.S.length = l → w'.α[l]? = some a → After X.K X.mg (RV X.K) w (fin l (some w'.S)) Q (fun c d H' => W c d σ H') → Q (.ref a) w'.H)
    (q : tD X.K X.mg W (fun ρ => (it ρ).bind fun ds S => fin S.length (lcGo g (k S.length) (wipeE ρ vs) ds (S ++ [.lst []]))) σ H Q) :
    tLc2 (tI X.K X.mg W it) (tG X.K X.mg is g) (tDt X.K X.mg W0 ts) (tI X.K X.mg W0 it1) (tG X.K X.mg is1 g1) (tDt X.K X.mg W0 ts1) (tD X.K X.mg W0 f) vs vs1 σ H Q := by
  subst hk
  obtain ⟨α, S, ρ, R, re, q⟩ := q
  refine ⟨α, S, ρ, R, re, After.imp (After.split (rel := Yields X.K X.mg) q) (fun J H1 ⟨α1, S1, ds, e1, R1, y1, q1⟩ => ?_) fun _ _ _ z => z⟩
  intro D hD
  obtain ⟨Rc, ec⟩ := R1.cell hD (c := .lst []) rfl ⟨[], upd_same, .nil⟩
  have ha : ((α1 ++ [D]) : List Addr)[S1.length]? = some D := by
    rw [List.getElem?_append_right (by rw [R1.len]; exact Nat.le_refl _), R1.len, Nat.sub_self]; rfl
  cases eg : lcGo g (kTest ts (kFor it1 g1 (kTest ts1 (kPush S1.length f)) vs1)) (wipeE ρ vs) ds (S1 ++ [.lst []]) with
  | none => rw [eg, hf0] at q1; exact False.elim q1
  | some T' =>
    rw [eg] at q1
    have re1 : RE X.K ⟨α1 ++ [D], S1 ++ [.lst []], upd H1 D (.lst [])⟩ (L2.wipe σ vs) (wipeE ρ vs) := ((re.mono e1).mono ec).wipe vs
    refine loop_ok (w0 := ⟨α1, S1, H1⟩) (w1 := ⟨α1 ++ [D], S1 ++ [.lst []], upd H1 D (.lst [])⟩) (body := fun x H' Nx => tG X.K X.mg is g x (L2.wipe σ vs) H' fun σ2 H2 => L2.wipe σ2 vs = L2.wipe σ vs ∧ tDt X.K X.mg W0 ts σ2 H2 fun b H3 =>
      if b = true then tI X.K X.mg W0 it1 σ2 H3 fun J1 H4 => ∃ W1 : Nat → Nat → Hp → Prop, (∃ m, W1 0 m H4) ∧ ∀ j k H, W1 j k H →
      (J1.stop j H ∧ Nx H) ∨ (J1.go j H ∧ ∃ Nx1 : Hp → Prop, (∀ H', Nx1 H' → ∃ k', k' < k ∧ W1 (j + 1) k' H') ∧ ∀ x H', J1.yld j H x H' → tG X.K X.mg is1 g1 x (L2.wipe σ2 vs1) H' fun σ3 H5 => L2.wipe σ3 vs1 = L2.wipe σ2 vs1 ∧ tDt X.K X.mg W0 ts1 σ3 H5 fun b H6 =>
        if b = true then tD X.K X.mg W0 f σ3 H6 fun y H7 => ∃ acc, H7 D = some (.lst acc) ∧ acc.length < sizeLine ∧ Nx1 (upd H7 D (.lst (acc ++ [y]))) else Nx1 H6)
      else Nx H3) y1 ec Rc re1 eg
      (fun w x d ρ1 T1 Nx ew Rw dv hg hk rew hn => ?_) fun w ew Rw es => ?_
    · refine ⟨w, .d d, _, ρ1, rfl, Rw, rew, dv, hg, fun H2 σ2 x2 R2 re2 o2 => ⟨by rw [o2.wipe hin, wipe_wipe], ?_⟩⟩
      refine ktest_ok (w := w.at H2) R2 re2 hk (fun w' e3 R3 re3 hk3 => ?_) fun w' e3 R3 e4 => ?_
      · simp only [if_true]
        refine ⟨w'.α, w'.S, ρ1, R3, re3, ?_⟩
        unfold kFor at hk3
        cases ei : it1 ρ1 w'.S with
        | st => rw [ei] at hk3; cases hk3
        | ex x S => rw [ei] at hk3; cases hk3
        | ok ds1 T3 =>
          rw [ei] at hk3
          refine fun α4 H4 J1 e4 R4 y4 => ?_
          have e24 : Ext w ⟨α4, T3, H4⟩ := (x2.trans e3).trans e4
          refine loop_ok (w0 := ⟨α4, T3, H4⟩) (w1 := ⟨α4, T3, H4⟩) (body := fun x H' Nx1 => tG X.K X.mg is1 g1 x (L2.wipe σ2 vs1) H' fun σ3 H5 => L2.wipe σ3 vs1 = L2.wipe σ2 vs1 ∧ tDt X.K X.mg W0 ts1 σ3 H5 fun b H6 =>
            if b = true then tD X.K X.mg W0 f σ3 H6 fun y H7 => ∃ acc, H7 D = some (.lst acc) ∧ acc.length < sizeLine ∧ Nx1 (upd H7 D (.lst (acc ++ [y]))) else Nx1 H6) y4 (Ext.refl _) R4 ((re3.mono e4).wipe vs1) hk3
            (fun w5 x5 d5 ρ5 T5 Nx5 ew5 Rw5 dv5 hg5 hk5 rew5 hn5 => ?_) fun w5 ew5 Rw5 es5 => hn w5 (e24.trans ew5) Rw5 es5
          refine ⟨w5, .d d5, _, ρ5, rfl, Rw5, rew5, dv5, hg5, fun H6 σ6 x6 R6 re6 o6 => ⟨by rw [o6.wipe hin1, wipe_wipe], ?_⟩⟩
          refine ktest_ok (w := w5.at H6) R6 re6 hk5 (fun w7 e7 R7 re7 hk7 => ?_) fun w7 e7 R7 es7 => ?_
          · simp only [if_true]
            exact kpush_ok R7 re7 (((((ew.trans e24).trans ew5).trans x6).trans e7).at_ ha) hk7 fun w8 e8 R8 es8 => hn5 w8 ((x6.trans e7).trans e8) R8 es8
          · simp only [Bool.false_eq_true, if_false]
            exact hn5 w7 (x6.trans e7) R7 es7
      · simp only [Bool.false_eq_true, if_false]
        exact hn w' (x2.trans e3) R3 e4
    · subst es
      exact hfin ⟨α1, S1, H1⟩ w S1.length D R1 Rw (ec.trans ew) rfl (ew.at_ ha) q1
theorem ed_lc2 (C : CxOk X n) (hi : ID X W tg e it) (ok : BlkOk X.N X.env.scope scope own) (hin : ∀ i ∈ is, i ∈ own.map (·.2)) (hin1 : ∀ i ∈ is1, i ∈ vs1) (hv : ∀ i ∈ vs1, i ∈ own.map (·.2))
    (hg : ∀ s H C cl fp, GD (bx X s H scope cl C fp) tg is g) (ht : ∀ s H C cl fp, PTs (bx X s H scope cl C fp) ifs (tDt X.K X.mg W0 ts)) (hi1 : ∀ s H C cl fp, ID (bx X s H scope cl C fp) W0 tg1 e1 it1)
    (hg1 : ∀ s H C cl fp, GD (bx X s H scope cl C fp) tg1 is1 g1) (ht1 : ∀ s H C cl fp, PTs (bx X s H scope cl C fp) ifs1 (tDt X.K X.mg W0 ts1)) (he : ∀ s H C cl fp, ED (bx X s H scope cl C fp) W0 elt f)
    (hs : ∀ x, foldedSetIterable e X.env x = pure x := by intro _; rfl) (hs1 : ∀ env x, foldedSetIterable e1 env x = pure x := by intro _ _; rfl) :
    ED X W (.ListComp elt [⟨tg, e, ifs, 0⟩, ⟨tg1, e1, ifs1, 0⟩] scope pos) (dLc it g (fun l => kTest ts (kFor it1 g1 (kTest ts1 (kPush l f)) vs1)) (own.map (·.2))) :=
  PE.imp (pe_lc2 C.hc C.hN hi ok hv hg ht hi1 hg1 ht1 he hs hs1) fun σ H Q q => lc2Q (fin := lcEnd) hin hin1 rfl (fun _ => rfl) (fun w w' l a R R' e hl ha q => lcEnd_ok R R' e hl ha q) q
theorem ed_lc2C (C : CxOk X n) (hi : ID X W tg e it) (ok : BlkOk X.N X.env.scope scope own) (hin : ∀ i ∈ is, i ∈ own.map (·.2)) (hin1 : ∀ i ∈ is1, i ∈ vs1) (hv : ∀ i ∈ vs1, i ∈ own.map (·.2))
    (hg : ∀ s H C cl fp, GD (bx X s H scope cl C fp) tg is g) (ht : ∀ s H C cl fp, PTs (bx X s H scope cl C fp) ifs (tDt X.K X.mg W0 ts)) (hi1 : ∀ s H C cl fp, ID (bx X s H scope cl C fp) W0 tg1 e1 it1)
    (hg1 : ∀ s H C cl fp, GD (bx X s H scope cl C fp) tg1 is1 g1) (ht1 : ∀ s H C cl fp, PTs (bx X s H scope cl C fp) ifs1 (tDt X.K X.mg W0 ts1)) (he : ∀ s H C cl fp, ED (bx X s H scope cl C fp) W0 elt f)
    (hs : ∀ x, foldedSetIterable e X.env x = pure x := by intro _; rfl) (hs1 : ∀ env x, foldedSetIterable e1 env x = pure x := by intro _ _; rfl) :
    ED X W (.ListComp elt [⟨tg, e, ifs, 0⟩, ⟨tg1, e1, ifs1, 0⟩] scope pos) (dLcC it g (fun l => kTest ts (kFor it1 g1 (kTest ts1 (kPush l f)) vs1)) (own.map (·.2))) :=
  PE.imp (pe_lc2 C.hc C.hN hi ok hv hg ht hi1 hg1 ht1 he hs hs1) fun σ H Q q => lc2Q (fin := lcEndC) hin hin1 rfl (fun _ => rfl) (fun w w' l a R R' e hl ha q => q _ _ _ e R' ⟨a, ha, rfl⟩) q
theorem sd_setLc2 {i : Nat} {y : Str} {py spos : Pos} (C : CxOk X n) (hi : ID X W tg e it) (ok : BlkOk X.N X.env.scope scope own) (hin : ∀ i ∈ is, i ∈ own.map (·.2)) (hin1 : ∀ i ∈ is1, i ∈ vs1) (hv : ∀ i ∈ vs1, i ∈ own.map (·.2))
    (hg : ∀ s H C cl fp, GD (bx X s H scope cl C fp) tg is g) (ht : ∀ s H C cl fp, PTs (bx X s H scope cl C fp) ifs (tDt X.K X.mg W0 ts)) (hi1 : ∀ s H C cl fp, ID (bx X s H scope cl C fp) W0 tg1 e1 it1)
    (hg1 : ∀ s H C cl fp, GD (bx X s H scope cl C fp) tg1 is1 g1) (ht1 : ∀ s H C cl fp, PTs (bx X s H scope cl C fp) ifs1 (tDt X.K X.mg W0 ts1)) (he : ∀ s H C cl fp, ED (bx X s H scope cl C fp) W0 elt f)
    (hy : X.N[i]? = some y := by rfl) (hyl : X.env.scope.names.lookup y = some .local := by rfl) (hsw : swapsWith (.ListComp elt [⟨tg, e, ifs, 0⟩, ⟨tg1, e1, ifs1, 0⟩] scope pos) (some (.Name y py)) spos.line X.env = pure true)
    (hs : ∀ x, foldedSetIterable e X.env x = pure x := by intro _; rfl) (hs1 : ∀ env x, foldedSetIterable e1 env x = pure x := by intro _ _; rfl) :
    StD X W (.Assign [.Name y py] (.ListComp elt [⟨tg, e, ifs, 0⟩, ⟨tg1, e1, ifs1, 0⟩] scope pos) spos) (sSet i (dLc it g (fun l => kTest ts (kFor it1 g1 (kTest ts1 (kPush l f)) vs1)) (own.map (·.2)))) :=
  PS.imp (ps_setLc2 C.hc C.hN hy hyl hsw hi ok hv hg ht hi1 hg1 ht1 he hs hs1) fun D σ H q => lc2Q (fin := lcEnd) hin hin1 rfl (fun _ => rfl) (fun w w' l a R R' e hl ha q => lcEnd_ok R R' e hl ha q) (setQ q)
/-! ### (x, *xs) -/
/-- the items of a sequence, then the rest -/
def dStar (f : Env' → M Val) (g : Env' → M (List Val)) : Env' → M (List Val) := fun ρ => (f ρ).bind fun x => (frz x).bind fun d => match d with
  | .tuple ds => (g ρ).bind fun xs => M.ret (ds.map .d ++ xs)
  | .list ds => (g ρ).bind fun xs => M.ret (ds.map .d ++ xs)
  | _ => M.st
theorem rvs_of {K : PySem.W.Frag} {w : Wd} : ∀ {vs : List V} {ds : List D}, DvAll K w.F vs ds → RVs K w vs (ds.map .d)
  | _, _, .nil => .nil
  | _, _, .cons a b => .cons a (rvs_of b)
theorem RVs.append {K : PySem.W.Frag} {w : Wd} : ∀ {vs us : List V} {xs ys : List Val}, RVs K w vs xs → RVs K w us ys → RVs K w (vs ++ us) (xs ++ ys)
  | _, _, _, _, .nil, h => h
  | _, _, _, _, .cons a b, h => .cons a (RVs.append b h)
theorem ad_star {es : List Expr} {h : Env' → M (List Val)} (he : ED X W e f) (hr : AD X W es h) (hs : starEach (.Starred e p :: es) X.env = (true, eval e X.env) :: starEach es X.env := by rfl) : AD X W (.Starred e p :: es) (dStar f h) :=
  PA.imp (StX.pa_star he hr hs) fun σ H Q ⟨α, S, ρ, R, re, q⟩ => ⟨α, S, ρ, R, re, After.imp (After.split (rel := RV X.K) q) (fun v H1 ⟨α1, S1, x, e1, R1, r1, q1⟩ => by
    obtain ⟨S2, d, e2, R2, dv, q2⟩ := frz_ok (w := ⟨α1, S1, H1⟩) R1 r1 q1
    have fin : ∀ {a : Addr} {vs : List V} {ds : List D}, DvAll X.K (Wd.F ⟨α1, S2, H1⟩) vs ds → After X.K X.mg (RVs X.K) ⟨α1, S2, H1⟩ ((h ρ S2).bind fun xs => M.ret (ds.map .d ++ xs)) Q (fun c d H' => W c d σ H') → tDs X.K X.mg W h σ H1 fun ys H2 => Q (vs ++ ys) H2 := fun {a vs ds} dd q => by
      refine ⟨α1, S2, ρ, R2, re.mono (e1.trans e2), After.imp (After.split (rel := RVs X.K) q) (fun us H3 ⟨α3, S3, xs, e3, R3, r3, q3⟩ => ?_) fun _ _ _ z => z⟩
      exact q3 α3 H3 (vs ++ us) (Ext.refl _) R3 (RVs.append (rvs_of (dd.mono e3.same)) r3)
    split at q2
    · cases dv with
      | tup s1 s2 => exact ⟨_, _, rfl, .inl (seqT (Wd.F_same _) s1), fin (a := 0) s2 q2⟩
    · cases dv with
      | lst s1 s2 => exact ⟨_, _, rfl, .inr (seqL (Wd.F_same _) s1), fin (a := 0) s2 q2⟩
    · exact False.elim q2) fun _ _ _ z => z⟩
end
end Zz
set_option maxRecDepth 100000
set_option maxHeartbeats 4000000
namespace Zz
open PySem PySem.Spec PyProof.Rows L2
section
variable {X : Cx} {n : Nat} {W : WX} {pos p apos cpos : Pos} {o a b e : Expr} {es : List Expr} {f g h : Env' → M Val}
/-! ### xs.append(y) -/
/-- y put behind the list that x is -/
def appM (x y : Val) : M Val := match x with
  | .c l => (frz y).bind fun d S => match push l d S with
    | some T => .ok (.d .none) T
    | none => .st
  | .d _ => M.st
def isLst (S : List Cell) (x : Val) : Bool := match rd S x with
  | some (.list _) => true
  | _ => false
def dApp (f g : Env' → M Val) : Env' → M Val := fun ρ => (f ρ).bind fun x S => if isLst S x = true then ((g ρ S).bind fun y => appM x y) else .st
theorem rd_lst {K : PySem.W.Frag} {mg : Str → Option Value} {w : Wd} {v : V} {x : Val} (R : Rep K mg w) (r : RV K w v x) (h : isLst w.S x = true) : tyV K "list" v w.H := by
  unfold isLst at h
  cases e : rd w.S x with
  | none => rw [e] at h; cases h
  | some d =>
    cases d <;> first | (rw [e] at h; cases h) | skip
    rename_i ds
    obtain ⟨p, xs, rfl, h1, _⟩ := R.list r e
    exact .inl ⟨rfl, xs, h1⟩
theorem ed_append (ho : ED X W o f) (he : ED X W e g) (hbase : attributeBase o "append" X.env (eval o X.env) = eval o X.env := by rfl)
    (hfew : ((backTo cpos (starEach [e] X.env)).all (fun x => !x.1) && (backToKw cpos (keywordEach [] X.env)).all (fun x => x.1.isSome) && decide (([e] : List Expr).length + ([] : List Keyword).length + (if ([] : List Keyword).isEmpty then 0 else 1) < 30)) = true := by rfl)
    (hline : (apos.endLine == cpos.line) = true := by rfl) (hs : starEach [e] X.env = (false, eval e X.env) :: starEach [] X.env := by rfl) (hplain : (backTo cpos (starEach [] X.env)).any (·.1) = false := by rfl) :
    ED X W (.Call (.Attribute o "append" apos) [e] [] cpos) (dApp f g) :=
  PE.imp (pe_bm PySem.F.plainAttrs_list PySem.F.slot_list_append PySem.F.type_list_append mt_append ho (pa_cons he pa_nil hs) hbase hfew hline hs hplain) fun σ H Q ⟨α, S, ρ, R, re, q⟩ => by
    refine ⟨α, S, ρ, R, re, After.imp (After.split (rel := RV X.K) q) (fun v H1 ⟨α1, S1, x, e1, R1, r1, q1⟩ => ?_) fun _ _ _ z => z⟩
    split at q1
    · rename_i hi
      refine ⟨rd_lst R1 r1 hi, α1, S1, ρ, R1, re.mono e1, After.imp (After.split (rel := RV X.K) q1) (fun u H2 ⟨α2, S2, y, e2, R2, r2, q2⟩ => ?_) fun _ _ _ z => z⟩
      cases x with
      | d z => exact False.elim q2
      | c l =>
        obtain ⟨S3, d, e3, R3, dv, q3⟩ := frz_ok (w := ⟨α2, S2, H2⟩) R2 r2 q2
        obtain ⟨p, hp, rfl⟩ := r1
        cases ep : push l d S3 with
        | none => rw [ep] at q3; exact False.elim q3
        | some T =>
          rw [ep] at q3
          obtain ⟨acc, h1, h2, R4, e4⟩ := push_ok (w := ⟨α2, S3, H2⟩) R3 (e2.at_ hp) dv ep
          exact ⟨p, acc, u, rfl, rfl, h1, h2, q3 _ _ _ e4 R4 .non⟩
    · exact False.elim q1
/-! ### x[i] = v -/
/-- the list or dict cell with an item set -/
def putM (x : Val) (i d : D) (S : List Cell) : Option (List Cell) := match x with
  | .c l => match S[l]? with
    | some (.lst ds) => match i with
      | .int k => match ixN ds.length k with
        | some j => some (S.set l (.lst (ds.set j d)))
        | none => none
      | _ => none
    | _ => none
  | .d _ => none
def sPut (f fo fi : Env' → M Val) : SD := fun ρ S => (f ρ S).then_ ρ fun v S1 => (fo ρ S1).then_ ρ fun x S2 => (fi ρ S2).then_ ρ fun i S3 => match rd S3 i with
  | some k => match frz v S3 with
    | .ok d S4 => match putM x k d S4 with
      | some T => .nx ρ T
      | none => .st
    | _ => .st
  | none => .st
theorem sd_put {i : Expr} {fo fi : Env' → M Val} (he : ED X W e f) (ho : ED X W o fo) (hi : ED X W i fi)
    (ha : ∀ v, assign (.Subscript o i p) X.env v = (do
      let ov ← holding [v] (eval o X.env)
      let iv ← holding [v, ov] (eval i X.env)
      standAt p
      holding [v, ov, iv] (setItem ov iv v)
      release [v, ov, iv] []) := by intro _; rfl) (hs : swapsWithSole [.Subscript o i p] e pos.line X.env = pure false := by rfl) (hw : swappedStores [.Subscript o i p] e X.env = pure none := by rfl)
    (h1 : (assignEach [.Subscript o i p] X.env).map (·.2) = [assign (.Subscript o i p) X.env] := by rfl) : StD X W (.Assign [.Subscript o i p] e pos) (sPut f fo fi) :=
  PS.imp (ps_asg he (pg_sub ho hi set_list ha) hs hw h1) fun D σ H ⟨α, S, ρ, R, re, q⟩ => by
    refine ⟨α, S, ρ, R, re, After.imp (AfterS.split (rel := RV X.K) q re) (fun v H1 ⟨α1, S1, x1, e1, R1, r1, re1, q1⟩ => ?_) fun _ _ _ z => z⟩
    refine ⟨α1, S1, ρ, R1, re1, After.imp (AfterS.split (rel := RV X.K) q1 re1) (fun v2 H2 ⟨α2, S2, x2, e2, R2, r2, re2, q2⟩ => ?_) fun _ _ _ z => z⟩
    refine ⟨α2, S2, ρ, R2, re2, After.imp (AfterS.split (rel := RV X.K) q2 re2) (fun v3 H3 ⟨α3, S3, x3, e3, R3, r3, re3, q3⟩ => ?_) fun _ _ _ z => z⟩
    cases ek : rd S3 x3 with
    | none => rw [ek] at q3; exact False.elim q3
    | some k =>
      rw [ek] at q3
      dsimp only at q3
      cases ez : frz x1 S3 with
      | st => rw [ez] at q3; exact False.elim q3
      | ex z S => rw [ez] at q3; exact False.elim q3
      | ok d S4 =>
        rw [ez] at q3
        dsimp only at q3
        obtain ⟨e4, R4, dv⟩ := frz_to (w := ⟨α3, S3, H3⟩) R3 ((r1.mono e2).mono e3) ez
        cases ep : putM x2 k d S4 with
        | none => rw [ep] at q3; exact False.elim q3
        | some T =>
          rw [ep] at q3
          cases x2 with
          | d z => cases ep
          | c l =>
            unfold putM at ep
            cases hds : S4[l]? with
            | none => simp only [hds] at ep; cases ep
            | some cc =>
              cases cc <;> (simp only [hds] at ep) <;> first | (cases ep; done) | skip
              rename_i ds
              cases k <;> first | (cases ep; done) | skip
              rename_i kk
              cases hj : ixN ds.length kk with
              | none => simp only [hj] at ep; cases ep
              | some j =>
                simp only [hj] at ep
                cases ep
                obtain ⟨pa, hp, rfl⟩ := r2
                have hp' : α3[l]? = some pa := e3.at_ hp
                cases R3.int r3 ek
                obtain ⟨xs, g1, g2⟩ := R4.at_ l pa _ hp' hds
                have g3 := R4.write (c' := .lst (ds.set j d)) (o := .lst (xs.set j v)) hp' hds rfl rfl ⟨_, upd_same, g2.set dv j⟩
                exact ⟨pa, xs, kk, j, rfl, rfl, g1, by rw [g2.length]; exact hj, q3 _ _ σ (e4.trans g3.2) g3.1 ((re3.mono e4).mono g3.2)⟩
/-! ### texts joined -/
def asStr : D → Option Str
  | .str x => some x
  | _ => none
theorem strs_dv {K : PySem.W.Frag} {F : Hp} : ∀ {vs : List V} {ds : List D} {ys : List Str}, DvAll K F vs ds → ds.mapM asStr = some ys → vs = ys.map V.str
  | _, _, _, .nil, e => by cases e; rfl
  | _, _, ys, .cons (d := d) (ds := ds) r t, e => by
    rw [List.mapM_cons] at e
    cases d with
    | str b =>
      cases em : ds.mapM asStr with
      | none => simp [asStr, em] at e
      | some bs' =>
        simp [asStr, em] at e
        subst e
        cases r
        rw [strs_dv t em]
        rfl
    | _ => cases e
def oJoin (a : Str) : D → Option D
  | .list xs => (xs.mapM asStr).bind fun ys => if (ys.map (·.length)).sum + ys.length * a.length ≤ 16777216 then some (.str (Txt.join a ys)) else none
  | .tuple xs => (xs.mapM asStr).bind fun ys => if (ys.map (·.length)).sum + ys.length * a.length ≤ 16777216 then some (.str (Txt.join a ys)) else none
  | _ => none
def dJoin (f g : Env' → M Val) : Env' → M Val := fun ρ => (f ρ).bind fun x S => match rd S x with
  | some (.str a) => (g ρ S).bind (on1 (oJoin a))
  | _ => .st
theorem ed_join (ho : ED X W o f) (he : ED X W e g) (hs : starEach [e] X.env = [(false, eval e X.env)] := by rfl) (hbase : attributeBase o "join" X.env (eval o X.env) = eval o X.env := by rfl) (hline : (apos.endLine == pos.line) = true := by rfl) :
    ED X W (.Call (.Attribute o "join" apos) [e] [] pos) (dJoin f g) := PE.imp (pe_join ho he hs hbase hline) fun σ H Q ⟨α, S, ρ, R, re, q⟩ => by
  refine ⟨α, S, ρ, R, re, After.imp (After.split (rel := RV X.K) q) (fun v H1 ⟨α1, S1, x, e1, R1, r1, q1⟩ => ?_) fun _ _ _ z => z⟩
  split at q1
  · rename_i a ea
    cases R1.str r1 ea
    refine ⟨⟨a, rfl⟩, α1, S1, ρ, R1, re.mono e1, After.imp (After.split (rel := RV X.K) q1) (fun u H2 ⟨α2, S2, y, e2, R2, r2, q2⟩ => ?_) fun _ _ _ z => z⟩
    obtain ⟨w, x, z, da, c, rfl, e3, Rw, rx, ea2, ec, ans⟩ := on1_ok (w := ⟨α2, S2, H2⟩) R2 r2 q2
    cases e3
    unfold oJoin at ec
    split at ec
    · obtain ⟨ys, e4, e5⟩ := Option.bind_eq_some_iff.mp ec
      split at e5
      · rename_i hz
        cases e5
        obtain ⟨p, xs, rfl, h1, g1⟩ := Rw.list rx ea2
        cases strs_dv g1 e4
        exact ⟨a, p, ys, rfl, rfl, .inl h1, hz, ans.here Rw (.str _)⟩
      · cases e5
    · obtain ⟨ys, e4, e5⟩ := Option.bind_eq_some_iff.mp ec
      split at e5
      · rename_i hz
        cases e5
        obtain ⟨p, xs, rfl, h1, g1, _⟩ := Rw.tuple rx ea2
        cases strs_dv g1 e4
        exact ⟨a, p, ys, rfl, rfl, .inr h1, hz, ans.here Rw (.str _)⟩
      · cases e5
    · cases ec
  · exact False.elim q1
/-! ### isinstance of a built-in class -/
def tyD : D → String
  | .none => "NoneType"
  | .bool _ => "bool"
  | .int _ => "int"
  | .str _ => "str"
  | .list _ => "list"
  | .tuple _ => "tuple"
  | .dict _ => "dict"
theorem tyx_dv {K : PySem.W.Frag} {H : Hp} {v : V} {d : D} (h : Dv K H v d) : TyX K H v (.type (tyD d)) := by
  cases h with
  | non => exact .base .non
  | bl b => exact .base (.bl b)
  | int i => exact .base (.int i)
  | str x => exact .base (.str x)
  | lst s _ =>
    rcases s with (s | ⟨o, s⟩) | s
    · exact .base (.lst s)
    · exact .base (.frz s)
    · obtain ⟨o, its, n, s1, s2, _⟩ := s
      exact .kList s1 s2
  | tup s _ =>
    rcases s with (s | ⟨o, s⟩) | s
    · exact .base (.tup s)
    · exact .fTuple s
    · obtain ⟨o, its, n, s1, s2, _⟩ := s
      exact .kTuple s1 s2
  | dct s _ => exact .base (.dK s)
/-- is it of the built-in class T? -/
def isB (T : String) (d : D) : Bool := match d with
  | .none => false
  | .bool _ => T == "bool" || T == "int"
  | .int _ => T == "int"
  | .str _ => T == "str"
  | .list _ => T == "list"
  | .tuple _ => T == "tuple"
  | .dict _ => T == "dict"
/-- the class's own name and the wanted one tell the answer -/
def isN (t T : String) : Bool := t == T || (t == "bool" && T == "int")
theorem kit_isN {t T : String} (ht : t ∈ ["NoneType", "bool", "int", "str", "list", "tuple", "dict"]) (hT : T ∈ ["bool", "int", "str", "list", "tuple", "dict"]) : kitB t T = some (isN t T) := by
  have h : (["NoneType", "bool", "int", "str", "list", "tuple", "dict"].all fun t => ["bool", "int", "str", "list", "tuple", "dict"].all fun T => decide (kitB t T = some (isN t T))) = true := by decide +kernel
  have h1 := List.all_eq_true.mp h t ht
  exact of_decide_eq_true (List.all_eq_true.mp h1 T hT)
theorem tyD_mem (d : D) : tyD d ∈ ["NoneType", "bool", "int", "str", "list", "tuple", "dict"] := by cases d <;> simp [tyD]
theorem isN_isB {T : String} (hT : T ∈ ["bool", "int", "str", "list", "tuple", "dict"]) (d : D) : isN (tyD d) T = isB T d := by
  simp only [List.mem_cons, List.not_mem_nil, or_false] at hT
  rcases hT with rfl | rfl | rfl | rfl | rfl | rfl <;> cases d <;> rfl
theorem kit_isB {T : String} (hT : T ∈ ["bool", "int", "str", "list", "tuple", "dict"]) (d : D) : kitB (tyD d) T = some (isB T d) := by
  rw [kit_isN (tyD_mem d) hT, isN_isB hT]
def oIsB (T : String) : D → Option D := fun d => some (.bool (isB T d))
theorem ed_isB {T : String} {x p2 p3} {xT : Str} (hT : T ∈ ["bool", "int", "str", "list", "tuple", "dict"]) (hm : X.mg "isinstance" = none) (hmT : X.mg xT = none) (hbT : bootBuiltins xT = some (.type T)) (ha : ED X W a f) (hx : x = Str.ofString "isinstance") (hg : Gl X x := by rfl) (hgT : Gl X xT := by rfl)
    (hnT : xT ≠ "__name__" := by decide) (hdT : (xT == ("__debug__" : Str)) = false := by decide)
    (he : starEach [a, .Name xT p3] X.env = (false, eval a X.env) :: starEach [.Name xT p3] X.env := by rfl) (he2 : starEach [.Name xT p3] X.env = (false, eval (.Name xT p3) X.env) :: starEach [] X.env := by rfl) (hpl : (backTo pos (starEach [.Name xT p3] X.env)).any (·.1) = false := by rfl) :
    ED X W (.Call (.Name x p2) [a, .Name xT p3] [] pos) (dFn1 (oIsB T) f) := by
  subst hx
  refine PE.imp (pe_callB (call_isi (X := X)) hg hm boot_isinstance' (pa_cons ha (pa_cons (pe_bltn hgT hmT hbT (v := .ty T) rfl hnT hdT) pa_nil he2) he) (by decide) (by decide) he hpl) fun σ H Q ⟨α, S, ρ, R, re, q⟩ => ⟨α, S, ρ, R, re, After.imp (After.split (rel := RV X.K) q) (fun v H1 ⟨α1, S1, x, e1, R1, r1, q1⟩ => ?_) fun _ _ _ z => z⟩
  obtain ⟨w, y, z, da, c, rfl, e3, Rw, rx, ea2, ec, ans⟩ := on1_ok (w := ⟨α1, S1, H1⟩) R1 r1 q1
  cases e3
  cases ec
  exact ⟨v, .ty T, .type (tyD da), .type T, _, rfl, .ty T, tyx_dv (Rw.any rx ea2), kit_ty (kit_isB hT da), ans.here Rw (.bl _)⟩
where boot_isinstance' : bootBuiltins "isinstance" = some (.builtin "isinstance") := by decide +kernel
end
end Zz
set_option maxRecDepth 100000
set_option maxHeartbeats 4000000
namespace Zz
open PySem PySem.Spec PyProof.Rows L2
/-! ### an except clause's test, whatever its form -/
/-- t, asked of an exception of the class c, answers f c; objects may be laid meanwhile -/
structure Tst (X : Cx) (t : Expr) (f : Value → Option Bool) : Prop where
  run : ∀ (a : Addr) (pn : List (Addr × Obj)) (σ : L2.St) (H : Hp) (s : Shared) (Q : Value → Shared → Prop) (E : Value → Shared → Prop) (c : Value) (b : Bool) (oe : Obj), Inv (X.suite a pn) [] σ H s → s.heap.get? a = some oe → oe.cls = c → f c = some b →
    (∀ u h', (∀ q o, s.heap.get? q = some o → h'.get? q = some o) → PySem.W.Looks (model X.prog X.w) h' (excMatches (.ref a) u) b → Q u { s with heap := h' }) → wpAny (model X.prog X.w) (X.A.mark (some (.ref a))) (eval t X.env) Q E s
section
variable {X : Cx} {x : Str} {c : Value} {p : Pos}
theorem names_run (hc : Names X x c) {a : Addr} {pn : List (Addr × Obj)} {σ : L2.St} {H : Hp} {s : Shared} {Q : Value → Shared → Prop} {E : Value → Shared → Prop} (I : Inv (X.suite a pn) [] σ H s) (q : Q c s) : wpAny (model X.prog X.w) (X.A.mark (some (.ref a))) (eval (.Name x p) X.env) Q E s := by
  obtain ⟨h1, h2, h3 | ⟨h3, h4, h5⟩⟩ := hc
  · exact ld_glob (X := X.suite a pn) I h1 h3 q h2
  · exact ld_blt (X := X.suite a pn) I h1 h3 h4 q h5 h2
theorem looksT {M : Model} {a : Addr} {c : Value} {oe : Obj} {h : Heap} (e : h.get? a = some oe) (ec : oe.cls = c) : PySem.W.Looks M h (typeOf (.ref a)) c := fun A Q E s k q => wpAny_typeOf_ref (k _ _ e) (by rw [ec]; exact q)
theorem tst_name (hc : Names X x c) : Tst X (.Name x p) (fun k => PySem.W.exmOne X.K k c) where
  run := fun a pn σ H s Q E k b oe I ha hk hf hq => names_run hc I (hq c s.heap (fun _ _ z => z) (PySem.W.exm_one I.kIn (looksT ha hk) hf))
variable {x1 x2 x3 : Str} {c1 c2 c3 : Value} {p1 p2 p3 tpos : Pos} {kk : Nat}
theorem tst_two (n1 : Names X x1 c1) (n2 : Names X x2 c2) (hs1 : starEach [.Name x1 p1, .Name x2 p2] X.env = (false, eval (.Name x1 p1) X.env) :: starEach [.Name x2 p2] X.env := by rfl) (hs2 : starEach [.Name x2 p2] X.env = (false, eval (.Name x2 p2) X.env) :: starEach [] X.env := by rfl) :
    Tst X (.Tuple [.Name x1 p1, .Name x2 p2] kk tpos) (fun k => PySem.W.exmAny X.K k [c1, c2]) where
  run := fun a pn σ H s Q E k b oe I ha hk hf hq => by
    refine wpAny_Tuple (wpAny_items_cons (names_run n1 I (wpAny_items_cons (names_run n2 I (wpAny_items_nil ⟨by show _ + 1 ≤ sizeLine; rw [sizeLine_eq]; simp, ?_⟩)) hs2)) hs1)
    have kp : ∀ q o, s.heap.get? q = some o → (s.heap.push { cls := .type "tuple", data := .seq [c1, c2].toArray }).get? q = some o := fun _ _ z => Heap.get?_push_of_some _ z
    exact hq _ _ kp (PySem.W.exm_tup2 (I.kIn.keeps kp) ((looksT ha hk).keeps kp) (Heap.get?_push_size s.heap rfl) hf)
theorem tst_three (n1 : Names X x1 c1) (n2 : Names X x2 c2) (n3 : Names X x3 c3) (hs1 : starEach [.Name x1 p1, .Name x2 p2, .Name x3 p3] X.env = (false, eval (.Name x1 p1) X.env) :: starEach [.Name x2 p2, .Name x3 p3] X.env := by rfl) (hs2 : starEach [.Name x2 p2, .Name x3 p3] X.env = (false, eval (.Name x2 p2) X.env) :: starEach [.Name x3 p3] X.env := by rfl) (hs3 : starEach [.Name x3 p3] X.env = (false, eval (.Name x3 p3) X.env) :: starEach [] X.env := by rfl) :
    Tst X (.Tuple [.Name x1 p1, .Name x2 p2, .Name x3 p3] kk tpos) (fun k => PySem.W.exmAny X.K k [c1, c2, c3]) where
  run := fun a pn σ H s Q E k b oe I ha hk hf hq => by
    refine wpAny_Tuple (wpAny_items_cons (names_run n1 I (wpAny_items_cons (names_run n2 I (wpAny_items_cons (names_run n3 I (wpAny_items_nil ⟨by show _ + 1 ≤ sizeLine; rw [sizeLine_eq]; simp, ?_⟩)) hs3)) hs2)) hs1)
    have kp : ∀ q o, s.heap.get? q = some o → (s.heap.push { cls := .type "tuple", data := .seq [c1, c2, c3].toArray }).get? q = some o := fun _ _ z => Heap.get?_push_of_some _ z
    exact hq _ _ kp (PySem.W.exm_tup3 (I.kIn.keeps kp) ((looksT ha hk).keeps kp) (Heap.get?_push_size s.heap rfl) hf)
end
/-! ### an exception caught and kept -/
theorem excO_ok {P : Program} {w : World} {H : Hp} {h : Heap} {a : Addr} {cls : Value} {d : Option Addr} {oe : Obj} {vs : Array Value} (e : h.get? a = some oe) (z : Zc cls d oe) (q : oe.data = .fields vs) : ObjOk P w H h a (ExcO cls d a) :=
  ⟨⟨oe, vs, e, z, q⟩, ⟨oe, e⟩, fun _ _ ⟨o, v, h1, h2⟩ k => ⟨o, v, k o h1, h2⟩⟩
theorem flying_keep {B h h' : Heap} {l : List Env} {a : Addr} {Z : Obj → Prop} (f : HandSPX.FlyingZ B l a Z h) (k : ∀ q o, h.get? q = some o → h'.get? q = some o) : HandSPX.FlyingZ B l a Z h' := by
  obtain ⟨f1, f2, f3, oe, vs, T, oT, ts, g1, g2, g3, g4, g5, g6, g7, g8, g9⟩ := f
  exact ⟨fun b o e => k b o (f1 b o e), f2, Heap.FunFrames.of_keeps (fun b o e _ => ⟨o, k b o e, rfl⟩) f3, oe, vs, T, oT, ts, k _ _ g1, g2, g3, g4, g5, g6, k _ _ g7, g8, g9⟩
/-- what the clause wishes of an exception of the body: slot i is the clause's name, slot j keeps it -/
def wKeep (f : Value → Option Bool) (i j : Nat) (Wout : WX) (D : Ends) : WX := fun cls d σ H =>
  ∃ b, f cls = some b ∧ (b = true → ∀ a, H a = none → D.nx (((σ.set i (some (.ref a))).set j (some (.ref a))).set i none) (upd H a (ExcO cls d a))) ∧ (b = false → Wout cls d σ H)
/-- an object that no one tracked is tracked -/
theorem Inv.track {X : Cx} {pins : List (Addr × Obj)} {σ : L2.St} {H : Hp} {s : Shared} {a : Addr} {o : HO} (I : Inv X pins σ H s) (na : H a = none) (n0 : X.s_0.heap.get? a = none) (nL : a ≠ X.env.locals) (nc : ∀ x c, X.env.cells.lookup x = some c → c ≠ a) (np : ∀ p ∈ X.pn ++ pins, p.1 ≠ a)
    (new : ObjOk X.prog X.w (upd H a o) s.heap a o) : Inv X pins σ (upd H a o) s where
  ok := I.ok
  os := I.os
  bare := I.bare
  base := by
    have ne : ∀ {b : Addr} {u : Obj}, X.s_0.heap.get? b = some u → b ≠ a := fun {b u} e z => by rw [z, n0] at e; cases e
    refine ⟨I.base.keep, I.base.slot, fun b u e n q => ?_, I.base.there, fun b xs e => ?_, fun b u v e => ?_, fun b ps e => ?_⟩
    · rw [upd_ne (ne e)]; exact I.base.free b u e n q
    · have z := I.base.tups b xs e
      rw [upd_ne (ne_of_none z na)]; exact z
    · have z := I.base.frzs b u v e
      rw [upd_ne (ne_of_none z na)]; exact z
    · obtain ⟨m, z⟩ := I.base.tbls b ps e
      exact ⟨m, by rw [upd_ne (ne_of_none z na)]; exact z⟩
  loc := I.loc
  cell := I.cell
  free := by rw [upd_ne nL.symm]; exact I.free
  freeC := fun x c e => by rw [upd_ne (nc x c e)]; exact I.freeC x c e
  pin := fun p hp => by
    obtain ⟨h1, h2, h3⟩ := I.pin p hp
    exact ⟨h1, by rw [upd_ne (np p hp)]; exact h2, h3⟩
  hok := HOk.laidN I.hok (fun _ _ z => z) na new
  len := I.len
section
variable {X : Cx} {n m : Str} {i j : Nat} {body : List Stmt} {t : Expr} {f : Value → Option Bool} {pm pn' sp pos pos' : Pos} {tb : WX → TS} {Wout : WX}
theorem ps_try_keep (hs : X.stack = X.env :: X.outer) (hf : X.env.frame = some X.env.locals) (hex : X.ex = []) (hN : X.N.Nodup) (hi : X.N[i]? = some n) (hln : X.env.kindOf n = some .local) (hvn : Vis X.env.scope n) (hj : X.N[j]? = some m) (hlm : X.env.kindOf m = some .local) (hij : i ≠ j) (ht : Tst X t f) (tk : Takes X Wout)
    (hdn : (n == ("__debug__" : Str)) = false := by decide) (hcn : (n == ("__classdict__" : Str)) = false := by decide) (hsw : swapsWith (.Name n pn') (some (.Name m pm)) sp.line X.env = pure false := by rfl)
    (hb : ∀ (W : WX) (pn : List (Addr × Obj)) (xe : Value → Shared → Prop), Takes (X.tr pn xe) W → PassesOwn (model X.prog X.w) X.A X.env xe → PSs (X.tr pn xe) body (tb W)) :
    PS X (.Try body [.ExceptHandler (some t) (some n) [.Assign [.Name m pm] (.Name n pn') sp] pos'] [] [] pos) (fun D σ H => tb (wKeep f i j Wout D) D σ H) := by
  refine ⟨fun pins s σ H D I h => wpAny_Try_except ?_⟩
  have hfr : X.A.frames = some (X.env :: X.outer) := by rw [I.ok.frames, hs]
  have out := (hb (wKeep f i j Wout D) (X.pn ++ pins) (fun e s₁ => wpAny (model X.prog X.w) X.A (noteFrame e X.env) (fun _ s₂ => wpAny (model X.prog X.w) X.A (setFlight e none) (fun _ s₃ =>
    wpAny (model X.prog X.w) X.A (handleBy e X.env [.ExceptHandler (some t) (some n) [.Assign [.Name m pm] (.Name n pn') sp] pos']) (SP X pins D) X.xe s₃) X.xe s₂) X.xe s₁) (fun u s1 air => ?_) PassesOwn.looking).run [] s σ H D (I.toTry _) h
  · refine wpAny_mono out (fun fl s1 told => ?_) fun _ _ z => z
    match fl, told with
    | .next, ⟨σ1, H1, J, q⟩ => exact wpAny_execs_nil ⟨σ1, H1, J.ofTry I.ok, q⟩
    | .brk, ⟨σ1, H1, J, q⟩ => exact ⟨σ1, H1, J.ofTry I.ok, q⟩
    | .cont, ⟨σ1, H1, J, q⟩ => exact ⟨σ1, H1, J.ofTry I.ok, q⟩
    | .ret u, ⟨v, σ1, H1, J, r, q⟩ => exact ⟨v, σ1, H1, J.ofTry I.ok, r, q⟩
  -- the body has raised
  obtain ⟨a, B, sI, pins', σ1, H1, cls, d, rfl, J0, nb, up, sky, na, os, ag, b, hb1, hyes, hno⟩ := air
  have J : Inv X pins σ1 H1 sI := J0.ofTry I.ok
  show wpAny (model X.prog X.w) X.A (noteFrame (.ref a) X.env) _ _ _
  refine Sky.land Zc.steady hfr hf (by rw [← hs]; exact sky) fun h3 fl up3 => ?_
  have J3 : Inv X pins σ1 H1 { s1 with heap := h3 } := J.landed nb fl.1 (up.trans up3) os ag
  obtain ⟨oe, vs, hoe, hz, hd⟩ := fl.there
  have nfr : a ∉ frs (X.env :: X.outer) := fun hm => by
    obtain ⟨_, o', e', hnf⟩ := fl.2.2.1.mem hm
    rw [hoe] at e'
    cases e'
    exact hnf _ hd
  have nL : a ≠ X.env.locals := fun z => nfr (List.mem_filterMap.mpr ⟨X.env, List.mem_cons_self, by rw [hf, z]⟩)
  have nF : a ∉ X.fs := fun hm => by
    obtain ⟨e, he, q⟩ := List.mem_filterMap.mp hm
    exact nfr (List.mem_filterMap.mpr ⟨e, List.mem_cons_of_mem _ he, q⟩)
  have nI : sI.heap.get? a = none := by
    cases e : sI.heap.get? a with
    | none => rfl
    | some o =>
      have z := nb a o e (by rw [hs]; exact nfr)
      rw [fl.2.1] at z
      cases z
  refine PySem.W.exc_clause_as (ht.run a ((a, oe) :: (X.pn ++ pins)) σ1 H1 _ _ _ cls b oe (J3.suite hoe hd na nL nF) hoe hz.1 hb1 fun u h4 k4 look => ⟨b, look, ?_⟩)
  have fl4 := flying_keep fl k4
  have up4 : sI.heap.UpToSlots h4 := (up.trans up3).trans (Heap.UpToSlots.of_keeps k4)
  cases b with
  | true =>
    rw [if_pos rfl]
    refine HandSPX.lands_againZ (s := { s1 with heap := h4 }) fl4 fun h5 fl5 up5 => ?_
    have J5 : Inv X pins σ1 H1 { s1 with heap := h5 } := J.landed nb fl5.1 (up4.trans up5) os ag
    obtain ⟨oe5, vs5, hoe5, hz5, hd5⟩ := fl5.there
    have S5 := J5.suite hoe5 hd5 na nL nF
    refine store_ok (X := X.suite a ((a, oe5) :: (X.pn ++ pins))) (v := .ref a) S5 hN hi (.inl hln) rfl (fun s6 S6 => ?_) (.inr hln)
    have suite : PSs (X.suite a ((a, oe5) :: (X.pn ++ pins))) [.Assign [.Name m pm] (.Name n pn') sp] (tAsg (tVar i) (gName j)) := pss_one (ps_set (X := X.suite a ((a, oe5) :: (X.pn ++ pins))) hN hj (.inl hlm) (pe_var (X := X.suite a ((a, oe5) :: (X.pn ++ pins))) hi hvn hdn hcn) hsw (.inr hlm))
    have hlen : i < σ1.length := by rw [J.len]; exact (List.getElem?_eq_some_iff.mp hi).1
    refine wpAny_mono (suite.run [] s6 _ H1 { nx := fun σ2 H2 => σ2 = (σ1.set i (some (.ref a))).set j (some (.ref a)) ∧ H2 = H1, rt := fun _ _ => False } S6 ⟨.ref a, List.getElem?_set_self hlen, rfl, rfl⟩) (fun fl7 s7 told => ?_) fun _ _ z => False.elim z
    match fl7, told with
    | .next, ⟨σ7, H7, S7, e7, e8⟩ =>
      subst e7 e8
      refine gone_ok (X := X.suite a ((a, oe5) :: (X.pn ++ pins))) S7 hN hi hln fun s8 S8 => ?_
      have pa := (S8.pin (a, oe5) (by simp)).1
      have J8 : Inv X pins (((σ1.set i (some (.ref a))).set j (some (.ref a))).set i none) H7 s8 := S8.unsuite I.ok
      refine ⟨_, _, Inv.track J8 na ?_ nL (fun x c e z => ?_) (fun p hp z => ?_) (excO_ok (cls := cls) (d := d) pa hz5 hd5), hyes rfl a na⟩
      · cases e : X.s_0.heap.get? a with
        | none => rfl
        | some o =>
          obtain ⟨o', q⟩ := J.base.there a o e (by rw [hex]; exact fun z => nomatch z)
          rw [nI] at q
          cases q
      · obtain ⟨v, o, ho, hv⟩ := J8.cell x c e
        have pa' : s8.heap.get? a = some oe5 := pa
        rw [z, pa'] at ho
        cases ho
        rw [hd5] at hv
        cases hv
      · have q := (J.pin p hp).1
        rw [z, nI] at q
        cases q
    | .brk, ⟨_, _, _, q⟩ => exact False.elim q
    | .cont, ⟨_, _, _, q⟩ => exact False.elim q
    | .ret u, ⟨_, _, _, _, _, q⟩ => exact False.elim q
  | false =>
    rw [if_neg Bool.false_ne_true]
    refine wpAny_handleBy_nil ?_
    obtain ⟨k1, k2, k3, oe4, vs4, T, oT, ts', he, hz4, hd4, h1, hr⟩ := id fl4
    have fin : wpAny (model X.prog X.w) X.A (setFlight (.ref a) X.env.frame) (fun _ s4 => wpAny (model X.prog X.w) X.A (throw (.ref a) : Sem Flow) (SP X pins D) X.xe s4) X.xe { s1 with heap := h4 } := by
      rw [hf]
      refine HandSPX.setFlight_upZ (s := { s1 with heap := h4 }) fl4 fun h5 held up5 => wpAny_throw (tk _ _ ?_)
      exact ⟨a, B, sI, pins, σ1, H1, cls, d, rfl, J, nb, up4.trans up5, .inr (.inr (by rw [hs]; exact held)), na, os, ag, hno rfl⟩
    unfold PySem.passOn
    refine wpAny_bind (wpAny_field (s := { s1 with heap := h4 }) he hd4 h1 ?_)
    rw [if_neg (show ¬ ((Value.ref T == Value.none) = true) from by simp)]
    first
      | exact wpAny_bind (wpAny_pure (wpAny_bind fin))
      | exact wpAny_bind fin
end
end Zz
set_option maxRecDepth 100000
set_option maxHeartbeats 4000000
namespace Zz
open PySem PySem.Spec PyProof.Rows L2
section
variable {X : Cx} {n : Nat} {W : WX} {pos p p2 p3 : Pos} {a b e : Expr} {es : List Expr} {f g h : Env' → M Val} {x : Str}
/-! ### raise -/
def sRaise (nm : Str) (g : Env' → M (List Val)) : SD := fun ρ S => (g ρ S).then_ ρ fun vs S' => if vs.length ≤ 16777216 then .ex ⟨nm, []⟩ ρ S' else .st
theorem sd_raise {C : Addr} {bmB : List Value} {B newId initId : String} {g : Env' → M (List Val)} (K : CxOk X n) (tk : Takes X W) (F : ExcBaseFacts B newId initId bmB) (q : PySem.W.excIn X.K C bmB newId = true) (gC : X.mg x = some (.ref C)) (kC : PySem.W.keepIn X.K (.ref C) = true) (r : Raises X (.ref C)) (ha : AD X W (e :: es) g) (hg : Gl X x := by rfl) (hdb : (x == ("__debug__" : Str)) = false := by decide)
    (he : starEach (e :: es) X.env = (false, eval e X.env) :: starEach es X.env := by rfl) (hpl : (backTo p2 (starEach es X.env)).any (·.1) = false := by rfl) : StD X W (.Raise (some (.Call (.Name x p) (e :: es) [] p2)) none pos) (sRaise x g) :=
  PS.imp (ps_raise K.hc tk (pmk_ownA F q gC kC r hg ha hdb he hpl)) fun D σ H ⟨α, S, ρ, R, re, q⟩ => ⟨α, S, ρ, R, re, After.imp (AfterS.split (rel := RVs X.K) q re) (fun vs H1 ⟨α1, S1, xs, e1, R1, r1, re1, q1⟩ => by
    split at q1
    · rename_i hz
      exact ⟨by rw [sizeLine_eq, r1.length]; exact hz, q1 α1 H1 σ _ _ (Ext.refl _) R1 re1 ⟨C, gC, rfl, rfl⟩⟩
    · exact False.elim q1) fun _ _ _ z => z⟩
/-! ### try: .. except T as n: m = n -/
def sKeep (body : SD) (f : Str → Option Bool) (i j : Nat) : SD := fun ρ S => match body ρ S with
  | .ex y ρ' S' => (match f y.cls with
    | some true => .nx (((ρ'.set i (some (.c S'.length))).set j (some (.c S'.length))).set i none) (S' ++ [.exc y])
    | some false => .ex y ρ' S'
    | none => .st)
  | .st => .st
  | .nx ρ' S' => .nx ρ' S'
  | .rt v S' => .rt v S'
  | .bk ρ' S' => .bk ρ' S'
  | .ct ρ' S' => .ct ρ' S'
theorem Rep.cellx {K : PySem.W.Frag} {mg : Str → Option Value} {w : Wd} (R : Rep K mg w) {q : Addr} (hp : w.H q = Option.none) {o : HO} {c : Cell} (hc : c.mut = false) (ok : ∀ F, Same w.F F → F q = some o → CellOk K mg F (upd w.H q o) q c) :
    Rep K mg ⟨w.α ++ [q], w.S ++ [c], upd w.H q o⟩ ∧ Ext w ⟨w.α ++ [q], w.S ++ [c], upd w.H q o⟩ := by
  have hm := R.fresh hp
  have hnot : q ∉ w.α := fun z => by
    obtain ⟨o, e⟩ := R.al q z
    rw [hp] at e; cases e
  have em : Wd.muts ⟨w.α ++ [q], w.S ++ [c], upd w.H q o⟩ = w.muts := by
    rw [muts_snoc R.len, hc]; simp; rfl
  have eF : ∀ u, Wd.F ⟨w.α ++ [q], w.S ++ [c], upd w.H q o⟩ u = if u ∈ w.muts then Option.none else upd w.H q o u := fun u => by
    unfold Wd.F
    rw [em]
  have e : Same w.F (Wd.F ⟨w.α ++ [q], w.S ++ [c], upd w.H q o⟩) := fun b u h => by
    rw [eF]
    unfold Wd.F at h
    split at h
    · cases h
    · rename_i hb
      rw [if_neg hb, upd_ne (ne_of_none h hp)]
      exact h
  refine ⟨⟨by simp [R.len], ?_, fun b hb => ?_, fun l b c' h1 h2 => ?_⟩, List.prefix_append _ _, e⟩
  · exact List.nodup_append.mpr ⟨R.nd, by simp, fun b hb b' hb' z => by
      have : b' = q := by simpa using hb'
      subst this; subst z; exact hnot hb⟩
  · rcases List.mem_append.mp hb with hb | hb
    · obtain ⟨u, hu⟩ := R.al b hb
      exact ⟨u, (upd_ne (ne_of_none hu hp)).trans hu⟩
    · have z : b = q := by simpa using hb
      subst z
      exact ⟨o, upd_same⟩
  · by_cases hl : l < w.α.length
    · have h1' : w.α[l]? = some b := by
        have : (w.α ++ [q])[l]? = some b := h1
        rwa [List.getElem?_append_left hl] at this
      have h2' : w.S[l]? = some c' := by
        have : (w.S ++ [c])[l]? = some c' := h2
        rwa [List.getElem?_append_left (by rw [← R.len]; exact hl)] at this
      exact (R.at_ l b c' h1' h2').mono e fun m => upd_ne fun z => hm (by rw [← z]; exact (mem_muts R.len).mpr ⟨l, c', h1', h2', m⟩)
    · have h1' : ([q] : List Addr)[l - w.α.length]? = some b := by
        have : (w.α ++ [q])[l]? = some b := h1
        rwa [List.getElem?_append_right (by omega)] at this
      have h2' : ([c] : List Cell)[l - w.S.length]? = some c' := by
        have : (w.S ++ [c])[l]? = some c' := h2
        rwa [List.getElem?_append_right (by rw [← R.len]; omega)] at this
      obtain ⟨h3, _⟩ := List.getElem?_eq_some_iff.mp h1'
      have hz : l - w.α.length = 0 := by simpa using h3
      have hz2 : l - w.S.length = 0 := by rw [← R.len]; exact hz
      rw [hz] at h1'; rw [hz2] at h2'
      have e1 : q = b := by simpa using h1'
      have e2 : c = c' := by simpa using h2'
      subst e1 e2
      refine ok _ e ?_
      rw [eF, if_neg hm, upd_same]
theorem sd_keep {nn m : Str} {i j : Nat} {body : List Stmt} {t : Expr} {F : Value → Option Bool} {fe : Str → Option Bool} {fb : SD} {pm pn' sp pos' : Pos} (hs : X.stack = X.env :: X.outer) (hf : X.env.frame = some X.env.locals) (hex : X.ex = []) (hN : X.N.Nodup) (tk : Takes X W) (ht : Tst X t F)
    (hF : ∀ y b, fe y = some b → ∀ C, X.mg y = some (.ref C) → F (.ref C) = some b) (hb : ∀ (W : WX) (pn : List (Addr × Obj)) (xe : Value → Shared → Prop), Takes (X.tr pn xe) W → PassesOwn (model X.prog X.w) X.A X.env xe → BkD (X.tr pn xe) W body fb)
    (hi : X.N[i]? = some nn := by rfl) (hln : X.env.kindOf nn = some .local := by rfl) (hvn : Vis X.env.scope nn := by first | exact Or.inl rfl | exact Or.inr (Or.inl rfl) | exact Or.inr (Or.inr rfl)) (hj : X.N[j]? = some m := by rfl) (hlm : X.env.kindOf m = some .local := by rfl) (hij : i ≠ j := by decide)
    (hdn : (nn == ("__debug__" : Str)) = false := by decide) (hcn : (nn == ("__classdict__" : Str)) = false := by decide) (hsw : swapsWith (.Name nn pn') (some (.Name m pm)) sp.line X.env = pure false := by rfl) :
    StD X W (.Try body [.ExceptHandler (some t) (some nn) [.Assign [.Name m pm] (.Name nn pn') sp] pos'] [] [] pos) (sKeep fb fe i j) :=
  PS.imp (ps_try_keep (tb := fun W => tS X.K X.mg W fb) hs hf hex hN hi hln hvn hj hlm hij ht tk hdn hcn hsw hb) fun D σ H ⟨α, S, ρ, R, re, q⟩ => ⟨α, S, ρ, R, re, by
    unfold sKeep at q
    cases er : fb ρ S with
    | st => rw [er] at q; exact q
    | nx ρ' S' => rw [er] at q; exact q
    | bk ρ' S' => rw [er] at q; exact q
    | ct ρ' S' => rw [er] at q; exact q
    | rt v S' => rw [er] at q; exact q
    | ex y ρ' S' =>
      rw [er] at q
      dsimp only at q
      intro α1 H1 σ1 cls d e1 R1 re1 rx
      obtain ⟨C, hC, rfl, hfs⟩ := rx
      cases ef : fe y.cls with
      | none => rw [ef] at q; exact False.elim q
      | some b =>
        rw [ef] at q
        refine ⟨b, hF _ _ ef C hC, fun hbt a na => ?_, fun hbf => ?_⟩
        · subst hbt
          obtain ⟨R2, e2⟩ := R1.cellx na (o := ExcO (.ref C) d a) (c := .exc y) rfl fun F eF h1 => ⟨C, d, hC, h1, hfs.mono eF⟩
          have ra : RV X.K ⟨α1 ++ [a], S' ++ [.exc y], upd H1 a (ExcO (.ref C) d a)⟩ (.ref a) (.c S'.length) := ⟨a, by
            show (α1 ++ [a])[S'.length]? = some a
            rw [List.getElem?_append_right (by rw [R1.len]; exact Nat.le_refl _), R1.len, Nat.sub_self]; rfl, rfl⟩
          exact q _ _ _ (e1.trans e2) R2 ((((re1.mono e2).set ra i).set ra j).del i none)
        · subst hbf
          exact q _ _ _ _ _ e1 R1 re1 ⟨C, hC, rfl, hfs⟩⟩
/-! ### e is None, e an exception or data -/
def noneV (S : List Cell) : Val → Option Bool
  | .d d => some (isNon d)
  | .c l => if l < S.length then some false else none
def dNone (k : Bool) (f : Env' → M Val) : Env' → M Val := fun ρ => (f ρ).bind fun x S => match noneV S x with
  | some b => .ok (.d (.bool (b == k))) S
  | none => .st
theorem noneV_ok {K : PySem.W.Frag} {mg : Str → Option Value} {w : Wd} {v : V} {x : Val} {b : Bool} (R : Rep K mg w) (r : RV K w v x) (h : noneV w.S x = some b) : decide (v = V.non) = b := by
  cases x with
  | d d =>
    cases h
    exact dv_non r
  | c l =>
    obtain ⟨a, _, rfl⟩ := r
    have h' : (if l < w.S.length then some false else none) = some b := h
    by_cases z : l < w.S.length
    · rw [if_pos z] at h'
      cases h'
      simp
    · rw [if_neg z] at h'
      cases h'
theorem noneQ {σ : L2.St} {H : Hp} {Q : VK} (q : tD X.K X.mg W (dNone true f) σ H Q) : tOp (fun x y H Q => y = .non ∧ Q (.bl (decide (x = .non))) H) (tD X.K X.mg W f) (tC .non) σ H Q := by
  obtain ⟨α, S, ρ, R, re, q⟩ := q
  refine ⟨α, S, ρ, R, re, After.imp (After.split (rel := RV X.K) q) (fun v H1 ⟨α1, S1, x, e1, R1, r1, q1⟩ => ?_) fun _ _ _ z => z⟩
  cases en : noneV S1 x with
  | none => rw [en] at q1; exact False.elim q1
  | some b =>
    rw [en] at q1
    refine ⟨rfl, ?_⟩
    rw [noneV_ok (w := ⟨α1, S1, H1⟩) R1 r1 en]
    dsimp only at q1
    have z : (b == true) = b := by cases b <;> rfl
    rw [z] at q1
    exact q1 _ _ _ (Ext.refl _) R1 (.bl b)
theorem nonneQ {σ : L2.St} {H : Hp} {Q : VK} (q : tD X.K X.mg W (dNone false f) σ H Q) : tOp (fun x y H Q => y = .non ∧ Q (.bl (!decide (x = .non))) H) (tD X.K X.mg W f) (tC .non) σ H Q := by
  obtain ⟨α, S, ρ, R, re, q⟩ := q
  refine ⟨α, S, ρ, R, re, After.imp (After.split (rel := RV X.K) q) (fun v H1 ⟨α1, S1, x, e1, R1, r1, q1⟩ => ?_) fun _ _ _ z => z⟩
  cases en : noneV S1 x with
  | none => rw [en] at q1; exact False.elim q1
  | some b =>
    rw [en] at q1
    refine ⟨rfl, ?_⟩
    rw [noneV_ok (w := ⟨α1, S1, H1⟩) R1 r1 en]
    dsimp only at q1
    have z : (b == false) = !b := by cases b <;> rfl
    rw [z] at q1
    exact q1 _ _ _ (Ext.refl _) R1 (.bl _)
theorem ed_isno (ha : ED X W a f) {j} : ED X W (.Compare a [.Is] [.Constant .none j p] pos) (dNone true f) := PE.imp (pe_cmpR op_isN ha pe_non (nomark _)) fun _ _ _ q => noneQ q
theorem ed_isnotno (ha : ED X W a f) {j} : ED X W (.Compare a [.IsNot] [.Constant .none j p] pos) (dNone false f) := PE.imp (pe_cmpR op_notN ha pe_non (nomark _)) fun _ _ _ q => nonneQ q
theorem td_isno (ha : ED X W a f) {j} : TDt X W (.Compare a [.Is] [.Constant .none j p] pos) (toB (dNone true f)) := PT.imp (pt_cmpR op_isN ha pe_non (nomark _)) fun _ _ _ q => noneQ (toBQ q)
theorem td_isnotno (ha : ED X W a f) {j} : TDt X W (.Compare a [.IsNot] [.Constant .none j p] pos) (toB (dNone false f)) := PT.imp (pt_cmpR op_notN ha pe_non (nomark _)) fun _ _ _ q => nonneQ (toBQ q)
/-! ### isinstance of an exception that was caught -/
/-- the classes that are asked for, as they stand in the heap; for one class, or a tuple of them -/
def onX (f : Str → Option Bool) : Val → M Val := fun x S => match x with
  | .c l => (match S[l]? with
    | some (.exc y) => (match f y.cls, y.fs with
      | some b, [] => .ok (.d (.bool b)) S
      | _, _ => .st)
    | _ => .st)
  | .d _ => .st
def clsX (f : Str → Option Bool) (g : Env' → M Val) : Env' → M Val := fun ρ => (g ρ).bind (onX f)
theorem clsXQ {w : Wd} {v : V} {y : Val} {fx : Str → Option Bool} {Q : VK} {E : XK} (R : Rep X.K X.mg w) (r : RV X.K w v y) (q : After X.K X.mg (RV X.K) w (onX fx y w.S) Q E) : ∃ (l : Nat) (yy : Ex) (b : Bool) (C a : Addr), fx yy.cls = some b ∧ X.mg yy.cls = some (.ref C) ∧ v = .ref a ∧ w.F a = some (ExcO (.ref C) none a) ∧ After X.K X.mg (RV X.K) w (.ok (.d (.bool b)) w.S) Q E ∧ y = .c l := by
  unfold onX at q
  cases y with
  | d z => exact False.elim q
  | c l =>
    obtain ⟨a, ha, rfl⟩ := r
    cases es : w.S[l]? with
    | none => simp only [es] at q; exact False.elim q
    | some c =>
      cases c with
      | lst ds => simp only [es] at q; exact False.elim q
      | dct ds => simp only [es] at q; exact False.elim q
      | old ds => simp only [es] at q; exact False.elim q
      | exc yy =>
        simp only [es] at q
        obtain ⟨C, d, h1, h2, h3⟩ := R.at_ l a _ ha es
        cases ef : fx yy.cls with
        | none => simp only [ef] at q; exact False.elim q
        | some b =>
          cases efs : yy.fs with
          | cons u v => simp only [ef, efs] at q; exact False.elim q
          | nil =>
            simp only [ef, efs] at q
            rw [efs] at h3
            cases (show d = none from h3)
            exact ⟨l, yy, b, C, a, ef, h1, rfl, h2, q, rfl⟩
/-- an exception's class, as isinstance asks for it -/
theorem kit_exc {pins : List (Addr × Obj)} {σ : L2.St} {H : Hp} {s : Shared} {C a : Addr} (I : Inv X pins σ H s) (hc : ExcC X.K C) (e : H a = some (ExcO (.ref C) none a)) : ∃ P : Heap → Prop, PySem.W.KitX X.K (.ref a) (.ref C) P ∧ P s.heap := by
  obtain ⟨⟨oe, vs, h1, h2, h3⟩, _⟩ := (show ObjOk X.prog X.w H s.heap a (ExcO (.ref C) none a) from I.hok a _ e)
  refine ⟨_, PySem.W.handS_kitx_exc hc.hg hc.hk hc.hs hc.hd hc.ha hc.hn hc.ht hc.hm (x := a) (ox := oe), ?_⟩
  obtain ⟨oc, od, oda, osl⟩ := oe
  obtain ⟨z1, z2⟩ := h2
  dsimp only at z1 z2 h3
  subst z1 z2 h3
  exact ⟨h1, rfl, rfl, trivial⟩
/-- isinstance(e, C) -/
theorem ed_isX {c : V} {u : Value} {fx : Str → Option Bool} (hm : X.mg "isinstance" = none) (ha : ED X W a f) (hT : PE X b (tC c)) (kc : ClsV c u) (hF : ∀ y k, fx y = some k → ∀ C, X.mg y = some (.ref C) → ExcC X.K C ∧ PySem.W.kitOne X.K (.ref C) u = some k) (hx : x = Str.ofString "isinstance") (hg : Gl X x := by rfl)
    (he : starEach [a, b] X.env = (false, eval a X.env) :: starEach [b] X.env := by rfl) (he2 : starEach [b] X.env = (false, eval b X.env) :: starEach [] X.env := by rfl) (hpl : (backTo pos (starEach [b] X.env)).any (·.1) = false := by rfl) :
    ED X W (.Call (.Name x p2) [a, b] [] pos) (clsX fx f) := by
  subst hx
  have hc : CallR X (.builtin "isinstance") (fun xs H Q => ∃ C a k, xs = [.ref a, c] ∧ ExcC X.K C ∧ PySem.W.kitOne X.K (.ref C) u = some k ∧ H a = some (ExcO (.ref C) none a) ∧ Q (.bl k) H) := by
    intro pins s σ H xs us Q I r h
    obtain ⟨C, a, k, rfl, h1, h2, h3, q⟩ := h
    obtain ⟨u1, u2, rfl, r1, r2⟩ := vals2 r
    have e2 := kc.eq r2
    subst e2
    cases (show u1 = Value.ref a from r1)
    obtain ⟨P, Z, p⟩ := kit_exc I h1 h3
    exact PySem.W.kia_one Z I.kIn p h2 (fun z => nomatch z) fun tk => ⟨.bl k, H, I.tok tk, rfl, q⟩
  refine PE.imp (pe_callB hc hg hm (by decide +kernel) (pa_cons ha (pa_cons hT pa_nil he2) he) (by decide) (by decide) he hpl) fun σ H Q ⟨α, S, ρ, R, re, q⟩ => ⟨α, S, ρ, R, re, After.imp (After.split (rel := RV X.K) q) (fun v H1 ⟨α1, S1, y, e1, R1, r1, q1⟩ => ?_) fun _ _ _ z => z⟩
  obtain ⟨l, yy, k, C, a, h1, h2, rfl, h3, q2, _⟩ := clsXQ (w := ⟨α1, S1, H1⟩) (fx := fx) R1 r1 q1
  obtain ⟨g1, g2⟩ := hF _ _ h1 C h2
  exact ⟨C, a, k, rfl, g1, g2, Wd.F_same _ _ _ h3, q2 _ _ _ (Ext.refl _) R1 (.bl k)⟩
/-- isinstance(e, (C, ..)) -/
theorem ed_isXs {cs : List V} {us : List Value} {fx : Str → Option Bool} {kk : Nat} (hm : X.mg "isinstance" = none) (ha : ED X W a f) (hT : PA X es (fun _ H Q => Q cs H)) (kc : Paired ClsV cs us) (hF : ∀ y k, fx y = some k → ∀ C, X.mg y = some (.ref C) → ExcC X.K C ∧ PySem.W.kitAny X.K (.ref C) us = some k) (hsz : cs.length ≤ 16777216) (hx : x = Str.ofString "isinstance") (hg : Gl X x := by rfl)
    (he : starEach [a, .Tuple es kk p3] X.env = (false, eval a X.env) :: starEach [.Tuple es kk p3] X.env := by rfl) (he2 : starEach [.Tuple es kk p3] X.env = (false, eval (.Tuple es kk p3) X.env) :: starEach [] X.env := by rfl) (hpl : (backTo pos (starEach [.Tuple es kk p3] X.env)).any (·.1) = false := by rfl) :
    ED X W (.Call (.Name x p2) [a, .Tuple es kk p3] [] pos) (clsX fx f) := by
  subst hx
  have hc : CallR X (.builtin "isinstance") (fun xs H Q => ∃ C a k tp, xs = [.ref a, .ref tp] ∧ H tp = some (.tup cs) ∧ ExcC X.K C ∧ PySem.W.kitAny X.K (.ref C) us = some k ∧ H a = some (ExcO (.ref C) none a) ∧ Q (.bl k) H) := by
    intro pins s σ H xs vs Q I r h
    obtain ⟨C, a, k, tp, rfl, h0, h1, h2, h3, q⟩ := h
    obtain ⟨u1, u2, rfl, r1, r2⟩ := vals2 r
    cases (show u1 = Value.ref a from r1)
    cases (show u2 = Value.ref tp from r2)
    obtain ⟨P, Z, p⟩ := kit_exc I h1 h3
    obtain ⟨_, its, rv, o, g1, g2, n, g3⟩ := (show ObjOk X.prog X.w H s.heap tp (.tup cs) from I.hok tp _ h0)
    have e3 := ClsV.all kc rv
    subst e3
    obtain ⟨oc, od, dt, sl⟩ := o
    simp only at g2 g3
    subst g2 g3
    exact PySem.W.kia_tup Z I.kIn p g1 h2 (fun z => nomatch z) fun tk => ⟨.bl k, H, I.tok tk, rfl, q⟩
  refine PE.imp (pe_callB hc hg hm (by decide +kernel) (pa_cons ha (pa_cons (pe_tup hT) pa_nil he2) he) (by decide) (by decide) he hpl) fun σ H Q ⟨α, S, ρ, R, re, q⟩ => ⟨α, S, ρ, R, re, After.imp (After.split (rel := RV X.K) q) (fun v H1 ⟨α1, S1, y, e1, R1, r1, q1⟩ => ?_) fun _ _ _ z => z⟩
  obtain ⟨l, yy, k, C, a, h1, h2, rfl, h3, q2, _⟩ := clsXQ (w := ⟨α1, S1, H1⟩) (fx := fx) R1 r1 q1
  obtain ⟨g1, g2⟩ := hF _ _ h1 C h2
  refine ⟨by rw [sizeLine_eq]; exact hsz, fun tp hp => ?_⟩
  obtain ⟨r3, x3, f3⟩ := R1.new hp (.tup cs)
  have ne : a ≠ tp := ne_of_none (Wd.F_same _ _ _ h3) hp
  exact ⟨C, a, k, tp, rfl, upd_same, g1, g2, by rw [upd_ne ne]; exact Wd.F_same _ _ _ h3, q2 _ _ _ x3 r3 (.bl k)⟩
/-- names of classes, one by one -/
theorem pa_cls {cs : List V} {c : V} (h : PE X e (tC c)) (hr : PA X es (fun _ H Q => Q cs H)) (hs : starEach (e :: es) X.env = (false, eval e X.env) :: starEach es X.env := by rfl) : PA X (e :: es) (fun _ H Q => Q (c :: cs) H) := PA.imp (pa_cons h hr hs) fun _ _ _ q => q
theorem pa_cls0 : PA X [] (fun _ H Q => Q [] H) := pa_nil
end
end Zz
set_option maxRecDepth 100000
set_option maxHeartbeats 4000000
namespace Zz
open PySem PySem.Spec PyProof.Rows L2
/-! ### len(set(texts)) -/
/-- the unlike ones -/
def dist : List Str → List Str := fun xs => xs.foldl (fun acc x => if x ∈ acc then acc else acc ++ [x]) []
theorem dist_snoc (xs : List Str) (x : Str) : dist (xs ++ [x]) = if x ∈ dist xs then dist xs else dist xs ++ [x] := by
  unfold dist
  rw [List.foldl_append]
  rfl
theorem snocInd {P : List Str → Prop} (h0 : P []) (h1 : ∀ xs x, P xs → P (xs ++ [x])) (xs : List Str) : P xs := by
  have h : ∀ ys : List Str, P ys.reverse := fun ys => by
    induction ys with
    | nil => exact h0
    | cons y ys ih => rw [List.reverse_cons]; exact h1 _ _ ih
  have z := h xs.reverse
  rwa [List.reverse_reverse] at z
theorem mem_dist (xs : List Str) : ∀ k, k ∈ dist xs ↔ k ∈ xs := by
  induction xs using snocInd with
  | h0 => intro k; exact Iff.rfl
  | h1 xs x ih =>
    intro k
    rw [dist_snoc]
    split
    · rename_i h
      rw [ih, List.mem_append, List.mem_singleton]
      exact ⟨.inl, fun z => z.elim id fun e => by rw [e]; exact (ih x).mp h⟩
    · rw [List.mem_append, List.mem_append, ih]
theorem dist_le (xs : List Str) : (dist xs).length ≤ xs.length := by
  induction xs using snocInd with
  | h0 => exact Nat.le_refl _
  | h1 xs x ih =>
    rw [dist_snoc]
    split
    · rw [List.length_append]; exact Nat.le_trans ih (Nat.le_add_right _ _)
    · rw [List.length_append, List.length_append]; exact Nat.add_le_add_right ih _
theorem take_next {xs : List Str} {i : Nat} (h : i < xs.length) : xs.take (i + 1) = xs.take i ++ [xs.getD i Str.empty] := by
  rw [List.take_add_one, List.getElem?_eq_getElem h]
  simp [List.getD, h]
section
variable {prog : Program} {w : World} {A : Around} {R : Result → Shared → Prop} {I : Addr} {fp wr : List Addr} {G : Array GenState → Array GenState → Prop} {n : Nat} {P : Nat → Value → Prop} {St : Nat → Shared → Prop}
/-- the texts that were met among the first i -/
abbrev Met (prog : Program) (w : World) (S : Addr) (xs : List Str) (i : Nat) (h : Heap) : Prop := h.SetOf (PySem.strKind prog w) S (fun k => decide (k ∈ xs.take i)) (dist (xs.take i)).length
theorem fill_texts (W : WalksS prog w A.in1 I fp wr G n P St) (S : Addr) (hSf : S ∉ fp) (xs : List Str) (hsz : xs.length = n) (hb : n + 1 < scanBound) (hval : ∀ i v, P i v → ∃ t, v = .str (xs.getD i Str.empty) t) :
    ∀ (m i : Nat) (s : Shared), n - i = m → i ≤ n → St i s → Met prog w S xs i s.heap → (∀ s', Moved (S :: wr) G s s' → Met prog w S xs n s'.heap → R (.ok (.ret .none)) s') →
      codeAny (model prog w) A (.builtin "set.update.loop" ⟨[.ref S, .ref I], []⟩) R s := by
  have outW : S ∉ wr := fun z => hSf (W.sub _ z)
  have more : ∀ b ∈ wr, b ∈ S :: wr := fun b q => List.mem_cons_of_mem _ q
  have moved : ∀ {s s' : Shared} {i : Nat}, Moved wr G s s' → Met prog w S xs i s.heap → Met prog w S xs i s'.heap := fun mv ⟨o, es, ep, t, ho, r⟩ => ⟨o, es, ep, t, mv.heap S _ outW ho, r⟩
  intro m
  induction m with
  | zero =>
    intro i s e1 e2 st met fin
    obtain rfl : i = n := by omega
    refine codeAny_builtin F.entry_set_update_loop ?_
    rw [Around.under_plainId F.plain_set_update_loop _]
    show wpAny _ A.in1 (pyNext (.ref I) >>= _) _ _ s
    refine wpAny_bind (W.done s _ _ st fun s1 mv => ?_)
    show wpAny _ A.in1 (ret Value.none) _ _ s1
    exact wpAny_pure (fin s1 (mv.mono more) (moved mv met))
  | succ m ih =>
    intro i s e1 e2 st met fin
    have lt : i < n := by omega
    refine codeAny_builtin F.entry_set_update_loop ?_
    rw [Around.under_plainId F.plain_set_update_loop _]
    show wpAny _ A.in1 (pyNext (.ref I) >>= _) _ _ s
    refine wpAny_bind (W.item i s _ _ lt st fun v s1 hv st1 mv => ?_)
    obtain ⟨t, rfl⟩ := hval i v hv
    have met1 := moved mv met
    show wpAny _ A.in1 (holding [Value.str (xs.getD i Str.empty) t] (setAdd S (.str (xs.getD i Str.empty) t)) >>= _) _ _ s1
    unfold setAdd
    refine wpAny_bind (wpAny_holding (wpAny_holding (wpAny_bind ((PySem.strKind prog w).pyHash (k := xs.getD i Str.empty) (strKind_is _ _ _ _) ?_))))
    have few : (dist (xs.take i)).length + 1 < scanBound := by
      have z := dist_le (xs.take i)
      rw [List.length_take] at z
      omega
    refine wpAny_setAddHashed_of (knd := PySem.strKind prog w) (s := { s1 with toks := s1.toks + 1 }) (strKind_is _ _ _ _) rfl met1 few fun h' but grown => ?_
    have ltx : i < xs.length := by omega
    have met2 : Met prog w S xs (i + 1) h' := by
      refine SetOf_congr grown (fun k => ?_) ?_
      · rw [take_next ltx, Bool.eq_iff_iff]
        simp only [Bool.or_eq_true, decide_eq_true_eq, List.mem_append, List.mem_singleton]
      · rw [take_next ltx, dist_snoc]
        by_cases z : xs.getD i Str.empty ∈ xs.take i
        · rw [if_pos (decide_eq_true z), if_pos ((mem_dist _ _).mpr z)]
        · rw [if_neg (by simpa using z), if_neg fun q => z ((mem_dist _ _).mp q), List.length_append]; rfl
    refine wpAny_pure ⟨plainId_quiet F.plain_set_update_loop _, ih (i + 1) _ (by omega) lt (W.frame _ s1 _ _ st1 (Nat.le_succ _) fun b q o e => ?_) met2 fun s2 mv2 met3 => ?_⟩
    · rw [but.2 b fun z => hSf (by rw [← z]; exact q)]; exact e
    · refine fin s2 (Moved.trans W.gtrans ((mv.mono more).then_heap (Nat.le_succ _) fun b o q e => ?_) mv2) met3
      rw [but.2 b fun z => q (by rw [z]; exact List.mem_cons_self)]; exact e
end
section
variable {prog : Program} {w : World} {A : Around} {E : Value → Shared → Prop} {s : Shared}
set_option maxHeartbeats 3200000 in
theorem set_of_texts {l : Addr} {items : Array Value} {xs : List Str} {Q : Value → Shared → Prop} (hh : A.handled = none) (hl : s.heap.IsList l items) (hi : StrsAre items.toList xs) (hb : xs.length + 1 < scanBound)
    (h : ∀ (h' : Heap) (tk : Nat), Met prog w s.heap.objs.size xs xs.length h' → (∀ b o, b < s.heap.objs.size → s.heap.get? b = some o → h'.get? b = some o) → Q (.ref s.heap.objs.size) { s with heap := h', toks := tk }) :
    wpAny (model prog w) A (call (.type "set") [.ref l]) Q E s := by
  obtain ⟨c, tl, mro⟩ := PySem.F.called_set.mro
  have made := PySem.F.called_set.made
  have sub := PySem.F.called_set.sub
  refine wpAny_call (codeAny_of_tree ?_)
  show wpAny _ _ (callAny (.type "set") _) _ _ _
  refine wpAny_pure ⟨Code.quiet_builtin _ (by decide +kernel), codeAny_builtin PySem.F.entry_type_call ?_⟩
  rw [Around.under_plain (weight_type_call_type "set" [.ref l] []) rfl]
  have f1 := PySem.F.called_set.notType
  have f2 := PySem.F.called_set.canCreate
  have f3 := PySem.F.typeCall_set_1 (.ref l)
  repeat (any_goals (first | assumption | wp_step))
  refine codeAny_mono (code_set_new_1 (.ref l) (E := E) (Q₁ := fun obj s₁ => ∃ led : Bool, obj = .ref s.heap.objs.size ∧ s₁ = { s with heap := s.heap.push { cls := .type "set", dict := none, data := .set #[] 0 (.fresh 0 0 led) } }) fun led => ⟨led, rfl, rfl⟩) fun r s1 hr => ?_
  cases r with
  | error e => exact hr
  | ok fl =>
    cases fl with
    | brk => exact hr
    | cont => exact hr
    | next => exact hr
    | ret obj =>
      obtain ⟨led, rfl, rfl⟩ := hr
      have here : (s.heap.push { cls := .type "set", dict := none, data := .set #[] 0 (.fresh 0 0 led) }).get? s.heap.objs.size = some { cls := .type "set", dict := none, data := .set #[] 0 (.fresh 0 0 led) } := Heap.get?_push_size _ rfl
      have ty : Shared.TypeIs { s with heap := s.heap.push { cls := .type "set", dict := none, data := .set #[] 0 (.fresh 0 0 led) } } (.ref s.heap.objs.size) "set" := ⟨_, here, rfl⟩
      have g1 := PySem.F.called_set.init.lookup
      have g2 := PySem.F.called_set.init.bind (.ref s.heap.objs.size)
      repeat (any_goals (first | assumption | wp_step))
      refine codeAny_mono (codeAny_call_builtin (R := wants (fun r s2 => r = .none ∧ ∃ h' tk, s2 = { s with heap := h', toks := tk } ∧ Met prog w s.heap.objs.size xs xs.length h' ∧ (∀ b o, b < s.heap.objs.size → s.heap.get? b = some o → h'.get? b = some o)) E)
        PySem.F.called_set.init.plain PySem.F.entry_set_init (check_set_init_1 ty ?_)) fun r2 s2 hr2 => ?_
      · obtain ⟨⟨oc, od, ot, os⟩, hol, hcl, nl, hdl⟩ := hl
        simp only at hcl hdl
        subst hcl hdl
        have hol' : (s.heap.push { cls := .type "set", dict := none, data := .set #[] 0 (.fresh 0 0 led) }).get? l = some { cls := .type "list", dict := od, data := .seq items nl, slots := os } := Heap.get?_push_of_some _ hol
        have k1 := PySem.F.sub_list_set
        have k2 := PySem.F.sub_list_frozenset
        have k3 : (Value.type "list" == Value.type "dict") = false := by decide
        have lst : (s.heap.push { cls := .type "set", dict := none, data := .set #[] 0 (.fresh 0 0 led) }).IsList l items := ⟨_, hol', rfl, nl, rfl⟩
        unfold Builtin.«set.__init__» noKeywords Builtin.Frozenset.updateFrom
        generalize hPI : pyIter = PI
        wp_walk
        subst hPI
        refine wpAny_pyIter_list lst ?_
        refine wpAny_bind (wpAny_runValue ?_)
        have lt : l < s.heap.objs.size := Heap.lt_size hol
        have sz1 : (s.heap.push { cls := .type "set", dict := none, data := .set #[] 0 (.fresh 0 0 led) }).objs.size = s.heap.objs.size + 1 := Heap.size_push ..
        have eq1 : xs.length = items.size := by rw [← StrsAre.len_eq hi, Array.length_toList]
        refine fill_texts ((Walks.list (show A.in1.in1.in1.handled = none by simp [hh]) _ l (by rw [sz1]; exact Nat.ne_of_lt (Nat.lt_succ_of_lt lt)) items).toS) s.heap.objs.size
          (by rw [sz1]; simp only [List.mem_cons, List.not_mem_nil, or_false, not_or]; exact ⟨Nat.ne_of_lt (Nat.lt_succ_self _), Nat.ne_of_gt lt⟩) xs eq1 (by rw [← eq1]; exact hb) (fun i v hv => SS.strs_at hi i v (by rw [Array.getElem?_toList]; exact hv)) (items.size - 0) 0 _ (by omega) (Nat.zero_le _)
          ⟨⟨_, Heap.get?_push_size _ rfl, rfl, rfl⟩, lst.push _⟩ ?start ?fin
        case start =>
          have q : ((s.heap.push { cls := .type "set", dict := none, data := .set #[] 0 (.fresh 0 0 led) }).push { cls := .type "list_iterator", data := .fields #[.ref l, .int 0 0] }).get? s.heap.objs.size = some { cls := .type "set", dict := none, data := .set #[] 0 (.fresh 0 0 led) } := Heap.get?_push_of_some _ here
          exact SetOf_congr ((setObjOf_fresh (knd := PySem.strKind prog w) led).setOf q (by unfold scanBound; omega)) (fun _ => by simp) rfl
        case fin =>
          intro ⟨h', g', d', tk', os'⟩ mv met
          have e1 : g' = s.gens := mv.gens
          have e2 : d' = s.drawn := mv.drawn
          have e3 : os' = s.os := mv.os
          subst e1 e2 e3
          show wpAny _ _ _ _ _ _
          refine wpAny_pure ?_
          show wpAny _ _ (ret Value.none) _ _ _
          rw [← eq1] at met
          refine wpAny_pure ⟨rfl, h', tk', rfl, met, fun b o q e => ?_⟩
          exact mv.heap b o (by simp only [List.mem_cons, List.not_mem_nil, or_false, not_or]; exact ⟨Nat.ne_of_lt q, by rw [sz1]; exact Nat.ne_of_lt (Nat.lt_succ_of_lt q)⟩) (Heap.get?_push_of_some _ (Heap.get?_push_of_some _ e))
      · cases r2 with
        | error e => exact hr2
        | ok fl2 =>
          cases fl2 with
          | brk => exact hr2
          | cont => exact hr2
          | next => exact hr2
          | ret r =>
            obtain ⟨rfl, h', tk, rfl, met, kk⟩ := hr2
            repeat (any_goals (first | assumption | wp_step))
            exact h _ _ met kk
end
section
variable {X : Cx} {n : Nat} {W : WX} {a : Expr} {f : Env' → M Val} {p p2 q pos : Pos}
/-- how many unlike texts -/
def oLenSet : D → Option D
  | .list xs => (xs.mapM asStr).bind fun ys => if ys.length < 4000 then some (.int (dist ys).length) else none
  | _ => none
theorem ed_lenSet (C : CxOk X n) (hm : X.mg "len" = none) (hm2 : X.mg "set" = none) (ha : ED X W a f) (hg : Gl X "len" := by rfl) (hg2 : Gl X "set" := by rfl) (na : starEach [a] X.env = (false, eval a X.env) :: starEach [] X.env := by rfl) :
    ED X W (.Call (.Name "len" p) [.Call (.Name "set" p2) [a] [] q] [] pos) (dFn1 oLenSet f) := by
  have core : PE X (.Call (.Name "len" p) [.Call (.Name "set" p2) [a] [] q] [] pos) (fun σ H Q => tD X.K X.mg W f σ H fun x H1 => ∃ (l : Addr) (xs : List Str), x = .ref l ∧ SqL X.K H1 l (xs.map V.str) ∧ xs.length < 4000 ∧ Q (.int (dist xs).length) H1) := by
    refine ⟨fun pins s σ H Q I h => Call_ (ld_blt I hg hm boot_len ?_)⟩
    refine PyProof.Rows.callWith_builtin1 (PyProof.Rows.args_cons (Call_ (ld_blt I hg2 hm2 boot_set ?_)) rfl) rfl rfl
    refine PyProof.Rows.callWith_type1 (PyProof.Rows.args_cons (thn (ha.run pins s σ H _ I h) fun v s1 ⟨x, H1, I1, r1, q1⟩ => PyProof.Rows.args_nil ?_) na) na rfl
    obtain ⟨l, xs, rfl, hq, hz, q1⟩ := q1
    cases r1
    obtain ⟨its, r, pl, _⟩ := I1.list hq
    refine set_of_texts (I1.ok.hd C.hc) pl.isList (by simpa using strsAre_of r) (by unfold scanBound; omega) fun h' tk met kk => PyProof.Rows.args_nil ?_
    rw [Met, List.take_length] at met
    obtain ⟨o, es, ep, t, ho, hx, hd, _, _, _, hf, hn⟩ := met
    have I2 : Inv X pins σ H1 { s1 with heap := h', toks := tk } := I1.kept fun b o e => kk b o (Heap.lt_size e) e
    have le := dist_le xs
    refine call_len_set ho hx hd hf (by rw [hn] <;> omega) ⟨.int (dist xs).length, H1, I2.tok _, ⟨_, by rw [hn]⟩, q1⟩
  refine PE.imp core fun σ H Q ⟨α, S, ρ, R, re, q⟩ => ⟨α, S, ρ, R, re, After.imp (After.split (rel := RV X.K) q) (fun v H1 ⟨α1, S1, x, e1, R1, r1, q1⟩ => ?_) fun _ _ _ z => z⟩
  obtain ⟨w, y, z, da, c, rfl, e3, Rw, rx, ea2, ec, ans⟩ := on1_ok (w := ⟨α1, S1, H1⟩) R1 r1 q1
  cases e3
  unfold oLenSet at ec
  split at ec
  · obtain ⟨ys, e4, e5⟩ := Option.bind_eq_some_iff.mp ec
    split at e5
    · rename_i hz
      cases e5
      obtain ⟨l, vs, rfl, h1, g1⟩ := Rw.list rx ea2
      cases strs_dv g1 e4
      exact ⟨l, ys, rfl, h1, hz, ans.here Rw (.int _)⟩
    · cases e5
  · cases ec
end
end Zz
set_option maxRecDepth 100000
set_option maxHeartbeats 4000000
namespace Zz
open PySem PySem.Spec PyProof.Rows L2
/-! ### the law's own call -/
/-- a script's whole numbers as data -/
def intsD (ns : List Int) : List D := ns.map .int
theorem dv_ints {K : PySem.W.Frag} {F : Hp} : ∀ ns : List Int, DvAll K F (ns.map V.int) (intsD ns)
  | [] => .nil
  | n :: r => .cons (.int n) (dv_ints r)
section
variable {P : Program} {w : World} {K : PySem.W.Frag} {mg mb : Str → Option Value} {k : Nat} {fa a : Addr} {fd : FuncData} {x : Str} {F : Fn} {s : Shared} {vs : List Value} {ns : List Int}
/-- the abstract heap: the script alone, if anything -/
structure Seen (P : Program) (w : World) (K : PySem.W.Frag) (s : Shared) (a : Addr) (ns : List Int) (H : Hp) : Prop where
  only : L2.Only H
  seq : SqL K H a (ns.map V.int)
  ok : HOk P w H s.heap
  at_ : ∀ b, H b ≠ none → b = a
  out : H a ≠ none → K.lookup a = none
theorem seenAt (KX : K.In s.heap) (ha : s.heap.get? a = some { cls := .type "list", data := .seq vs.toArray }) (hi : IntsAre vs ns) (hl : ns.length ≤ sizeLine) : ∃ H, Seen P w K s a ns H := by
  have rv := vals_ints hi
  have hlen : vs.length = ns.length := hi.length
  cases hk : K.lookup a with
  | some o =>
    have e := KX a o hk
    rw [ha] at e
    cases e
    exact ⟨fun _ => none, fun _ => .inl rfl, .inr ⟨_, vs.toArray, _, hk, rfl, rfl, rfl, by rw [List.size_toArray, hlen]; exact hl, by simpa using rv⟩, fun b u z => (by have z' : (none : Option HO) = some u := z; cases z'), fun b z => absurd rfl z, fun z => absurd rfl z⟩
  | none =>
    let o : Obj := { cls := .type "list", data := .seq vs.toArray }
    have yes : ∀ {b : Addr}, b = a → (fun b => if b = a then some (HO.frz o (.lst (ns.map V.int))) else none : Hp) b = some (.frz o (.lst (ns.map V.int))) := fun e => if_pos e
    have no : ∀ {b : Addr}, b ≠ a → (fun b => if b = a then some (HO.frz o (.lst (ns.map V.int))) else none : Hp) b = none := fun e => if_neg e
    refine ⟨fun b => if b = a then some (.frz o (.lst (ns.map V.int))) else none, fun b => ?_, .inl (.inr ⟨o, yes rfl⟩), fun b u z => ?_, fun b z => ?_, fun _ => hk⟩
    · by_cases e : b = a
      · exact .inr ⟨_, _, yes e⟩
      · exact .inl (no e)
    · by_cases e : b = a
      · have q := (yes e).symm.trans z
        cases q
        subst e
        exact ⟨ha, by rw [List.length_map]; exact hl, vs, _, rv, ha⟩
      · have q := (no e).symm.trans z
        cases q
    · by_cases e : b = a
      · exact e
      · exact absurd (no e) z
theorem law_run (KX : K.In s.heap) (hns : s.heap.Ns mainGlobals mg) (hb : s.heap.Ns builtinsNs mb) (hbb : ∀ x : Str, x ≠ "__name__" → mb x = bootBuiltins x) (hlim : s.heap.NoLimit) (hg : s.gens = #[])
    (ha : s.heap.get? a = some { cls := .type "list", data := .seq vs.toArray }) (hi : IntsAre vs ns) (hl : ns.length ≤ sizeLine) (hr : Room k callerA)
    (hF : ∀ base : Heap, K.In base → base.Ns mainGlobals mg → FnG P w K mg base k fa fd [x] F) (hbind : ∀ (s : Shared) (u : Value), BindsTo s fd ⟨[u], []⟩ [(x, u)])
    (told : ∃ S, F [.d (.list (intsD ns))] [] = .ok (.d (.bool true)) S) :
    codeAny (model P w) callerA (.call (.ref fa) ⟨[.ref a], []⟩) (fun r s' => r = .ok (.ret (.bool true)) ∧ OldK s.heap s'.heap ∧ s'.os = s.os ∧ AllBare s'.gens) s := by
  obtain ⟨H, sn⟩ := seenAt (P := P) (w := w) KX ha hi hl
  -- what is no script stands in the base
  have free : ∀ {b : Addr} {o : Obj}, s.heap.get? b = some o → (∀ its n, o.data ≠ .seq its n) → H b = none := fun {b o} e ne => by
    cases q : H b with
    | none => rfl
    | some u =>
      obtain rfl := sn.at_ b (by rw [q]; simp)
      rw [ha] at e
      cases e
      exact absurd rfl (ne _ _)
  have ns' : ∀ {b : Addr} {m : Str → Option Value}, s.heap.Ns b m → (hidT s.heap H).Ns b m := fun ⟨o, es, ep, e, d, r⟩ => ⟨o, es, ep, hidT_get e (free e fun _ _ z => by rw [d] at z; cases z), d, r⟩
  have hK : K.In (hidT s.heap H) := fun b o e => hidT_get (KX b o e) (by
    cases q : H b with
    | none => rfl
    | some u =>
      obtain rfl := sn.at_ b (by rw [q]; simp)
      rw [sn.out (by rw [q]; simp)] at e
      cases e)
  have e0 : Env0 P w K mg (hidT s.heap H) callerA [] s H :=
    ⟨rfl, ⟨hK, ns' hns, ⟨mb, ns' hb, hbb⟩, let ⟨mc, h1, h2⟩ := hlim; ⟨mc, ns' h1, h2⟩⟩, fun b o e => of_hidT e, Nat.le_of_eq (hidT_size _ _), trivial, fun b hb => absurd (show b ∈ ([] : List Addr) from hb) (by simp), sn.ok, .of_eq hg⟩
  obtain ⟨S, told⟩ := told
  have rep : Rep K mg ⟨[], [], H⟩ := ⟨rfl, List.nodup_nil, fun a ha => (by cases ha), fun l a c h => (by simp at h)⟩
  have eF : Wd.F ⟨[], [], H⟩ = H := funext fun b => by
    unfold Wd.F Wd.muts
    simp
  have arg : RVs K ⟨[], [], H⟩ [.ref a] [.d (.list (intsD ns))] := .cons (by
    show Dv K (Wd.F ⟨[], [], H⟩) (.ref a) (.list (intsD ns))
    rw [eF]
    exact .lst sn.seq (dv_ints ns)) .nil
  refine codeAny_mono ((hF _ hK (ns' hns)).run callerA [] s H ⟨[.ref a], []⟩ [.ref a] [.ref a] (fun v _ => v = .bl true) (fun _ _ _ => False) rfl hr e0 (hbind s (.ref a)) (.cons rfl .nil) rfl ⟨[], [], _, rep, arg, ?_⟩) fun r s' h => ?_
  · rw [told]
    intro α H' b _ _ rb
    cases (show Dv K _ b (.bool true) from rb)
    rfl
  · cases r with
    | error e =>
      obtain ⟨_, _, _, _, _, _, _, _, _, _, _, _, z⟩ := (show L2.CX P w [] H s (fun _ _ _ => False) e s' from h)
      exact z.elim
    | ok fl =>
      cases fl with
      | next => exact False.elim h
      | brk => exact False.elim h
      | cont => exact False.elim h
      | ret u =>
        obtain ⟨v, H', os, bare, un, hok, r', q⟩ := h
        have q' : v = .bl true := q
        subst q'
        obtain rfl : u = Value.bool true := r'
        refine ⟨rfl, OldK.of_keep fun b o e => ?_, os, bare⟩
        cases q : H b with
        | none => exact un.keep b o e q (by intro z; exact absurd (show b ∈ ([] : List Addr) from z) (by simp)) (by simp)
        | some u =>
          rcases sn.only b with z | ⟨ob, xs, z⟩
          · rw [q] at z; cases z
          · obtain ⟨e1, _⟩ := sn.ok b _ z
            obtain ⟨e2, _⟩ := hok b _ (un.frzs b ob _ z)
            rw [e] at e1; cases e1
            exact e2
end
/-- the goal that the head leaves -/
theorem walkG {l : PySem.W.OpenLaw} {n k : Nat} {q : Program} {loose : List Str} {XP : (Str → Option Value) → Heap → Prop} {YP : World → Heap → Prop} {d : DefRec} {K : Params → PySem.W.Frag} {x : Str} {F : Fn}
    (hn : l.most = some n) (hn2 : n ≤ sizeLine) (hdf : d.params.defaults = []) (hr : Room k callerA) (hY : ∀ (w : World) (h : Heap), YP w h → (K w.params).In h)
    (hF : ∀ (w : World) (mg : Str → Option Value) (fa : Addr) (h : Heap), (K w.params).In h → h.Ns mainGlobals mg → mg d.name = some (.ref fa) →
      ∃ fd : FuncData, (∀ (s : Shared) (u : Value), BindsTo s fd ⟨[u], []⟩ [(x, u)]) ∧ ∀ base : Heap, (K w.params).In base → base.Ns mainGlobals mg → FnG l.prog w (K w.params) mg base k fa fd [x] F)
    (told : ∀ ns : List Int, ns.length ≤ n → (∀ z ∈ ns, Builtin.Int.intBits z ≤ 1048576) → ∃ S, F [.d (.list (intsD ns))] [] = .ok (.d (.bool true)) S) :
    PySem.W.WalkO q loose XP YP l.row.toRowW d [] (fun f vs => PySem.call f vs) := by
  refine Att.attach_callB hn hdf fun w s₀ s₁ mg mb fa o pm cd doc a vs ns G Y ho hd hcd hmg hobj hints hlen hbits hg => ?_
  have KX := hY w _ Y
  obtain ⟨fd, hb, hF⟩ := hF w mg fa _ KX G.T.g hmg
  exact law_run KX G.T.g G.T.b G.T.builtins G.T.nolimit hg hobj hints (Nat.le_trans hlen hn2) hr hF hb (told ns hlen hbits)
end Zz
set_option maxRecDepth 100000
set_option maxHeartbeats 4000000
namespace Zz
open PySem PySem.Spec PyProof.Rows L2
/-! ### dict displays -/
/-- in its place, or at the end -/
def putD (kds : List (D × D)) (k : Key) (d : D) : List (D × D) :=
  if (kds.any fun p => decide (toKey p.1 = some k)) = true then kds.map (fun p => if toKey p.1 = some k then (p.1, d) else p) else kds ++ [(keyD k, d)]
def mergeD (kds : List (D × D)) (more : List (Key × D)) : List (D × D) := more.foldl (fun acc p => putD acc p.1 p.2) kds
theorem toKey_keyD (k : Key) : toKey (keyD k) = some k := by cases k <;> rfl
section
variable {K : PySem.W.Frag} {F : Hp}
theorem DvKV.any (k : Key) : ∀ {ks : List (Key × V)} {kds : List (D × D)}, DvKV K F ks kds → (ks.any fun p => decide (p.1 = k)) = (kds.any fun p => decide (toKey p.1 = some k))
  | _, _, .nil => rfl
  | _, _, .cons (k := k') _ t => by
    rw [List.any_cons, List.any_cons, DvKV.any k t, toKey_keyD]
    congr 1
    exact decide_eq_decide.mpr ⟨fun e => (by have e' : k' = k := e; rw [e']), fun e => Option.some.inj e⟩
theorem DvKV.over (k : Key) {v : V} {d : D} (h : Dv K F v d) : ∀ {ks : List (Key × V)} {kds : List (D × D)}, DvKV K F ks kds → DvKV K F (ks.map fun p => if p.1 = k then (p.1, v) else p) (kds.map fun p => if toKey p.1 = some k then (p.1, d) else p)
  | _, _, .nil => .nil
  | _, _, .cons (k := k') (v := v') (d := d') r t => by
    rw [List.map_cons, List.map_cons]
    show DvKV K F ((if k' = k then (k', v) else (k', v')) :: _) ((if toKey (keyD k') = some k then (keyD k', d) else (keyD k', d')) :: _)
    rw [toKey_keyD]
    by_cases e : k' = k
    · rw [if_pos e, if_pos (by rw [e])]
      exact .cons h (DvKV.over k h t)
    · rw [if_neg e, if_neg fun z => e (Option.some.inj z)]
      exact .cons r (DvKV.over k h t)
theorem DvKV.snoc {k : Key} {v : V} {d : D} (h : Dv K F v d) : ∀ {ks : List (Key × V)} {kds : List (D × D)}, DvKV K F ks kds → DvKV K F (ks ++ [(k, v)]) (kds ++ [(keyD k, d)])
  | _, _, .nil => .cons h .nil
  | _, _, .cons r t => .cons r (DvKV.snoc h t)
theorem DvKV.put (k : Key) {v : V} {d : D} (h : Dv K F v d) {ks : List (Key × V)} {kds : List (D × D)} (t : DvKV K F ks kds) : DvKV K F (putK ks k v) (putD kds k d) := by
  unfold putK putD
  rw [DvKV.any k t]
  split
  · exact DvKV.over k h t
  · exact DvKV.snoc h t
/-- pairs of values and their data -/
abbrev RP (K : PySem.W.Frag) (F : Hp) : List (V × V) → List (Key × D) → Prop := Paired fun a b => a.1 = kV b.1 ∧ Dv K F a.2 b.2
theorem RP.keys : ∀ {ps : List (V × V)} {kds : List (Key × D)}, RP K F ps kds → ∃ kvs : List (Key × V), ps = kvs.map (fun kv => (kV kv.1, kv.2)) ∧ kvs.length = kds.length ∧ Paired (fun (a : Key × V) (b : Key × D) => a.1 = b.1 ∧ Dv K F a.2 b.2) kvs kds
  | _, _, .nil => ⟨[], rfl, rfl, .nil⟩
  | _, _, .cons (a := a) (b := b) h t => by
    obtain ⟨kvs, e1, e2, e3⟩ := RP.keys t
    obtain ⟨a1, a2⟩ := a
    obtain ⟨h1, h2⟩ := h
    have h1' : a1 = kV b.1 := h1
    subst h1'
    exact ⟨(b.1, a2) :: kvs, by rw [e1]; rfl, by rw [List.length_cons, List.length_cons, e2], .cons ⟨rfl, h2⟩ e3⟩
theorem merge_dv : ∀ {kvs : List (Key × V)} {kds : List (Key × D)} {ks : List (Key × V)} {ds : List (D × D)}, Paired (fun (a : Key × V) (b : Key × D) => a.1 = b.1 ∧ Dv K F a.2 b.2) kvs kds → DvKV K F ks ds → DvKV K F (mergeK ks kvs) (mergeD ds kds)
  | _, _, _, _, .nil, t => t
  | _, _, ks, ds, .cons (a := a) (b := b) h r, t => by
    obtain ⟨a1, a2⟩ := a
    obtain ⟨b1, b2⟩ := b
    obtain ⟨h1, h2⟩ := h
    have h1' : a1 = b1 := h1
    subst h1'
    exact merge_dv (ks := putK ks a1 a2) (ds := putD ds a1 b2) r (DvKV.put a1 h2 t)
end
def dPairs : List ((Env' → M Val) × (Env' → M Val)) → Env' → M (List (Key × D))
  | [], _ => M.ret []
  | (f, g) :: r, ρ => (f ρ).bind fun x S => match (rd S x).bind toKey with
    | some k => ((g ρ S).bind frz).bind fun d => (dPairs r ρ).bind fun ps => M.ret ((k, d) :: ps)
    | none => .st
def dDict (ps : List ((Env' → M Val) × (Env' → M Val))) : Env' → M Val := fun ρ S => (dPairs ps ρ (S ++ [.dct []])).bind fun kds S' => match S'[S.length]? with
  | some (.dct []) => if kds.length ≤ 15 then .ok (.d (.dict (mergeD [] kds))) (S'.take S.length) else .st
  | _ => .st
def dDict0 : Env' → M Val := fun _ S => .ok (.d (.dict [])) S
section
variable {X : Cx} {n : Nat} {W : WX} {pos : Pos} {k v : Expr} {f g : Env' → M Val}
theorem ed_dict0 : ED X W (.Dict [] [] pos) dDict0 := PE.imp pe_dnewK fun σ H Q ⟨α, S, ρ, R, re, q⟩ => fun p hp => by
  obtain ⟨r3, x3, f3⟩ := R.new hp (.dK [])
  exact q _ _ _ x3 r3 (.dct f3 .nil)
abbrev trsD (X : Cx) (W : WX) (ps : List ((Env' → M Val) × (Env' → M Val))) : List (TE × TE) := ps.map fun p => (tD X.K X.mg W p.1, tD X.K X.mg W p.2)
theorem pairsQ {σ : L2.St} : ∀ (ps : List ((Env' → M Val) × (Env' → M Val))) {α : List Addr} {S : List Cell} {H : Hp} {ρ : Env'} {Q : List (V × V) → Hp → Prop}, Rep X.K X.mg ⟨α, S, H⟩ → RE X.K ⟨α, S, H⟩ σ ρ →
    After X.K X.mg (fun w a b => RP X.K w.F a b) ⟨α, S, H⟩ (dPairs ps ρ S) Q (fun c d H' => W c d σ H') → tPairs (trsD X W ps) σ H Q
  | [], α, S, H, ρ, Q, R, re, q => q α H [] (Ext.refl _) R .nil
  | (f, g) :: r, α, S, H, ρ, Q, R, re, q => by
    unfold dPairs at q
    refine ⟨α, S, ρ, R, re, After.imp (After.split (rel := RV X.K) q) (fun x H1 ⟨α1, S1, xa, e1, R1, r1, q1⟩ => ?_) fun _ _ _ z => z⟩
    cases ek : (rd S1 xa).bind toKey with
    | none => rw [ek] at q1; exact False.elim q1
    | some kk =>
      rw [ek] at q1
      dsimp only at q1
      obtain ⟨da, ed, et⟩ := Option.bind_eq_some_iff.mp ek
      have hx : x = kV kk := dv_key (R1.any r1 ed) et
      rw [Res.bind_assoc] at q1
      refine ⟨α1, S1, ρ, R1, re.mono e1, After.imp (After.split (rel := RV X.K) q1) (fun y H2 ⟨α2, S2, ya, e2, R2, r2, q2⟩ => ?_) fun _ _ _ z => z⟩
      obtain ⟨S3, d, e3, R3, dv, q3⟩ := frz_ok (w := ⟨α2, S2, H2⟩) R2 r2 q2
      refine pairsQ r (α := α2) (S := S3) (ρ := ρ) R3 ((re.mono e1).mono (e2.trans e3)) (After.imp (After.split (rel := fun w a b => RP X.K w.F a b) q3) (fun ps H4 ⟨α4, S4, kds, e4, R4, r4, q4⟩ => ?_) fun _ _ _ z => z)
      exact q4 α4 H4 _ (Ext.refl _) R4 (.cons ⟨hx, dv.mono e4.same⟩ r4)
/-- as After.split, the second part still told of the first world -/
theorem After.split0 {K : PySem.W.Frag} {mg : Str → Option Value} {A A' B B' : Type} {rel : Wd → B → A → Prop} {rel' : Wd → B' → A' → Prop} {w w1 : Wd} {r : Res A} {k : A → M A'} {Q : B' → Hp → Prop} {E : XK} (h : After K mg rel' w (r.bind k) Q E) (e : Ext w w1) :
    After K mg rel w1 r (fun b H => ∃ α S a, Ext w1 ⟨α, S, H⟩ ∧ Rep K mg ⟨α, S, H⟩ ∧ rel ⟨α, S, H⟩ b a ∧ After K mg rel' w (k a S) Q E) E := by
  cases r with
  | st => exact h
  | ok a S => exact fun α H b e1 e2 e3 => ⟨α, S, a, e1, e2, e3, h⟩
  | ex x S => exact After.later (r := Res.ex x S) (rel := rel) h e
theorem ed_dict {keys : List (Option Expr)} {values : List Expr} {ps : List ((Env' → M Val) × (Env' → M Val))} (h : PPs X pos keys values (trsD X W ps)) (hall : keys.all (·.isSome) = true := by rfl) (hl : keys.length = values.length := by rfl) (h0 : keys ≠ [] := by exact fun z => nomatch z) (h15 : keys.length ≤ 15 := by decide) :
    ED X W (.Dict keys values pos) (dDict ps) := PE.imp (pe_disp h hall hl h0 h15) fun σ H Q ⟨α, S, ρ, R, re, q⟩ => fun p hp => by
  obtain ⟨Rc, ec⟩ := R.cell hp (c := .dct []) (o := .dK []) rfl ⟨[], upd_same, .nil⟩
  have ha : ((α ++ [p]) : List Addr)[S.length]? = some p := by
    have z : α.length = S.length := R.len
    rw [List.getElem?_append_right (by rw [z]; exact Nat.le_refl _), z, Nat.sub_self]; rfl
  refine pairsQ ps Rc (re.mono ec) (After.imp (After.split0 (rel := fun w a b => RP X.K w.F a b) q ec) (fun pv H1 ⟨α1, S1, kds, e1, R1, r1, q1⟩ => ?_) fun _ _ _ z => z)
  have ha1 := e1.at_ ha
  split at q1
  · rename_i hs
    split at q1
    · rename_i hz
      obtain ⟨ks, h1, h2⟩ := R1.at_ S.length p _ ha1 hs
      cases h2
      obtain ⟨kvs, g1, g2, g3⟩ := RP.keys r1
      refine ⟨h1, kvs, g1, by rw [g2]; exact hz, ?_⟩
      have dm : DvKV X.K (Wd.F ⟨α1, S1, H1⟩) (mergeK [] kvs) (mergeD [] kds) := merge_dv g3 .nil
      obtain ⟨R4, e4⟩ := R1.write (c' := .dct (mergeD [] kds)) (o := .dK (mergeK [] kvs)) ha1 hs rfl rfl ⟨_, upd_same, dm⟩
      have hs4 : (S1.set S.length (.dct (mergeD [] kds)))[S.length]? = some (.dct (mergeD [] kds)) := List.getElem?_set_self (List.getElem?_eq_some_iff.mp hs).1
      obtain ⟨R5, e5, d5⟩ := R4.seal (d := .dict (mergeD [] kds)) ha1 hs4 rfl upd_same fun F eF h => .dct h (dm.mono (e4.same.trans eF))
      have cut := Ext.cut R R5 (((ec.trans e1).trans e4).trans e5)
      have st : ((S1.set S.length (.dct (mergeD [] kds))).set S.length (.old (.dict (mergeD [] kds)))).take S.length = S1.take S.length := by
        rw [List.take_set_of_le (Nat.le_refl _), List.take_set_of_le (Nat.le_refl _)]
      have R6 := (R5.cut S.length).1
      have d6 := Dv.mono (R5.cut S.length).2 d5
      dsimp only at cut R6 d6
      rw [st] at cut R6 d6
      exact q1 _ _ _ cut R6 d6
    · exact False.elim q1
  · exact False.elim q1
theorem dd_nil : PPs X pos [] [] (trsD X W []) := pps_nil
theorem dd_cons {ks : List (Option Expr)} {vs : List Expr} {ps : List ((Env' → M Val) × (Env' → M Val))} (hk : ED X W k f) (hv : ED X W v g) (hr : PPs X pos ks vs (trsD X W ps)) : PPs X pos (some k :: ks) (v :: vs) (trsD X W ((f, g) :: ps)) := pps_cons hk hv hr
end
end Zz
set_option maxRecDepth 100000
set_option maxHeartbeats 4000000
namespace Zz
open PySem PySem.Spec PyProof.Rows L2
/-! ### any iterable of ours -/
/-- what one walks of a value -/
def itemsD : D → Option (List D)
  | .list ds => some ds
  | .tuple ds => some ds
  | .str x => some (x.cps.toList.map fun c => .str ⟨#[c]⟩)
  | _ => none
def itAny (f : Env' → M Val) : Env' → M (List D) := fun ρ => (f ρ).bind fun x => (frz x).bind fun d => match itemsD d with
  | some ds => M.ret ds
  | none => M.st
section
variable {X : Cx} {n : Nat} {W : WX} {pos p : Pos} {tg e a b : Expr} {f : Env' → M Val}
theorem PI.or {t t' : TI} (h : PI X tg e t) (h' : PI X tg e t') : PI X tg e (fun σ H R => t σ H R ∨ t' σ H R) := ⟨fun pins s σ H R I q => q.elim (h.run pins s σ H R I) (h'.run pins s σ H R I)⟩
theorem id_any (he : ED X W e f) : ID X W tg e (itAny f) := PI.imp (Zz.PI.or (id_seq (W := W) he) (Zz.PI.or (id_tup (W := W) he) (id_str (W := W) he))) fun σ H R ⟨α, S, ρ, h1, h2, q⟩ => by
  have z : (f ρ S).bind (fun x => (frz x).bind fun d => match itemsD d with | some ds => M.ret ds | none => M.st) = itAny f ρ S := rfl
  rw [← z] at q
  cases ef : f ρ S with
  | st => rw [ef] at q; exact False.elim q
  | ex x S1 =>
    refine .inl ⟨α, S, ρ, h1, h2, ?_⟩
    rw [ef] at q
    show After X.K X.mg (Yields X.K X.mg) ⟨α, S, H⟩ ((f ρ S).bind _) _ _
    rw [ef]
    exact q
  | ok x S1 =>
    rw [ef] at q
    have q' : After X.K X.mg (Yields X.K X.mg) ⟨α, S, H⟩ ((frz x S1).bind fun d => match itemsD d with | some ds => M.ret ds | none => M.st) R (fun c d H' => W c d σ H') := q
    cases ez : frz x S1 with
    | st => rw [ez] at q'; exact False.elim q'
    | ex y S2 => exact absurd ez (frz_noex _ _ _ _)
    | ok d S2 =>
      rw [ez] at q'
      cases d with
      | list ds =>
        refine .inl ⟨α, S, ρ, h1, h2, ?_⟩
        show After X.K X.mg (Yields X.K X.mg) ⟨α, S, H⟩ ((f ρ S).bind _) _ _
        rw [ef]
        show After X.K X.mg (Yields X.K X.mg) ⟨α, S, H⟩ ((frz x S1).bind _) _ _
        rw [ez]
        exact q'
      | tuple ds =>
        refine .inr (.inl ⟨α, S, ρ, h1, h2, ?_⟩)
        show After X.K X.mg (Yields X.K X.mg) ⟨α, S, H⟩ ((f ρ S).bind _) _ _
        rw [ef]
        show After X.K X.mg (Yields X.K X.mg) ⟨α, S, H⟩ ((frz x S1).bind _) _ _
        rw [ez]
        exact q'
      | str x =>
        refine .inr (.inr ⟨α, S, ρ, h1, h2, ?_⟩)
        show After X.K X.mg (Yields X.K X.mg) ⟨α, S, H⟩ ((f ρ S).bind _) _ _
        rw [ef]
        show After X.K X.mg (Yields X.K X.mg) ⟨α, S, H⟩ ((frz _ S1).bind _) _ _
        rw [ez]
        exact q'
      | none => exact False.elim q'
      | bool b => exact False.elim q'
      | int i => exact False.elim q'
      | dict ds => exact False.elim q'
end
/-! ### built-ins of two arguments -/
section
variable {X : Cx} {n : Nat} {W : WX} {pos : Pos} {a b : Expr} {f g : Env' → M Val}
theorem ed_fn2 {id : String} {x : Str} {p : Pos} {o : O2} (hc : CallR X (.builtin id) (fun xs H Q => ∃ u v, xs = [u, v] ∧ r2D X.K X.mg o u v H Q)) (hm : X.mg x = none) (hv : bootBuiltins x = some (.builtin id)) (ha : ED X W a f) (hb : ED X W b g) (hg : Gl X x := by rfl) (hn : x ≠ "__name__" := by decide) (hdb : (x == ("__debug__" : Str)) = false := by decide)
    (he : starEach [a, b] X.env = (false, eval a X.env) :: starEach [b] X.env := by rfl) (he2 : starEach [b] X.env = (false, eval b X.env) :: starEach [] X.env := by rfl) (hpl : (backTo pos (starEach [b] X.env)).any (·.1) = false := by rfl) : ED X W (.Call (.Name x p) [a, b] [] pos) (dBin o f g) :=
  PE.imp (pe_callB hc hg hm hv (pa_cons ha (pa_cons hb pa_nil he2) he) hn hdb he hpl) fun σ H Q q => by
    obtain ⟨α, S, ρ, R, re, q⟩ := binQ q
    refine ⟨α, S, ρ, R, re, After.imp q (fun v H1 q1 => ?_) fun _ _ _ z => z⟩
    obtain ⟨α1, S1, ρ1, R1, re1, q2⟩ := q1
    exact ⟨α1, S1, ρ1, R1, re1, After.imp q2 (fun u H2 q3 => ⟨v, u, rfl, q3⟩) fun _ _ _ z => z⟩
def oMin : O2 := fun a b => match a, b with
  | .int i, .int j => some (.int (if j < i then j else i))
  | _, _ => none
def oMax : O2 := fun a b => match a, b with
  | .int i, .int j => some (.int (if j > i then j else i))
  | _, _ => none
theorem cd_min (C : CxOk X n) : CallR X (.builtin "min") (fun xs H Q => ∃ u v, xs = [u, v] ∧ r2D X.K X.mg oMin u v H Q) := by
  refine CallR.imp (call_min2 C.hc) fun xs H Q h => ?_
  obtain ⟨u, v, rfl, w, a, b, da, db, c, rfl, R, ra, rb, ea, eb, ec, q⟩ := h
  unfold oMin at ec
  split at ec
  · cases ec
    cases R.int ra ea
    cases R.int rb eb
    exact ⟨_, _, rfl, q.here R (.int _)⟩
  · cases ec
theorem cd_max (C : CxOk X n) : CallR X (.builtin "max") (fun xs H Q => ∃ u v, xs = [u, v] ∧ r2D X.K X.mg oMax u v H Q) := by
  refine CallR.imp (call_max2 C.hc) fun xs H Q h => ?_
  obtain ⟨u, v, rfl, w, a, b, da, db, c, rfl, R, ra, rb, ea, eb, ec, q⟩ := h
  unfold oMax at ec
  split at ec
  · cases ec
    cases R.int ra ea
    cases R.int rb eb
    exact ⟨_, _, rfl, q.here R (.int _)⟩
  · cases ec
end
/-! ### classes asked of classes -/
section
variable {K : PySem.W.Frag} {C D : Addr} {b d : Bool} {T : String} {t c : Value} {r : List Value}
theorem kit_ref (hne : D ≠ C) (hd : PySem.W.hasDictIn K C = true) (ht : PySem.W.typeIn K (.ref C) = some (.type "type")) (h : PySem.W.subIn K (.ref D) (.ref C) = some b) : PySem.W.kitOne K (.ref D) (.ref C) = some b := by
  obtain ⟨cd, hc, _⟩ := PySem.W.any_some hd
  have e1 : (Value.ref D == Value.ref C) = false := beq_eq_false_iff_ne.mpr fun z => hne (Value.ref.inj z)
  have e2 : ((PySem.W.clsIn K C).isSome && PySem.W.typeIn K (.ref C) == some (.type "type")) = true := by rw [hc, ht] <;> rfl
  unfold PySem.W.kitOne
  rw [e1, if_neg Bool.false_ne_true]
  show (if ((PySem.W.clsIn K C).isSome && PySem.W.typeIn K (.ref C) == some (.type "type")) = true then PySem.W.subIn K (.ref D) (.ref C) else none) = some b
  rw [if_pos e2]
  exact h
theorem kit_same : PySem.W.kitOne K t t = some true := by
  unfold PySem.W.kitOne
  rw [if_pos (beq_self_eq_true t)]
theorem kit_typ (hm : PySem.W.kitMeta T = true) (h : PySem.W.subIn K (.ref D) (.type T) = some b) : PySem.W.kitOne K (.ref D) (.type T) = some b := by
  have e1 : (Value.ref D == Value.type T) = false := rfl
  unfold PySem.W.kitOne
  rw [e1, if_neg Bool.false_ne_true]
  show (if PySem.W.kitMeta T = true then PySem.W.subIn K (.ref D) (.type T) else none) = some b
  rw [if_pos hm]
  exact h
theorem exms_nil : PySem.W.exmAny K t [] = some false := rfl
theorem exms_cons (h : PySem.W.exmOne K t c = some b) (hr : PySem.W.exmAny K t r = some d) : PySem.W.exmAny K t (c :: r) = some (b || d) := by
  unfold PySem.W.exmAny
  rw [h, hr]
theorem kits_nil : PySem.W.kitAny K t [] = some false := rfl
theorem kits_no (h : PySem.W.kitOne K t c = some false) (hr : PySem.W.kitAny K t r = some d) : PySem.W.kitAny K t (c :: r) = some d := by
  unfold PySem.W.kitAny
  rw [h]
  exact hr
theorem kits_yes (h : PySem.W.kitOne K t c = some true) : PySem.W.kitAny K t (c :: r) = some true := by
  unfold PySem.W.kitAny
  rw [h]
end
/-! ### keywords in another order -/
def swap2 {T : Type} : List T → List T
  | [x, y] => [y, x]
  | l => l
theorem swap2_p {T U : Type} {r : T → U → Prop} : ∀ {a : List T} {b : List U}, Paired r a b → Paired r (swap2 a) (swap2 b)
  | _, _, .nil => .nil
  | _, _, .cons h .nil => .cons h .nil
  | _, _, .cons h (.cons k .nil) => .cons k (.cons h .nil)
  | _, _, .cons h (.cons k (.cons m t)) => .cons h (.cons k (.cons m t))
theorem swap2_l {T : Type} : ∀ a : List T, (swap2 a).length = a.length
  | [] => rfl
  | [_] => rfl
  | [_, _] => rfl
  | _ :: _ :: _ :: _ => rfl
/-- the same order -/
def same2 {T : Type} (a : List T) : List T := a
end Zz
set_option maxRecDepth 100000
set_option maxHeartbeats 1000000
namespace K01
open PySem PySem.Spec PyProof.Rows L2 Zz
def topS (i : Nat) : Stmt := PySem.Challenge.pw_stairwright_k01_names_and_carriers.main.body.getD i (.Pass ⟨0, 0, 0, 0⟩)
abbrev s_u_law_cell : Stmt := topS 22
abbrev N_u_law_cell : List Str := ["cells", "spot", "k", "base", "own", "turn"]
theorem sc_u_law_cell : FnScope N_u_law_cell ["cells", "spot"] (defScope s_u_law_cell) := ⟨rfl, rfl, rfl, by decide +kernel, rfl, by decide +kernel, by decide +kernel⟩
abbrev s_u_law_rows : Stmt := topS 26
abbrev N_u_law_rows : List Str := ["cells", "spot", "n", "rows", "words", "k", "m", "own", "j"]
theorem sc_u_law_rows : FnScope N_u_law_rows ["cells", "spot"] (defScope s_u_law_rows) := ⟨rfl, rfl, rfl, by decide +kernel, rfl, by decide +kernel, by decide +kernel⟩
abbrev s_elements_of : Stmt := topS 20
abbrev N_elements_of : List Str := ["carriers", "name", "word", "members"]
theorem sc_elements_of : FnScope N_elements_of ["carriers", "name"] (defScope s_elements_of) := ⟨rfl, rfl, rfl, by decide +kernel, rfl, by decide +kernel, by decide +kernel⟩
abbrev s_u_law_word : Stmt := topS 25
abbrev N_u_law_word : List Str := ["n", "m", "signs", "word", "at", "strange", "some", "k"]
theorem sc_u_law_word : FnScope N_u_law_word ["n", "m"] (defScope s_u_law_word) := ⟨rfl, rfl, rfl, by decide +kernel, rfl, by decide +kernel, by decide +kernel⟩
abbrev s_u_law_bent : Stmt := topS 27
abbrev N_u_law_bent : List Str := ["n", "rows", "odd", "at", "home", "row", "some", "bent"]
theorem sc_u_law_bent : FnScope N_u_law_bent ["n", "rows"] (defScope s_u_law_bent) := ⟨rfl, rfl, rfl, by decide +kernel, rfl, by decide +kernel, by decide +kernel⟩
abbrev s_u_law_is_name : Stmt := topS 23
abbrev N_u_law_is_name : List Str := ["item", "sign"]
theorem sc_u_law_is_name : FnScope N_u_law_is_name ["item"] (defScope s_u_law_is_name) := ⟨rfl, rfl, rfl, by decide +kernel, rfl, by decide +kernel, by decide +kernel⟩
abbrev s_u_law_is_good : Stmt := topS 24
abbrev N_u_law_is_good : List Str := ["item", "found", "row", "own"]
theorem sc_u_law_is_good : FnScope N_u_law_is_good ["item"] (defScope s_u_law_is_good) := ⟨rfl, rfl, rfl, by decide +kernel, rfl, by decide +kernel, by decide +kernel⟩
abbrev s_is_name : Stmt := topS 15
abbrev N_is_name : List Str := ["thing", "sign"]
theorem sc_is_name : FnScope N_is_name ["thing"] (defScope s_is_name) := ⟨rfl, rfl, rfl, by decide +kernel, rfl, by decide +kernel, by decide +kernel⟩
abbrev s_carrier_names : Stmt := topS 19
abbrev N_carrier_names : List Str := ["carriers", "word", "members", "name"]
theorem sc_carrier_names : FnScope N_carrier_names ["carriers"] (defScope s_carrier_names) := ⟨rfl, rfl, rfl, by decide +kernel, rfl, by decide +kernel, by decide +kernel⟩
abbrev s_u_is_carrier : Stmt := topS 17
abbrev N_u_is_carrier : List Str := ["thing", "name", "members", "member"]
theorem sc_u_is_carrier : FnScope N_u_is_carrier ["thing"] (defScope s_u_is_carrier) := ⟨rfl, rfl, rfl, by decide +kernel, rfl, by decide +kernel, by decide +kernel⟩
abbrev s_is_carriers : Stmt := topS 16
abbrev N_is_carriers : List Str := ["thing", "names", "part"]
theorem sc_is_carriers : FnScope N_is_carriers ["thing"] (defScope s_is_carriers) := ⟨rfl, rfl, rfl, by decide +kernel, rfl, by decide +kernel, by decide +kernel⟩
abbrev s_need_carriers : Stmt := topS 18
abbrev N_need_carriers : List Str := ["carriers"]
theorem sc_need_carriers : FnScope N_need_carriers ["carriers"] (defScope s_need_carriers) := ⟨rfl, rfl, rfl, by decide +kernel, rfl, by decide +kernel, by decide +kernel⟩
abbrev s_u_law_told : Stmt := topS 28
abbrev N_u_law_told : List Str := ["item", "e", "error"]
theorem sc_u_law_told : FnScope N_u_law_told ["item"] (defScope s_u_law_told) := ⟨rfl, rfl, rfl, by decide +kernel, rfl, by decide +kernel, by decide +kernel⟩
abbrev s_law : Stmt := topS 29
abbrev N_law : List Str := ["script", "spot", "turn", "n", "m", "item", "rows", "kept", "due", "told", "home", "row"]
theorem sc_law : FnScope N_law ["script"] (defScope s_law) := ⟨rfl, rfl, rfl, by decide +kernel, rfl, by decide +kernel, by decide +kernel⟩
def ex_0 : Str → Option Bool := fun y => if y = "BadType" then some true else if y = "BadCarriers" then some true else none
def ixs_0 : Str → Option Bool := fun y => if y = "BadType" then some true else if y = "BadCarriers" then some false else none
def ix_BadCarriers : Str → Option Bool := fun y => if y = "BadType" then some false else if y = "BadCarriers" then some true else none
def ix_ValueError : Str → Option Bool := fun y => if y = "BadType" then some true else if y = "BadCarriers" then some true else none
/-- what the top has written -/
structure Fx (K : PySem.W.Frag) (mg : Str → Option Value) where
  A_StairError : Addr
  g_StairError : mg "StairError" = some (.ref A_StairError)
  A_BadCarriers : Addr
  g_BadCarriers : mg "BadCarriers" = some (.ref A_BadCarriers)
  A_BadType : Addr
  g_BadType : mg "BadType" = some (.ref A_BadType)
  A_BadExpression : Addr
  g_BadExpression : mg "BadExpression" = some (.ref A_BadExpression)
  A_BadState : Addr
  g_BadState : mg "BadState" = some (.ref A_BadState)
  A_BadModel : Addr
  g_BadModel : mg "BadModel" = some (.ref A_BadModel)
  A_GreatError : Addr
  g_GreatError : mg "GreatError" = some (.ref A_GreatError)
  A_MissError : Addr
  g_MissError : mg "MissError" = some (.ref A_MissError)
  x_BadType : PySem.W.excIn K A_BadType [.type "ValueError", .type "Exception", .type "BaseException", .type "object"] "ValueError.__new__" = true
  k_BadType : PySem.W.keepIn K (.ref A_BadType) = true
  b_BadType : PySem.W.subIn K (.ref A_BadType) (.type "BaseException") = some true
  t_BadType : PySem.W.typeIn K (.ref A_BadType) = some (.type "type")
  x_BadCarriers : PySem.W.excIn K A_BadCarriers [.type "ValueError", .type "Exception", .type "BaseException", .type "object"] "ValueError.__new__" = true
  k_BadCarriers : PySem.W.keepIn K (.ref A_BadCarriers) = true
  b_BadCarriers : PySem.W.subIn K (.ref A_BadCarriers) (.type "BaseException") = some true
  t_BadCarriers : PySem.W.typeIn K (.ref A_BadCarriers) = some (.type "type")
  ex_0 : ∀ (y : Str) (b : Bool), K01.ex_0 y = some b → ∀ C, mg y = some (.ref C) → PySem.W.exmAny K (.ref C) [.ref A_StairError, .ref A_GreatError, .ref A_MissError] = some b
  ixs_0 : ∀ (y : Str) (b : Bool), K01.ixs_0 y = some b → ∀ C, mg y = some (.ref C) → ExcC K C ∧ PySem.W.kitAny K (.ref C) [.ref A_BadExpression, .ref A_BadModel, .ref A_BadState, .ref A_BadType, .ref A_GreatError, .ref A_MissError] = some b
  ix_BadCarriers : ∀ (y : Str) (b : Bool), K01.ix_BadCarriers y = some b → ∀ C, mg y = some (.ref C) → ExcC K C ∧ PySem.W.kitOne K (.ref C) (.ref A_BadCarriers) = some b
  ix_ValueError : ∀ (y : Str) (b : Bool), K01.ix_ValueError y = some b → ∀ C, mg y = some (.ref C) → ExcC K C ∧ PySem.W.kitOne K (.ref C) (.type "ValueError") = some b
  a_u_law_cell : Addr
  d_u_law_cell : FuncData
  F_u_law_cell : Fun K "_law_cell" "_law_cell" s_u_law_cell a_u_law_cell d_u_law_cell
  g_u_law_cell : mg "_law_cell" = some (.ref a_u_law_cell)
  a_u_law_rows : Addr
  d_u_law_rows : FuncData
  F_u_law_rows : Fun K "_law_rows" "_law_rows" s_u_law_rows a_u_law_rows d_u_law_rows
  g_u_law_rows : mg "_law_rows" = some (.ref a_u_law_rows)
  a_elements_of : Addr
  d_elements_of : FuncData
  F_elements_of : Fun K "elements_of" "elements_of" s_elements_of a_elements_of d_elements_of
  g_elements_of : mg "elements_of" = some (.ref a_elements_of)
  a_u_law_word : Addr
  d_u_law_word : FuncData
  F_u_law_word : Fun K "_law_word" "_law_word" s_u_law_word a_u_law_word d_u_law_word
  g_u_law_word : mg "_law_word" = some (.ref a_u_law_word)
  a_u_law_bent : Addr
  d_u_law_bent : FuncData
  F_u_law_bent : Fun K "_law_bent" "_law_bent" s_u_law_bent a_u_law_bent d_u_law_bent
  g_u_law_bent : mg "_law_bent" = some (.ref a_u_law_bent)
  a_u_law_is_name : Addr
  d_u_law_is_name : FuncData
  F_u_law_is_name : Fun K "_law_is_name" "_law_is_name" s_u_law_is_name a_u_law_is_name d_u_law_is_name
  g_u_law_is_name : mg "_law_is_name" = some (.ref a_u_law_is_name)
  a_u_law_is_good : Addr
  d_u_law_is_good : FuncData
  F_u_law_is_good : Fun K "_law_is_good" "_law_is_good" s_u_law_is_good a_u_law_is_good d_u_law_is_good
  g_u_law_is_good : mg "_law_is_good" = some (.ref a_u_law_is_good)
  a_is_name : Addr
  d_is_name : FuncData
  F_is_name : Fun K "is_name" "is_name" s_is_name a_is_name d_is_name
  g_is_name : mg "is_name" = some (.ref a_is_name)
  a_carrier_names : Addr
  d_carrier_names : FuncData
  F_carrier_names : Fun K "carrier_names" "carrier_names" s_carrier_names a_carrier_names d_carrier_names
  g_carrier_names : mg "carrier_names" = some (.ref a_carrier_names)
  a_u_is_carrier : Addr
  d_u_is_carrier : FuncData
  F_u_is_carrier : Fun K "_is_carrier" "_is_carrier" s_u_is_carrier a_u_is_carrier d_u_is_carrier
  g_u_is_carrier : mg "_is_carrier" = some (.ref a_u_is_carrier)
  a_is_carriers : Addr
  d_is_carriers : FuncData
  F_is_carriers : Fun K "is_carriers" "is_carriers" s_is_carriers a_is_carriers d_is_carriers
  g_is_carriers : mg "is_carriers" = some (.ref a_is_carriers)
  a_need_carriers : Addr
  d_need_carriers : FuncData
  F_need_carriers : Fun K "need_carriers" "need_carriers" s_need_carriers a_need_carriers d_need_carriers
  g_need_carriers : mg "need_carriers" = some (.ref a_need_carriers)
  a_u_law_told : Addr
  d_u_law_told : FuncData
  F_u_law_told : Fun K "_law_told" "_law_told" s_u_law_told a_u_law_told d_u_law_told
  g_u_law_told : mg "_law_told" = some (.ref a_u_law_told)
  a_law : Addr
  d_law : FuncData
  F_law : Fun K "law" "law" s_law a_law d_law
  n_ValueError : mg "ValueError" = none
  n_all : mg "all" = none
  n_isinstance : mg "isinstance" = none
  n_len : mg "len" = none
  n_list : mg "list" = none
  n_min : mg "min" = none
  n_range : mg "range" = none
  n_repr : mg "repr" = none
  n_set : mg "set" = none
  n_str : mg "str" = none
  n_tuple : mg "tuple" = none
  v_FIGURES : Value
  c_FIGURES : mg "FIGURES" = some v_FIGURES
  r_FIGURES : RelV (.str "0123456789") v_FIGURES
  v_MOST_ELEMENTS : Value
  c_MOST_ELEMENTS : mg "MOST_ELEMENTS" = some v_MOST_ELEMENTS
  r_MOST_ELEMENTS : RelV (.int 4) v_MOST_ELEMENTS
  v_MOST_SETS : Value
  c_MOST_SETS : mg "MOST_SETS" = some v_MOST_SETS
  r_MOST_SETS : RelV (.int 3) v_MOST_SETS
  v_MOST_SIGNS : Value
  c_MOST_SIGNS : mg "MOST_SIGNS" = some v_MOST_SIGNS
  r_MOST_SIGNS : RelV (.int 8) v_MOST_SIGNS
  v_SMALL_LETTERS : Value
  c_SMALL_LETTERS : mg "SMALL_LETTERS" = some v_SMALL_LETTERS
  r_SMALL_LETTERS : RelV (.str "abcdefghijklmnopqrstuvwxyz") v_SMALL_LETTERS
/-! ### _law_cell -/
def body_u_law_cell : SD := (sSeq (sPut (dBin oAdd (dBin oIx (dVar 1) (dC (.int 0))) (dC (.int 1))) (dVar 1) (dC (.int 0))) (sSeq (sSet 2 (dBin oIx (dVar 1) (dC (.int 0)))) (sSeq (sSet 3 (dBin oAdd (dBin oMul (dBin oMul (dC (.int 31)) (dVar 2)) (dVar 2)) (dBin oMul (dC (.int 7919)) (dVar 2)))) (sSeq (sIf (tAndD (toB (dBin oGt (dFn1 oLen (dVar 0)) (dC (.int 0)))) (tAndD (toB (dBin oGe (dBin oIx (dVar 0) (dBin oMod (dVar 2) (dFn1 oLen (dVar 0)))) (dBin oPow (dC (.int 10)) (dC (.int 18))))) (toB (dBin oLt (dBin oDiv (dVar 2) (dFn1 oLen (dVar 0))) (dC (.int 60)))))) (sSeq (sSet 4 (dBin oIx (dVar 0) (dBin oMod (dVar 2) (dFn1 oLen (dVar 0))))) (sSeq (sFor (itRng (dBin oDiv (dVar 2) (dFn1 oLen (dVar 0)))) (toName 5) (sSet 4 (dBin oDiv (dVar 4) (dC (.int 306783379))))) (sIf (toB (dBin oGt (dVar 4) (dC (.int 0)))) (sRet (dBin oMod (dVar 4) (dC (.int 306783379)))) sNil))) sNil) (sSeq (sIf (toB (dBin oGt (dFn1 oLen (dVar 0)) (dC (.int 0)))) (sSet 3 (dBin oAdd (dVar 3) (dBin oMul (dBin oMod (dBin oIx (dVar 0) (dBin oMod (dVar 2) (dFn1 oLen (dVar 0)))) (dC (.int 2147483629))) (dBin oAdd (dC (.int 1)) (dBin oDiv (dVar 2) (dFn1 oLen (dVar 0))))))) sNil) (sRet (dBin oDiv (dBin oMod (dBin oPow (dBin oMod (dVar 3) (dC (.int 2147483647))) (dC (.int 5))) (dC (.int 2147483647))) (dC (.int 7)))))))))
def fn_u_law_cell : Fn := bodyFn (["cells", "spot"] : List Str).length N_u_law_cell.length body_u_law_cell
theorem ar_u_law_cell : Arity (["cells", "spot"] : List Str).length fn_u_law_cell := bodyFn_arity _ _ _
theorem bi_u_law_cell {K : PySem.W.Frag} {mg : Str → Option Value} (T : Fx K mg) : Binds K T.d_u_law_cell ["cells", "spot"] [] := T.F_u_law_cell.binds (ps := ["cells", "spot"]) fun _ _ _ _ _ _ us hl => match us, hl with | [_, _], _ => rfl
theorem ok_u_law_cell {P : Program} {w : World} {K : PySem.W.Frag} {mg : Str → Option Value} {base : Heap} (T : Fx K mg) : FnG P w K mg base 1 T.a_u_law_cell T.d_u_law_cell ["cells", "spot"] fn_u_law_cell :=
  fn_body (b := body_u_law_cell) (k := 0) T.F_u_law_cell sc_u_law_cell fun cdv A outer s H E C tk pass => (bd_cons (sd_put (ed_op od_add (ed_ix C (ed_var 1) ed_int) ed_int) (ed_var 1) ed_int) (bd_cons (sd_set (i := 2) C.hN (ed_ix C (ed_var 1) ed_int)) (bd_cons (sd_set (i := 3) C.hN (ed_op od_add (ed_op od_mul (ed_op od_mul ed_int (ed_var 2)) (ed_var 2)) (ed_op od_mul ed_int (ed_var 2)))) (bd_cons (sd_if (td_w (wd_and (td_cmp od_gt (ed_fn1 cd_len T.n_len (by decide +kernel) (ed_var 0)) ed_int) (wd_and (td_cmp od_ge (ed_ix C (ed_var 0) (ed_op od_mod (ed_var 2) (ed_fn1 cd_len T.n_len (by decide +kernel) (ed_var 0)))) (ed_op od_pow ed_int ed_int)) (wd_and1 (td_cmp od_lt (ed_op od_div (ed_var 2) (ed_fn1 cd_len T.n_len (by decide +kernel) (ed_var 0))) ed_int))))) (bd_cons (sd_set (i := 4) C.hN (ed_ix C (ed_var 0) (ed_op od_mod (ed_var 2) (ed_fn1 cd_len T.n_len (by decide +kernel) (ed_var 0))))) (bd_cons (sd_for C pass (id_rng T.n_range (ed_op od_div (ed_var 2) (ed_fn1 cd_len T.n_len (by decide +kernel) (ed_var 0)))) (gd_name (i := 5) C.hN) (bd_one (sd_set (i := 4) C.hN (ed_op od_div (ed_var 4) ed_int)))) (bd_one (sd_if (td_cmp od_gt (ed_var 4) ed_int) (bd_one (sd_ret (ed_op od_mod (ed_var 4) ed_int))) bd_nil)))) bd_nil) (bd_cons (sd_if (td_cmp od_gt (ed_fn1 cd_len T.n_len (by decide +kernel) (ed_var 0)) ed_int) (bd_one (sd_set (i := 3) C.hN (ed_op od_add (ed_var 3) (ed_op od_mul (ed_op od_mod (ed_ix C (ed_var 0) (ed_op od_mod (ed_var 2) (ed_fn1 cd_len T.n_len (by decide +kernel) (ed_var 0)))) ed_int) (ed_op od_add ed_int (ed_op od_div (ed_var 2) (ed_fn1 cd_len T.n_len (by decide +kernel) (ed_var 0)))))))) bd_nil) (bd_one (sd_ret (ed_op od_div (ed_op od_mod (ed_op od_pow (ed_op od_mod (ed_var 3) ed_int) ed_int) ed_int) ed_int))))))))
/-! ### _law_rows -/
def body_u_law_rows : SD := (sSeq (sPar 2 3 (dCons (dCall fn_u_law_cell (dCons (dVar 0) (dCons (dVar 1) dNil))) (dCons (dLstC dNil) dNil))) (sSeq (sSet 4 (dLstC (dCons (dC (.str "a")) (dCons (dC (.str "b")) (dCons (dC (.str "c")) (dCons (dC (.str "d")) (dCons (dC (.str "e1")) (dCons (dC (.str "e2")) (dCons (dC (.str "e3")) (dCons (dC (.str "e4")) (dCons (dC (.str "x")) (dCons (dC (.str "jobs")) (dCons (dC (.str "set")) (dCons (dC (.str "one")) (dCons (dC (.str "some")) (dCons (dC (.str "map")) (dCons (dC (.str "yes1")) (dCons (dC (.str "no2")) (dCons (dC (.str "z9")) dNil))))))))))))))))))) (sSeq (sExpr (dApp (dVar 4) (dC (.str "q")))) (sSeq (sFor (itRng (dBin oMod (dVar 2) (dC (.int 5)))) (toName 5) (sSeq (sSet 6 (dCall fn_u_law_cell (dCons (dVar 0) (dCons (dVar 1) dNil)))) (sSeq (sSet 7 (dLc (itRng (dBin oIx (dLst (dCons (dC (.int 1)) (dCons (dC (.int 2)) (dCons (dC (.int 3)) (dCons (dC (.int 4)) (dCons (dC (.int 5)) (dCons (dC (.int 0)) (dCons (dC (.int 2)) (dCons (dC (.int 2)) dNil))))))))) (dBin oMod (dBin oDiv (dVar 6) (dC (.int 18))) (dC (.int 8))))) (toName 8) (fun l => kTest (fun _ => M.ret true) (kPush l (dBin oIx (dVar 4) (dBin oMod (dBin oAdd (dBin oAdd (dVar 6) (dBin oMul (dC (.int 5)) (dVar 8))) (dBin oMul (dC (.int 7)) (dVar 5))) (dC (.int 18)))))) [8])) (sExpr (dApp (dVar 3) (dTup (dCons (dBin oIx (dVar 4) (dBin oMod (dBin oAdd (dBin oDiv (dVar 6) (dC (.int 144))) (dVar 5)) (dC (.int 18)))) (dCons (dFn1 oTuple (dVar 7)) dNil)))))))) (sRet (dFn1 oTuple (dVar 3)))))))
def fn_u_law_rows : Fn := bodyFn (["cells", "spot"] : List Str).length N_u_law_rows.length body_u_law_rows
theorem ar_u_law_rows : Arity (["cells", "spot"] : List Str).length fn_u_law_rows := bodyFn_arity _ _ _
theorem bi_u_law_rows {K : PySem.W.Frag} {mg : Str → Option Value} (T : Fx K mg) : Binds K T.d_u_law_rows ["cells", "spot"] [] := T.F_u_law_rows.binds (ps := ["cells", "spot"]) fun _ _ _ _ _ _ us hl => match us, hl with | [_, _], _ => rfl
theorem ok_u_law_rows {P : Program} {w : World} {K : PySem.W.Frag} {mg : Str → Option Value} {base : Heap} (T : Fx K mg) : FnG P w K mg base 2 T.a_u_law_rows T.d_u_law_rows ["cells", "spot"] fn_u_law_rows :=
  fn_body (b := body_u_law_rows) (k := 1) T.F_u_law_rows sc_u_law_rows fun cdv A outer s H E C tk pass => (bd_cons (sd_par (i := 2) (j := 3) C.hc C.hN (ad_cons (ed_call (ok_u_law_cell T) ar_u_law_cell C (by decide) tk T.g_u_law_cell T.F_u_law_cell.kp (bi_u_law_cell T) (ad_cons (ed_var 0) (ad_cons (ed_var 1) ad_nil))) (ad_cons (ed_lstC ad_nil) ad_nil)) rfl) (bd_cons (sd_set (i := 4) C.hN (ed_lstC (ad_cons ed_str (ad_cons ed_str (ad_cons ed_str (ad_cons ed_str (ad_cons ed_str (ad_cons ed_str (ad_cons ed_str (ad_cons ed_str (ad_cons ed_str (ad_cons ed_str (ad_cons ed_str (ad_cons ed_str (ad_cons ed_str (ad_cons ed_str (ad_cons ed_str (ad_cons ed_str (ad_cons ed_str ad_nil))))))))))))))))))) (bd_cons (sd_expr (ed_append (ed_var 4) ed_str)) (bd_cons (sd_for C pass (id_rng T.n_range (ed_op od_mod (ed_var 2) ed_int)) (gd_name (i := 5) C.hN) (bd_cons (sd_set (i := 6) C.hN (ed_call (ok_u_law_cell T) ar_u_law_cell C (by decide) tk T.g_u_law_cell T.F_u_law_cell.kp (bi_u_law_cell T) (ad_cons (ed_var 0) (ad_cons (ed_var 1) ad_nil)))) (bd_cons (sd_setLc (i := 7) C (id_rng T.n_range (ed_ix C (ed_lst (ad_cons ed_int (ad_cons ed_int (ad_cons ed_int (ad_cons ed_int (ad_cons ed_int (ad_cons ed_int (ad_cons ed_int (ad_cons ed_int ad_nil))))))))) (ed_op od_mod (ed_op od_div (ed_var 6) ed_int) ed_int))) (blkOk_by (N := N_u_law_rows) (sc := defScope s_u_law_rows) (own := [("j", 8)]) (by decide +kernel)) (by decide) (fun _ _ _ _ _ => (gd_name (i := 8) C.blk.hN)) (fun _ _ _ _ _ => td_nil) (fun _ _ _ _ _ => (ed_ix C.blk (ed_var 4) (ed_op od_mod (ed_op od_add (ed_op od_add (ed_var 6) (ed_op od_mul ed_int (ed_var 8))) (ed_op od_mul ed_int (ed_var 5))) ed_int))) (hsw := sw_true rfl rfl rfl (by decide +kernel))) (bd_one (sd_expr (ed_append (ed_var 3) (ed_tup (ad_cons (ed_ix C (ed_var 4) (ed_op od_mod (ed_op od_add (ed_op od_div (ed_var 6) ed_int) (ed_var 5)) ed_int)) (ad_cons (ed_ty1 cd_tuple T.n_tuple (by decide +kernel) (ed_var 7)) ad_nil))))))))) (bd_one (sd_ret (ed_ty1 cd_tuple T.n_tuple (by decide +kernel) (ed_var 3))))))))
/-! ### elements_of -/
def body_elements_of : SD := (sSeq (sFor (itAny (dVar 0)) (toTup (toCons (toName 2) (toCons (toName 3) toNil))) (sIf (toB (dBin oEq (dVar 2) (dVar 1))) (sRet (dVar 3)) sNil)) (sRaise "BadType" (dCons (dC (.str "no set is called so")) dNil)))
def fn_elements_of : Fn := bodyFn (["carriers", "name"] : List Str).length N_elements_of.length body_elements_of
theorem ar_elements_of : Arity (["carriers", "name"] : List Str).length fn_elements_of := bodyFn_arity _ _ _
theorem bi_elements_of {K : PySem.W.Frag} {mg : Str → Option Value} (T : Fx K mg) : Binds K T.d_elements_of ["carriers", "name"] [] := T.F_elements_of.binds (ps := ["carriers", "name"]) fun _ _ _ _ _ _ us hl => match us, hl with | [_, _], _ => rfl
theorem ok_elements_of {P : Program} {w : World} {K : PySem.W.Frag} {mg : Str → Option Value} {base : Heap} (T : Fx K mg) : FnG P w K mg base 1 T.a_elements_of T.d_elements_of ["carriers", "name"] fn_elements_of :=
  fn_body (b := body_elements_of) (k := 0) T.F_elements_of sc_elements_of fun cdv A outer s H E C tk pass => (bd_cons (sd_for C pass (id_any (ed_var 0)) (gd_tup C.hc (gs_cons (gd_name (i := 2) C.hN) (gs_cons (gd_name (i := 3) C.hN) gs_nil)) (arCons (arCons arNil))) (bd_one (sd_if (td_cmp (od_eq C.u64) (ed_var 2) (ed_var 1)) (bd_one (sd_ret (ed_var 3))) bd_nil))) (bd_one (sd_raise C tk PySem.F.excBase_ValueError T.x_BadType T.g_BadType T.k_BadType (raises_own T.b_BadType T.t_BadType) (ad_cons ed_str ad_nil))))
theorem kb_elements_of_name_carriers {K : PySem.W.Frag} {mg : Str → Option Value} (T : Fx K mg) : KBind T.d_elements_of ["carriers", "name"] ["name", "carriers"] swap2 := fun s ws hl => by
  obtain ⟨oc, od, kV, doc, pm, an, cdv, ct, osl, e, lk, hcd⟩ := T.F_elements_of.ex
  rw [e]
  exact match ws, hl with | [u0, u1], _ => .of_eq rfl
/-! ### _law_word -/
def body_u_law_word : SD := (sSeq (sSet 2 (dC (.str "abcdefghijklmnopqrstuvwxyz0123456789"))) (sSeq (sSet 3 (dJoin (dC (.str "")) (dLc (itRng (dBin oMod (dVar 0) (dC (.int 10)))) (toName 7) (fun l => kTest (fun _ => M.ret true) (kPush l (dBin oIx (dVar 2) (dBin oMod (dBin oAdd (dBin oAdd (dBin oDiv (dVar 0) (dC (.int 10))) (dBin oMul (dBin oMul (dBin oDiv (dVar 1) (dC (.int 36))) (dVar 7)) (dVar 7))) (dBin oMul (dC (.int 7)) (dVar 7))) (dC (.int 36)))))) [7]))) (sSeq (sPar 4 5 (dCons (dBin oMod (dVar 1) (dBin oAdd (dFn1 oLen (dVar 3)) (dC (.int 1)))) (dCons (dLst (dCons (dC (.str "A")) (dCons (dC (.str " ")) (dCons (dC (.str "_")) (dCons (dC (.str "-")) (dCons (dC (.str "\n")) (dCons (dC (.str "\"")) (dCons (dC (.str "'")) (dCons (dC (.str "")) (dCons (dC (.str "z")) (dCons (dC (.str "0")) (dCons (dC (.str ".")) (dCons (dC (.str ":")) dNil))))))))))))) dNil))) (sSeq (sSet 6 (dLst (dCons (dVar 3) (dCons (dBin oAdd (dBin oAdd (dSl (dVar 3) pNone (pSome (dVar 4))) (dBin oIx (dVar 5) (dBin oMod (dBin oDiv (dVar 1) (dC (.int 10))) (dC (.int 12))))) (dSl (dVar 3) (pSome (dVar 4)) pNone)) (dCons (dC (.str "yes")) (dCons (dC (.str "no")) (dCons (dC (.str "yess")) (dCons (dC (.str "num")) (dCons (dC (.str "a")) (dCons (dBin oMul (dC (.str "a")) (dC (.int 8))) (dCons (dBin oMul (dC (.str "a")) (dC (.int 9))) dNil))))))))))) (sRet (dBin oIx (dVar 6) (dBin oIx (dLst (dCons (dC (.int 0)) (dCons (dC (.int 0)) (dCons (dC (.int 0)) (dCons (dC (.int 1)) (dCons (dC (.int 1)) (dCons (dC (.int 2)) (dCons (dC (.int 3)) (dCons (dC (.int 4)) (dCons (dC (.int 5)) (dCons (dC (.int 6)) (dCons (dC (.int 7)) (dCons (dC (.int 8)) dNil))))))))))))) (dBin oMod (dBin oDiv (dVar 1) (dC (.int 120))) (dC (.int 12))))))))))
def fn_u_law_word : Fn := bodyFn (["n", "m"] : List Str).length N_u_law_word.length body_u_law_word
theorem ar_u_law_word : Arity (["n", "m"] : List Str).length fn_u_law_word := bodyFn_arity _ _ _
theorem bi_u_law_word {K : PySem.W.Frag} {mg : Str → Option Value} (T : Fx K mg) : Binds K T.d_u_law_word ["n", "m"] [] := T.F_u_law_word.binds (ps := ["n", "m"]) fun _ _ _ _ _ _ us hl => match us, hl with | [_, _], _ => rfl
theorem ok_u_law_word {P : Program} {w : World} {K : PySem.W.Frag} {mg : Str → Option Value} {base : Heap} (T : Fx K mg) : FnG P w K mg base 1 T.a_u_law_word T.d_u_law_word ["n", "m"] fn_u_law_word :=
  fn_body (b := body_u_law_word) (k := 0) T.F_u_law_word sc_u_law_word fun cdv A outer s H E C tk pass => (bd_cons (sd_set (i := 2) C.hN ed_str) (bd_cons (sd_set (i := 3) C.hN (ed_join ed_str (ed_lc C (id_rng T.n_range (ed_op od_mod (ed_var 0) ed_int)) (blkOk_by (N := N_u_law_word) (sc := defScope s_u_law_word) (own := [("k", 7)]) (by decide +kernel)) (by decide) (fun _ _ _ _ _ => (gd_name (i := 7) C.blk.hN)) (fun _ _ _ _ _ => td_nil) (fun _ _ _ _ _ => (ed_ix C.blk (ed_var 2) (ed_op od_mod (ed_op od_add (ed_op od_add (ed_op od_div (ed_var 0) ed_int) (ed_op od_mul (ed_op od_mul (ed_op od_div (ed_var 1) ed_int) (ed_var 7)) (ed_var 7))) (ed_op od_mul ed_int (ed_var 7))) ed_int)))))) (bd_cons (sd_par (i := 4) (j := 5) C.hc C.hN (ad_cons (ed_op od_mod (ed_var 1) (ed_op od_add (ed_fn1 cd_len T.n_len (by decide +kernel) (ed_var 3)) ed_int)) (ad_cons (ed_lst (ad_cons ed_str (ad_cons ed_str (ad_cons ed_str (ad_cons ed_str (ad_cons ed_str (ad_cons ed_str (ad_cons ed_str (ad_cons ed_str (ad_cons ed_str (ad_cons ed_str (ad_cons ed_str (ad_cons ed_str ad_nil))))))))))))) ad_nil)) rfl) (bd_cons (sd_set (i := 6) C.hN (ed_lst (ad_cons (ed_var 3) (ad_cons (ed_op od_add (ed_op od_add (ed_sl (ed_var 3) pd_none (pd_some (ed_var 4))) (ed_ix C (ed_var 5) (ed_op od_mod (ed_op od_div (ed_var 1) ed_int) ed_int))) (ed_sl (ed_var 3) (pd_some (ed_var 4)) pd_none)) (ad_cons ed_str (ad_cons ed_str (ad_cons ed_str (ad_cons ed_str (ad_cons ed_str (ad_cons (ed_op od_mul ed_str ed_int) (ad_cons (ed_op od_mul ed_str ed_int) ad_nil))))))))))) (bd_one (sd_ret (ed_ix C (ed_var 6) (ed_ix C (ed_lst (ad_cons ed_int (ad_cons ed_int (ad_cons ed_int (ad_cons ed_int (ad_cons ed_int (ad_cons ed_int (ad_cons ed_int (ad_cons ed_int (ad_cons ed_int (ad_cons ed_int (ad_cons ed_int (ad_cons ed_int ad_nil))))))))))))) (ed_op od_mod (ed_op od_div (ed_var 1) ed_int) ed_int)))))))))
/-! ### _law_bent -/
def body_u_law_bent : SD := (sSeq (sSet 2 (dBin oIx (dLst (dCons (dC (.none)) (dCons (dC (.int 5)) (dCons (dC (.bool true)) (dCons (dC (.str "")) (dCons (dC (.str "A")) (dCons (dTup dNil) (dCons (dLst dNil) (dCons (dC (.str "a")) (dCons (dC (.str "yes")) (dCons (dTup (dCons (dC (.str "a")) dNil)) dNil))))))))))) (dBin oMod (dVar 0) (dC (.int 10))))) (sSeq (sIf (toB (dBin oEq (dVar 1) (dTup dNil))) (sRet (dBin oIx (dLst (dCons (dTup dNil) (dCons (dLst dNil) (dCons (dC (.none)) (dCons (dTup (dCons (dVar 2) dNil)) (dCons (dTup (dCons (dTup (dCons (dVar 2) (dCons (dTup (dCons (dC (.str "a")) dNil)) dNil))) dNil)) (dCons dDict0 dNil))))))) (dBin oMod (dBin oDiv (dVar 0) (dC (.int 10))) (dC (.int 6))))) sNil) (sSeq (sSet 3 (dBin oMod (dBin oDiv (dVar 0) (dC (.int 10))) (dFn1 oLen (dVar 1)))) (sSeq (sAsg (toTup (toCons (toName 4) (toCons (toName 5) toNil))) (dBin oIx (dVar 1) (dVar 3))) (sSeq (sSet 6 (dLstC (dCons (dTup (dCons (dVar 2) (dCons (dVar 5) dNil))) (dCons (dTup (dCons (dVar 4) (dCons (dVar 2) dNil))) (dCons (dTup (dCons (dVar 4) (dCons (dFn1 oList (dVar 5)) dNil))) (dCons (dTup (dCons (dVar 4) dNil)) (dCons (dTup (dCons (dVar 4) (dCons (dVar 5) (dCons (dTup dNil) dNil)))) (dCons (dLst (dCons (dVar 4) (dCons (dVar 5) dNil))) (dCons (dVar 2) dNil))))))))) (sSeq (sExpr (dApp (dVar 6) (dTup (dCons (dVar 4) (dCons (dBin oAdd (dTup (dCons (dVar 2) dNil)) (dSl (dVar 5) (pSome (dC (.int 1))) pNone)) dNil))))) (sSeq (sSet 7 (dBin oIx (dVar 6) (dBin oMod (dBin oDiv (dVar 0) (dC (.int 100))) (dC (.int 8))))) (sRet (dBin oIx (dLst (dCons (dBin oAdd (dBin oAdd (dSl (dVar 1) pNone (pSome (dVar 3))) (dTup (dCons (dVar 7) dNil))) (dSl (dVar 1) (pSome (dBin oAdd (dVar 3) (dC (.int 1)))) pNone)) (dCons (dFn1 oList (dVar 1)) (dCons (dBin oAdd (dVar 1) (dSl (dVar 1) pNone (pSome (dC (.int 1))))) (dCons (dBin oAdd (dSl (dVar 1) pNone (pSome (dVar 3))) (dTup (dCons (dVar 7) dNil))) dNil))))) (dBin oMod (dBin oDiv (dVar 0) (dC (.int 800))) (dC (.int 4))))))))))))
def fn_u_law_bent : Fn := bodyFn (["n", "rows"] : List Str).length N_u_law_bent.length body_u_law_bent
theorem ar_u_law_bent : Arity (["n", "rows"] : List Str).length fn_u_law_bent := bodyFn_arity _ _ _
theorem bi_u_law_bent {K : PySem.W.Frag} {mg : Str → Option Value} (T : Fx K mg) : Binds K T.d_u_law_bent ["n", "rows"] [] := T.F_u_law_bent.binds (ps := ["n", "rows"]) fun _ _ _ _ _ _ us hl => match us, hl with | [_, _], _ => rfl
theorem ok_u_law_bent {P : Program} {w : World} {K : PySem.W.Frag} {mg : Str → Option Value} {base : Heap} (T : Fx K mg) : FnG P w K mg base 1 T.a_u_law_bent T.d_u_law_bent ["n", "rows"] fn_u_law_bent :=
  fn_body (b := body_u_law_bent) (k := 0) T.F_u_law_bent sc_u_law_bent fun cdv A outer s H E C tk pass => (bd_cons (sd_set (i := 2) C.hN (ed_ix C (ed_lst (ad_cons ed_non (ad_cons ed_int (ad_cons ed_bl (ad_cons ed_str (ad_cons ed_str (ad_cons (ed_tup ad_nil) (ad_cons (ed_lst ad_nil) (ad_cons ed_str (ad_cons ed_str (ad_cons (ed_tup (ad_cons ed_str ad_nil)) ad_nil))))))))))) (ed_op od_mod (ed_var 0) ed_int))) (bd_cons (sd_if (td_cmp (od_eq C.u64) (ed_var 1) (ed_tup ad_nil)) (bd_one (sd_ret (ed_ix C (ed_lst (ad_cons (ed_tup ad_nil) (ad_cons (ed_lst ad_nil) (ad_cons ed_non (ad_cons (ed_tup (ad_cons (ed_var 2) ad_nil)) (ad_cons (ed_tup (ad_cons (ed_tup (ad_cons (ed_var 2) (ad_cons (ed_tup (ad_cons ed_str ad_nil)) ad_nil))) ad_nil)) (ad_cons ed_dict0 ad_nil))))))) (ed_op od_mod (ed_op od_div (ed_var 0) ed_int) ed_int)))) bd_nil) (bd_cons (sd_set (i := 3) C.hN (ed_op od_mod (ed_op od_div (ed_var 0) ed_int) (ed_fn1 cd_len T.n_len (by decide +kernel) (ed_var 1)))) (bd_cons (sd_asg (ed_ix C (ed_var 1) (ed_var 3)) (gd_tup C.hc (gs_cons (gd_name (i := 4) C.hN) (gs_cons (gd_name (i := 5) C.hN) gs_nil)) (arCons (arCons arNil)))) (bd_cons (sd_set (i := 6) C.hN (ed_lstC (ad_cons (ed_tup (ad_cons (ed_var 2) (ad_cons (ed_var 5) ad_nil))) (ad_cons (ed_tup (ad_cons (ed_var 4) (ad_cons (ed_var 2) ad_nil))) (ad_cons (ed_tup (ad_cons (ed_var 4) (ad_cons (ed_ty1 cd_list T.n_list (by decide +kernel) (ed_var 5)) ad_nil))) (ad_cons (ed_tup (ad_cons (ed_var 4) ad_nil)) (ad_cons (ed_tup (ad_cons (ed_var 4) (ad_cons (ed_var 5) (ad_cons (ed_tup ad_nil) ad_nil)))) (ad_cons (ed_lst (ad_cons (ed_var 4) (ad_cons (ed_var 5) ad_nil))) (ad_cons (ed_var 2) ad_nil))))))))) (bd_cons (sd_expr (ed_append (ed_var 6) (ed_tup (ad_cons (ed_var 4) (ad_cons (ed_op od_add (ed_tup (ad_cons (ed_var 2) ad_nil)) (ed_sl (ed_var 5) (pd_some ed_int) pd_none)) ad_nil))))) (bd_cons (sd_set (i := 7) C.hN (ed_ix C (ed_var 6) (ed_op od_mod (ed_op od_div (ed_var 0) ed_int) ed_int))) (bd_one (sd_ret (ed_ix C (ed_lst (ad_cons (ed_op od_add (ed_op od_add (ed_sl (ed_var 1) pd_none (pd_some (ed_var 3))) (ed_tup (ad_cons (ed_var 7) ad_nil))) (ed_sl (ed_var 1) (pd_some (ed_op od_add (ed_var 3) ed_int)) pd_none)) (ad_cons (ed_ty1 cd_list T.n_list (by decide +kernel) (ed_var 1)) (ad_cons (ed_op od_add (ed_var 1) (ed_sl (ed_var 1) pd_none (pd_some ed_int))) (ad_cons (ed_op od_add (ed_sl (ed_var 1) pd_none (pd_some (ed_var 3))) (ed_tup (ad_cons (ed_var 7) ad_nil))) ad_nil))))) (ed_op od_mod (ed_op od_div (ed_var 0) ed_int) ed_int)))))))))))
/-! ### _law_is_name -/
def body_u_law_is_name : SD := (sSeq (sIf (tOrD (tNotD (toB (dFn1 (oIsB "str") (dVar 0)))) (tOrD (tNotD (toB (dChain oLe oLe (dC (.int 1)) (dFn1 oLen (dVar 0)) (dC (.int 8))))) (toB (dBin oIn (dVar 0) (dTup (dCons (dC (.str "yes")) (dCons (dC (.str "no")) dNil))))))) (sRet (dC (.bool false))) sNil) (sSeq (sIf (toB (dBin oNe (dLc (itAny (dVar 0)) (toName 1) (fun l => kTest (toB (dBin oNotIn (dVar 1) (dC (.str "abcdefghijklmnopqrstuvwxyz0123456789")))) (kPush l (dVar 1))) [1]) (dLst dNil))) (sRet (dC (.bool false))) sNil) (sRet (dBin oNotIn (dBin oIx (dVar 0) (dC (.int 0))) (dC (.str "0123456789"))))))
def fn_u_law_is_name : Fn := bodyFn (["item"] : List Str).length N_u_law_is_name.length body_u_law_is_name
theorem ar_u_law_is_name : Arity (["item"] : List Str).length fn_u_law_is_name := bodyFn_arity _ _ _
theorem bi_u_law_is_name {K : PySem.W.Frag} {mg : Str → Option Value} (T : Fx K mg) : Binds K T.d_u_law_is_name ["item"] [] := T.F_u_law_is_name.binds (ps := ["item"]) fun _ _ _ _ _ _ us hl => match us, hl with | [_], _ => rfl
theorem ok_u_law_is_name {P : Program} {w : World} {K : PySem.W.Frag} {mg : Str → Option Value} {base : Heap} (T : Fx K mg) : FnG P w K mg base 1 T.a_u_law_is_name T.d_u_law_is_name ["item"] fn_u_law_is_name :=
  fn_body (b := body_u_law_is_name) (k := 0) T.F_u_law_is_name sc_u_law_is_name fun cdv A outer s H E C tk pass => (bd_cons (sd_if (td_w (wd_or (td_not (td_val (ed_isB (T := "str") (by decide) T.n_isinstance T.n_str (by decide +kernel) (ed_var 0) rfl))) (wd_or (td_not (td_chain od_le od_le ed_int (ed_fn1 cd_len T.n_len (by decide +kernel) (ed_var 0)) ed_int)) (wd_or1 (td_cmp (od_in C.u65) (ed_var 0) (ed_tup (ad_cons ed_str (ad_cons ed_str ad_nil)))))))) (bd_one (sd_ret ed_bl)) bd_nil) (bd_cons (sd_if (td_cmp (od_ne C.u64) (ed_lc C (id_any (ed_var 0)) (blkOk_by (N := N_u_law_is_name) (sc := defScope s_u_law_is_name) (own := [("sign", 1)]) (by decide +kernel)) (by decide) (fun _ _ _ _ _ => (gd_name (i := 1) C.blk.hN)) (fun _ _ _ _ _ => (td_one (td_cmp (od_notIn C.blk.u65) (ed_var 1) ed_str))) (fun _ _ _ _ _ => (ed_var 1))) (ed_lst ad_nil)) (bd_one (sd_ret ed_bl)) bd_nil) (bd_one (sd_ret (ed_cmp (od_notIn C.u65) (ed_ix C (ed_var 0) ed_int) ed_str)))))
/-! ### _law_is_good -/
def body_u_law_is_good : SD := (sSeq (sIf (tOrD (tNotD (toB (dFn1 (oIsB "tuple") (dVar 0)))) (toB (dBin oGt (dFn1 oLen (dVar 0)) (dC (.int 3))))) (sRet (dC (.bool false))) sNil) (sSeq (sSet 1 (dLst dNil)) (sSeq (sFor (itAny (dVar 0)) (toName 2) (sSeq (sIf (tOrD (tNotD (toB (dFn1 (oIsB "tuple") (dVar 2)))) (tOrD (toB (dBin oNe (dFn1 oLen (dVar 2)) (dC (.int 2)))) (tOrD (tNotD (toB (dFn1 (oIsB "tuple") (dBin oIx (dVar 2) (dC (.int 1)))))) (tNotD (toB (dChain oLe oLe (dC (.int 1)) (dFn1 oLen (dBin oIx (dVar 2) (dC (.int 1)))) (dC (.int 4)))))))) (sRet (dC (.bool false))) sNil) (sSet 1 (dBin oAdd (dBin oAdd (dVar 1) (dLst (dCons (dBin oIx (dVar 2) (dC (.int 0))) dNil))) (dFn1 oList (dBin oIx (dVar 2) (dC (.int 1)))))))) (sSeq (sIf (toB (dBin oNe (dLc (itAny (dVar 1)) (toName 3) (fun l => kTest (tNotD (toT (dCall fn_u_law_is_name (dCons (dVar 3) dNil)))) (kPush l (dVar 3))) [3]) (dLst dNil))) (sRet (dC (.bool false))) sNil) (sRet (dBin oEq (dFn1 oLenSet (dVar 1)) (dFn1 oLen (dVar 1))))))))
def fn_u_law_is_good : Fn := bodyFn (["item"] : List Str).length N_u_law_is_good.length body_u_law_is_good
theorem ar_u_law_is_good : Arity (["item"] : List Str).length fn_u_law_is_good := bodyFn_arity _ _ _
theorem bi_u_law_is_good {K : PySem.W.Frag} {mg : Str → Option Value} (T : Fx K mg) : Binds K T.d_u_law_is_good ["item"] [] := T.F_u_law_is_good.binds (ps := ["item"]) fun _ _ _ _ _ _ us hl => match us, hl with | [_], _ => rfl
theorem ok_u_law_is_good {P : Program} {w : World} {K : PySem.W.Frag} {mg : Str → Option Value} {base : Heap} (T : Fx K mg) : FnG P w K mg base 2 T.a_u_law_is_good T.d_u_law_is_good ["item"] fn_u_law_is_good :=
  fn_body (b := body_u_law_is_good) (k := 1) T.F_u_law_is_good sc_u_law_is_good fun cdv A outer s H E C tk pass => (bd_cons (sd_if (td_w (wd_or (td_not (td_val (ed_isB (T := "tuple") (by decide) T.n_isinstance T.n_tuple (by decide +kernel) (ed_var 0) rfl))) (wd_or1 (td_cmp od_gt (ed_fn1 cd_len T.n_len (by decide +kernel) (ed_var 0)) ed_int)))) (bd_one (sd_ret ed_bl)) bd_nil) (bd_cons (sd_set (i := 1) C.hN (ed_lst ad_nil)) (bd_cons (sd_for C pass (id_any (ed_var 0)) (gd_name (i := 2) C.hN) (bd_cons (sd_if (td_w (wd_or (td_not (td_val (ed_isB (T := "tuple") (by decide) T.n_isinstance T.n_tuple (by decide +kernel) (ed_var 2) rfl))) (wd_or (td_cmp (od_ne C.u64) (ed_fn1 cd_len T.n_len (by decide +kernel) (ed_var 2)) ed_int) (wd_or (td_not (td_val (ed_isB (T := "tuple") (by decide) T.n_isinstance T.n_tuple (by decide +kernel) (ed_ix C (ed_var 2) ed_int) rfl))) (wd_or1 (td_not (td_chain od_le od_le ed_int (ed_fn1 cd_len T.n_len (by decide +kernel) (ed_ix C (ed_var 2) ed_int)) ed_int))))))) (bd_one (sd_ret ed_bl)) bd_nil) (bd_one (sd_set (i := 1) C.hN (ed_op od_add (ed_op od_add (ed_var 1) (ed_lst (ad_cons (ed_ix C (ed_var 2) ed_int) ad_nil))) (ed_ty1 cd_list T.n_list (by decide +kernel) (ed_ix C (ed_var 2) ed_int))))))) (bd_cons (sd_if (td_cmp (od_ne C.u64) (ed_lc C (id_any (ed_var 1)) (blkOk_by (N := N_u_law_is_good) (sc := defScope s_u_law_is_good) (own := [("own", 3)]) (by decide +kernel)) (by decide) (fun _ _ _ _ _ => (gd_name (i := 3) C.blk.hN)) (fun _ _ _ _ _ => (td_one (td_not (td_truth (ed_call (ok_u_law_is_name T) ar_u_law_is_name C.blk (by decide) takes0 T.g_u_law_is_name T.F_u_law_is_name.kp (bi_u_law_is_name T) (ad_cons (ed_var 3) ad_nil)))))) (fun _ _ _ _ _ => (ed_var 3))) (ed_lst ad_nil)) (bd_one (sd_ret ed_bl)) bd_nil) (bd_one (sd_ret (ed_cmp (od_eq C.u64) (ed_lenSet C T.n_len T.n_set (ed_var 1)) (ed_fn1 cd_len T.n_len (by decide +kernel) (ed_var 1)))))))))
/-! ### is_name -/
def body_is_name : SD := (sSeq (sIf (tOrD (tNotD (toB (dFn1 (oIsB "str") (dVar 0)))) (tNotD (toB (dChain oLe oLe (dC (.int 1)) (dFn1 oLen (dVar 0)) (dC (.int 8)))))) (sRet (dC (.bool false))) sNil) (sSeq (sIf (tOrD (toB (dBin oNotIn (dBin oIx (dVar 0) (dC (.int 0))) (dC (.str "abcdefghijklmnopqrstuvwxyz")))) (toB (dBin oIn (dVar 0) (dTup (dCons (dC (.str "yes")) (dCons (dC (.str "no")) dNil)))))) (sRet (dC (.bool false))) sNil) (sRet (dFn1 oAll (dLc (itAny (dVar 0)) (toName 1) (fun l => kTest (fun _ => M.ret true) (kPush l (dOr (dBin oIn (dVar 1) (dC (.str "abcdefghijklmnopqrstuvwxyz"))) (dBin oIn (dVar 1) (dC (.str "0123456789")))))) [1])))))
def fn_is_name : Fn := bodyFn (["thing"] : List Str).length N_is_name.length body_is_name
theorem ar_is_name : Arity (["thing"] : List Str).length fn_is_name := bodyFn_arity _ _ _
theorem bi_is_name {K : PySem.W.Frag} {mg : Str → Option Value} (T : Fx K mg) : Binds K T.d_is_name ["thing"] [] := T.F_is_name.binds (ps := ["thing"]) fun _ _ _ _ _ _ us hl => match us, hl with | [_], _ => rfl
theorem ok_is_name {P : Program} {w : World} {K : PySem.W.Frag} {mg : Str → Option Value} {base : Heap} (T : Fx K mg) : FnG P w K mg base 1 T.a_is_name T.d_is_name ["thing"] fn_is_name :=
  fn_body (b := body_is_name) (k := 0) T.F_is_name sc_is_name fun cdv A outer s H E C tk pass => (bd_cons (sd_if (td_w (wd_or (td_not (td_val (ed_isB (T := "str") (by decide) T.n_isinstance T.n_str (by decide +kernel) (ed_var 0) rfl))) (wd_or1 (td_not (td_chain od_le od_le ed_int (ed_fn1 cd_len T.n_len (by decide +kernel) (ed_var 0)) (ed_glob T.c_MOST_SIGNS T.r_MOST_SIGNS (fun _ => .int _))))))) (bd_one (sd_ret ed_bl)) bd_nil) (bd_cons (sd_if (td_w (wd_or (td_cmp (od_notIn C.u65) (ed_ix C (ed_var 0) ed_int) (ed_glob T.c_SMALL_LETTERS T.r_SMALL_LETTERS (fun _ => .str _))) (wd_or1 (td_cmp (od_in C.u65) (ed_var 0) (ed_tup (ad_cons ed_str (ad_cons ed_str ad_nil))))))) (bd_one (sd_ret ed_bl)) bd_nil) (bd_one (sd_ret (ed_fn1 (cd_all C) T.n_all (by decide +kernel) (ed_lc C (id_any (ed_var 0)) (blkOk_by (N := N_is_name) (sc := defScope s_is_name) (own := [("sign", 1)]) (by decide +kernel)) (by decide) (fun _ _ _ _ _ => (gd_name (i := 1) C.blk.hN)) (fun _ _ _ _ _ => td_nil) (fun _ _ _ _ _ => (ed_or (ed_cmp (od_in C.blk.u65) (ed_var 1) (ed_glob T.c_SMALL_LETTERS T.r_SMALL_LETTERS (fun _ => .str _))) (ed_one (ed_cmp (od_in C.blk.u65) (ed_var 1) (ed_glob T.c_FIGURES T.r_FIGURES (fun _ => .str _))))))))))))
theorem kb_is_name_thing {K : PySem.W.Frag} {mg : Str → Option Value} (T : Fx K mg) : KBind T.d_is_name ["thing"] ["thing"] same2 := fun s ws hl => by
  obtain ⟨oc, od, kV, doc, pm, an, cdv, ct, osl, e, lk, hcd⟩ := T.F_is_name.ex
  rw [e]
  exact match ws, hl with | [u0], _ => .of_eq rfl
/-! ### carrier_names -/
def body_carrier_names : SD := (sRet (dLc (itAny (dVar 0)) (toTup (toCons (toName 1) (toCons (toName 2) toNil))) (fun l => kTest (fun _ => M.ret true) (kFor (itAny (dTup (dCons (dVar 1) (dStar (dVar 2) dNil)))) (toName 3) (kTest (fun _ => M.ret true) (kPush l (dVar 3))) [3])) [1, 2, 3]))
def fn_carrier_names : Fn := bodyFn (["carriers"] : List Str).length N_carrier_names.length body_carrier_names
theorem ar_carrier_names : Arity (["carriers"] : List Str).length fn_carrier_names := bodyFn_arity _ _ _
theorem bi_carrier_names {K : PySem.W.Frag} {mg : Str → Option Value} (T : Fx K mg) : Binds K T.d_carrier_names ["carriers"] [] := T.F_carrier_names.binds (ps := ["carriers"]) fun _ _ _ _ _ _ us hl => match us, hl with | [_], _ => rfl
theorem ok_carrier_names {P : Program} {w : World} {K : PySem.W.Frag} {mg : Str → Option Value} {base : Heap} (T : Fx K mg) : FnG P w K mg base 1 T.a_carrier_names T.d_carrier_names ["carriers"] fn_carrier_names :=
  fn_body (b := body_carrier_names) (k := 0) T.F_carrier_names sc_carrier_names fun cdv A outer s H E C tk pass => (bd_one (sd_ret (ed_lc2 (vs1 := [3]) C (id_any (ed_var 0)) (blkOk_by (N := N_carrier_names) (sc := defScope s_carrier_names) (own := [("word", 1), ("members", 2), ("name", 3)]) (by decide +kernel)) (by decide) (by decide) (by decide) (fun _ _ _ _ _ => (gd_tup C.blk.hc (gs_cons (gd_name (i := 1) C.blk.hN) (gs_cons (gd_name (i := 2) C.blk.hN) gs_nil)) (arCons (arCons arNil)))) (fun _ _ _ _ _ => td_nil) (fun _ _ _ _ _ => (id_any (ed_tup (ad_cons (ed_var 1) (ad_star (ed_var 2) ad_nil))))) (fun _ _ _ _ _ => (gd_name (i := 3) C.blk.hN)) (fun _ _ _ _ _ => td_nil) (fun _ _ _ _ _ => (ed_var 3)))))
/-! ### _is_carrier -/
def body_u_is_carrier : SD := (sSeq (sIf (tOrD (tNotD (toB (dFn1 (oIsB "tuple") (dVar 0)))) (toB (dBin oNe (dFn1 oLen (dVar 0)) (dC (.int 2))))) (sRet (dC (.bool false))) sNil) (sSeq (sAsg (toTup (toCons (toName 1) (toCons (toName 2) toNil))) (dVar 0)) (sSeq (sIf (tOrD (tNotD (toT (dCall fn_is_name (dCons (dVar 1) dNil)))) (tNotD (toB (dFn1 (oIsB "tuple") (dVar 2))))) (sRet (dC (.bool false))) sNil) (sRet (dAnd (dChain oLe oLe (dC (.int 1)) (dFn1 oLen (dVar 2)) (dC (.int 4))) (dFn1 oAll (dLc (itAny (dVar 2)) (toName 3) (fun l => kTest (fun _ => M.ret true) (kPush l (dCall fn_is_name (dCons (dVar 3) dNil)))) [3])))))))
def fn_u_is_carrier : Fn := bodyFn (["thing"] : List Str).length N_u_is_carrier.length body_u_is_carrier
theorem ar_u_is_carrier : Arity (["thing"] : List Str).length fn_u_is_carrier := bodyFn_arity _ _ _
theorem bi_u_is_carrier {K : PySem.W.Frag} {mg : Str → Option Value} (T : Fx K mg) : Binds K T.d_u_is_carrier ["thing"] [] := T.F_u_is_carrier.binds (ps := ["thing"]) fun _ _ _ _ _ _ us hl => match us, hl with | [_], _ => rfl
theorem ok_u_is_carrier {P : Program} {w : World} {K : PySem.W.Frag} {mg : Str → Option Value} {base : Heap} (T : Fx K mg) : FnG P w K mg base 2 T.a_u_is_carrier T.d_u_is_carrier ["thing"] fn_u_is_carrier :=
  fn_body (b := body_u_is_carrier) (k := 1) T.F_u_is_carrier sc_u_is_carrier fun cdv A outer s H E C tk pass => (bd_cons (sd_if (td_w (wd_or (td_not (td_val (ed_isB (T := "tuple") (by decide) T.n_isinstance T.n_tuple (by decide +kernel) (ed_var 0) rfl))) (wd_or1 (td_cmp (od_ne C.u64) (ed_fn1 cd_len T.n_len (by decide +kernel) (ed_var 0)) ed_int)))) (bd_one (sd_ret ed_bl)) bd_nil) (bd_cons (sd_asg (ed_var 0) (gd_tup C.hc (gs_cons (gd_name (i := 1) C.hN) (gs_cons (gd_name (i := 2) C.hN) gs_nil)) (arCons (arCons arNil)))) (bd_cons (sd_if (td_w (wd_or (td_not (td_truth (ed_call (ok_is_name T) ar_is_name C (by decide) tk T.g_is_name T.F_is_name.kp (bi_is_name T) (ad_cons (ed_var 1) ad_nil)))) (wd_or1 (td_not (td_val (ed_isB (T := "tuple") (by decide) T.n_isinstance T.n_tuple (by decide +kernel) (ed_var 2) rfl)))))) (bd_one (sd_ret ed_bl)) bd_nil) (bd_one (sd_ret (ed_and (ed_chain od_le od_le ed_int (ed_fn1 cd_len T.n_len (by decide +kernel) (ed_var 2)) (ed_glob T.c_MOST_ELEMENTS T.r_MOST_ELEMENTS (fun _ => .int _))) (ed_one (ed_fn1 (cd_all C) T.n_all (by decide +kernel) (ed_lc C (id_any (ed_var 2)) (blkOk_by (N := N_u_is_carrier) (sc := defScope s_u_is_carrier) (own := [("member", 3)]) (by decide +kernel)) (by decide) (fun _ _ _ _ _ => (gd_name (i := 3) C.blk.hN)) (fun _ _ _ _ _ => td_nil) (fun _ _ _ _ _ => (ed_call (ok_is_name T) ar_is_name C.blk (by decide) takes0 T.g_is_name T.F_is_name.kp (bi_is_name T) (ad_cons (ed_var 3) ad_nil))))))))))))
/-! ### is_carriers -/
def body_is_carriers : SD := (sSeq (sIf (tOrD (tNotD (toB (dFn1 (oIsB "tuple") (dVar 0)))) (toB (dBin oGt (dFn1 oLen (dVar 0)) (dC (.int 3))))) (sRet (dC (.bool false))) sNil) (sSeq (sIf (tNotD (toB (dFn1 oAll (dLc (itAny (dVar 0)) (toName 2) (fun l => kTest (fun _ => M.ret true) (kPush l (dCall fn_u_is_carrier (dCons (dVar 2) dNil)))) [2])))) (sRet (dC (.bool false))) sNil) (sSeq (sSet 1 (dCall fn_carrier_names (dCons (dVar 0) dNil))) (sRet (dBin oEq (dFn1 oLenSet (dVar 1)) (dFn1 oLen (dVar 1)))))))
def fn_is_carriers : Fn := bodyFn (["thing"] : List Str).length N_is_carriers.length body_is_carriers
theorem ar_is_carriers : Arity (["thing"] : List Str).length fn_is_carriers := bodyFn_arity _ _ _
theorem bi_is_carriers {K : PySem.W.Frag} {mg : Str → Option Value} (T : Fx K mg) : Binds K T.d_is_carriers ["thing"] [] := T.F_is_carriers.binds (ps := ["thing"]) fun _ _ _ _ _ _ us hl => match us, hl with | [_], _ => rfl
theorem ok_is_carriers {P : Program} {w : World} {K : PySem.W.Frag} {mg : Str → Option Value} {base : Heap} (T : Fx K mg) : FnG P w K mg base 3 T.a_is_carriers T.d_is_carriers ["thing"] fn_is_carriers :=
  fn_body (b := body_is_carriers) (k := 2) T.F_is_carriers sc_is_carriers fun cdv A outer s H E C tk pass => (bd_cons (sd_if (td_w (wd_or (td_not (td_val (ed_isB (T := "tuple") (by decide) T.n_isinstance T.n_tuple (by decide +kernel) (ed_var 0) rfl))) (wd_or1 (td_cmp od_gt (ed_fn1 cd_len T.n_len (by decide +kernel) (ed_var 0)) (ed_glob T.c_MOST_SETS T.r_MOST_SETS (fun _ => .int _)))))) (bd_one (sd_ret ed_bl)) bd_nil) (bd_cons (sd_if (td_not (td_val (ed_fn1 (cd_all C) T.n_all (by decide +kernel) (ed_lc C (id_any (ed_var 0)) (blkOk_by (N := N_is_carriers) (sc := defScope s_is_carriers) (own := [("part", 2)]) (by decide +kernel)) (by decide) (fun _ _ _ _ _ => (gd_name (i := 2) C.blk.hN)) (fun _ _ _ _ _ => td_nil) (fun _ _ _ _ _ => (ed_call (ok_u_is_carrier T) ar_u_is_carrier C.blk (by decide) takes0 T.g_u_is_carrier T.F_u_is_carrier.kp (bi_u_is_carrier T) (ad_cons (ed_var 2) ad_nil))))))) (bd_one (sd_ret ed_bl)) bd_nil) (bd_cons (sd_set (i := 1) C.hN (ed_call (ok_carrier_names T) ar_carrier_names C (by decide) tk T.g_carrier_names T.F_carrier_names.kp (bi_carrier_names T) (ad_cons (ed_var 0) ad_nil))) (bd_one (sd_ret (ed_cmp (od_eq C.u64) (ed_lenSet C T.n_len T.n_set (ed_var 1)) (ed_fn1 cd_len T.n_len (by decide +kernel) (ed_var 1))))))))
theorem kb_is_carriers_thing {K : PySem.W.Frag} {mg : Str → Option Value} (T : Fx K mg) : KBind T.d_is_carriers ["thing"] ["thing"] same2 := fun s ws hl => by
  obtain ⟨oc, od, kV, doc, pm, an, cdv, ct, osl, e, lk, hcd⟩ := T.F_is_carriers.ex
  rw [e]
  exact match ws, hl with | [u0], _ => .of_eq rfl
/-! ### need_carriers -/
def body_need_carriers : SD := (sIf (tNotD (toT (dCall fn_is_carriers (dCons (dVar 0) dNil)))) (sRaise "BadCarriers" (dCons (dC (.str "no carriers: one to four names for each of at most three sets, all unlike")) dNil)) sNil)
def fn_need_carriers : Fn := bodyFn (["carriers"] : List Str).length N_need_carriers.length body_need_carriers
theorem ar_need_carriers : Arity (["carriers"] : List Str).length fn_need_carriers := bodyFn_arity _ _ _
theorem bi_need_carriers {K : PySem.W.Frag} {mg : Str → Option Value} (T : Fx K mg) : Binds K T.d_need_carriers ["carriers"] [] := T.F_need_carriers.binds (ps := ["carriers"]) fun _ _ _ _ _ _ us hl => match us, hl with | [_], _ => rfl
theorem ok_need_carriers {P : Program} {w : World} {K : PySem.W.Frag} {mg : Str → Option Value} {base : Heap} (T : Fx K mg) : FnG P w K mg base 4 T.a_need_carriers T.d_need_carriers ["carriers"] fn_need_carriers :=
  fn_body (b := body_need_carriers) (k := 3) T.F_need_carriers sc_need_carriers fun cdv A outer s H E C tk pass => (bd_one (sd_if (td_not (td_truth (ed_call (ok_is_carriers T) ar_is_carriers C (by decide) tk T.g_is_carriers T.F_is_carriers.kp (bi_is_carriers T) (ad_cons (ed_var 0) ad_nil)))) (bd_one (sd_raise C tk PySem.F.excBase_ValueError T.x_BadCarriers T.g_BadCarriers T.k_BadCarriers (raises_own T.b_BadCarriers T.t_BadCarriers) (ad_cons ed_str ad_nil))) bd_nil))
theorem kb_need_carriers_carriers {K : PySem.W.Frag} {mg : Str → Option Value} (T : Fx K mg) : KBind T.d_need_carriers ["carriers"] ["carriers"] same2 := fun s ws hl => by
  obtain ⟨oc, od, kV, doc, pm, an, cdv, ct, osl, e, lk, hcd⟩ := T.F_need_carriers.ex
  rw [e]
  exact match ws, hl with | [u0], _ => .of_eq rfl
/-! ### _law_told -/
def body_u_law_told : SD := (sSeq (sSet 1 (dC (.none))) (sSeq (sKeep (sExpr (dCall fn_need_carriers (dCons (dVar 0) dNil))) ex_0 2 1) (sSeq (sIf (toB (dNone true (dVar 1))) (sRet (dC (.bool true))) sNil) (sSeq (sIf (toB (clsX ixs_0 (dVar 1))) (sRet (dC (.none))) sNil) (sRet (dIf (tAndD (toB (clsX ix_BadCarriers (dVar 1))) (toB (clsX ix_ValueError (dVar 1)))) (dC (.bool false)) (dC (.none))))))))
def fn_u_law_told : Fn := bodyFn (["item"] : List Str).length N_u_law_told.length body_u_law_told
theorem ar_u_law_told : Arity (["item"] : List Str).length fn_u_law_told := bodyFn_arity _ _ _
theorem bi_u_law_told {K : PySem.W.Frag} {mg : Str → Option Value} (T : Fx K mg) : Binds K T.d_u_law_told ["item"] [] := T.F_u_law_told.binds (ps := ["item"]) fun _ _ _ _ _ _ us hl => match us, hl with | [_], _ => rfl
theorem ok_u_law_told {P : Program} {w : World} {K : PySem.W.Frag} {mg : Str → Option Value} {base : Heap} (T : Fx K mg) : FnG P w K mg base 5 T.a_u_law_told T.d_u_law_told ["item"] fn_u_law_told :=
  fn_body (b := body_u_law_told) (k := 4) T.F_u_law_told sc_u_law_told fun cdv A outer s H E C tk pass => (bd_cons (sd_set (i := 1) C.hN ed_non) (bd_cons (sd_keep (i := 2) (j := 1) rfl rfl rfl C.hN tk (tst_three ⟨rfl, by decide, .inl T.g_StairError⟩ ⟨rfl, by decide, .inl T.g_GreatError⟩ ⟨rfl, by decide, .inl T.g_MissError⟩) T.ex_0 (fun W2 pn2 xe2 tk2 pass2 => (bd_one (sd_expr (ed_call (ok_need_carriers T) ar_need_carriers C.tr (by decide) tk2 T.g_need_carriers T.F_need_carriers.kp (bi_need_carriers T) (ad_cons (ed_var 0) ad_nil)))))) (bd_cons (sd_if (td_isno (ed_var 1)) (bd_one (sd_ret ed_bl)) bd_nil) (bd_cons (sd_if (td_val (ed_isXs T.n_isinstance (ed_var 1) (pa_cls (pe_glob (v := .ref T.A_BadExpression) rfl T.g_BadExpression rfl) (pa_cls (pe_glob (v := .ref T.A_BadModel) rfl T.g_BadModel rfl) (pa_cls (pe_glob (v := .ref T.A_BadState) rfl T.g_BadState rfl) (pa_cls (pe_glob (v := .ref T.A_BadType) rfl T.g_BadType rfl) (pa_cls (pe_glob (v := .ref T.A_GreatError) rfl T.g_GreatError rfl) (pa_cls (pe_glob (v := .ref T.A_MissError) rfl T.g_MissError rfl) pa_cls0)))))) (.cons (.own _) (.cons (.own _) (.cons (.own _) (.cons (.own _) (.cons (.own _) (.cons (.own _) .nil)))))) T.ixs_0 (by show 6 ≤ 16777216; decide) rfl)) (bd_one (sd_ret ed_non)) bd_nil) (bd_one (sd_ret (ed_if (td_w (wd_and (td_val (ed_isX T.n_isinstance (ed_var 1) (pe_glob (v := .ref T.A_BadCarriers) rfl T.g_BadCarriers rfl) (.own _) T.ix_BadCarriers rfl)) (wd_and1 (td_val (ed_isX T.n_isinstance (ed_var 1) (pe_bltn (v := .ty "ValueError") (u := .type "ValueError") rfl T.n_ValueError (by decide +kernel) rfl) (.ty _) T.ix_ValueError rfl))))) ed_bl ed_non)))))))
/-! ### law -/
def body_law : SD := (sSeq (sSet 1 (dLstC (dCons (dC (.int 0)) dNil))) (sSeq (sFor (itRng (dBin oAdd (dC (.int 6)) (dBin oMin (dC (.int 30)) (dFn1 oLen (dVar 0))))) (toName 2) (sSeq (sPar 3 4 (dCons (dCall fn_u_law_cell (dCons (dVar 0) (dCons (dVar 1) dNil))) (dCons (dCall fn_u_law_cell (dCons (dVar 0) (dCons (dVar 1) dNil))) dNil))) (sSeq (sFor (itAny (dTup (dCons (dCall fn_u_law_word (dCons (dVar 3) (dCons (dVar 4) dNil))) (dCons (dC (.none)) (dCons (dC (.int 5)) (dCons (dC (.bool true)) (dCons (dTup dNil) (dCons (dLst (dCons (dC (.str "a")) dNil)) (dCons (dTup (dCons (dC (.str "a")) dNil)) (dCons (dDict [((dC (.str "a")), (dC (.int 1)))]) (dCons (dC (.str "yes")) (dCons (dC (.str "no")) dNil)))))))))))) (toName 5) (sIf (toB (dBin oNe (dFn1 oRepr (dCall fn_is_name (dCons (dVar 5) dNil))) (dFn1 oRepr (dCall fn_u_law_is_name (dCons (dVar 5) dNil))))) (sRet (dC (.bool false))) sNil)) (sSeq (sSet 6 (dCall fn_u_law_rows (dCons (dVar 0) (dCons (dVar 1) dNil)))) (sSeq (sFor (itAny (dTup (dCons (dVar 6) (dCons (dCall fn_u_law_bent (dCons (dVar 3) (dCons (dVar 6) dNil))) (dCons (dCall fn_u_law_bent (dCons (dVar 4) (dCons (dVar 6) dNil))) (dCons (dC (.none)) (dCons (dC (.int 5)) (dCons (dC (.str "a")) (dCons dDict0 (dCons (dTup (dCons (dTup dNil) dNil)) (dCons (dBin oMul (dTup (dCons (dTup (dCons (dC (.str "a")) (dCons (dTup (dCons (dC (.str "b")) dNil)) dNil))) dNil)) (dC (.int 2))) dNil))))))))))) (toName 5) (sSeq (sPar 7 8 (dCons (dFn1 oRepr (dVar 5)) (dCons (dCall fn_u_law_is_good (dCons (dVar 5) dNil)) dNil))) (sIf (tOrD (toB (dBin oNe (dFn1 oRepr (dLst (dCons (dCall fn_is_carriers (dCons (dVar 5) dNil)) (dCons (dCall fn_u_law_told (dCons (dVar 5) dNil)) dNil)))) (dFn1 oRepr (dLst (dCons (dVar 8) (dCons (dVar 8) dNil)))))) (toB (dBin oNe (dFn1 oRepr (dVar 5)) (dVar 7)))) (sRet (dC (.bool false))) sNil))) (sSeq (sSet 9 (dIf (toT (dCall fn_u_law_is_good (dCons (dVar 6) dNil))) (dLc (itAny (dVar 6)) (toTup (toCons (toName 10) (toCons (toName 11) toNil))) (fun l => kTest (fun _ => M.ret true) (kPush l (dCall fn_elements_of (dCons (dVar 6) (dCons (dVar 10) dNil))))) [10, 11]) (dLst dNil))) (sIf (toB (dBin oNe (dVar 9) (dSl (dLc (itAny (dVar 6)) (toTup (toCons (toName 10) (toCons (toName 11) toNil))) (fun l => kTest (fun _ => M.ret true) (kPush l (dVar 11))) [10, 11]) pNone (pSome (dFn1 oLen (dVar 9)))))) (sRet (dC (.bool false))) sNil))))))) (sSeq (sIf (toB (dBin oNe (dLst (dCons (dCall fn_is_name (dArgs same2 (dCons (dC (.str "a1")) dNil))) (dCons (dCall fn_is_carriers (dArgs same2 (dCons (dTup dNil) dNil))) (dCons (dCall fn_need_carriers (dArgs same2 (dCons (dTup dNil) dNil))) dNil)))) (dLst (dCons (dC (.bool true)) (dCons (dC (.bool true)) (dCons (dC (.none)) dNil)))))) (sRet (dC (.bool false))) sNil) (sRet (dBin oEq (dCall fn_elements_of (dArgs swap2 (dCons (dC (.str "s")) (dCons (dTup (dCons (dTup (dCons (dC (.str "s")) (dCons (dTup (dCons (dC (.str "x")) (dCons (dC (.str "y")) dNil))) dNil))) dNil)) dNil)))) (dTup (dCons (dC (.str "x")) (dCons (dC (.str "y")) dNil))))))))
def fn_law : Fn := bodyFn (["script"] : List Str).length N_law.length body_law
theorem ar_law : Arity (["script"] : List Str).length fn_law := bodyFn_arity _ _ _
theorem bi_law {K : PySem.W.Frag} {mg : Str → Option Value} (T : Fx K mg) : Binds K T.d_law ["script"] [] := T.F_law.binds (ps := ["script"]) fun _ _ _ _ _ _ us hl => match us, hl with | [_], _ => rfl
theorem ok_law {P : Program} {w : World} {K : PySem.W.Frag} {mg : Str → Option Value} {base : Heap} (T : Fx K mg) : FnG P w K mg base 6 T.a_law T.d_law ["script"] fn_law :=
  fn_body (b := body_law) (k := 5) T.F_law sc_law fun cdv A outer s H E C tk pass => (bd_cons (sd_set (i := 1) C.hN (ed_lstC (ad_cons ed_int ad_nil))) (bd_cons (sd_for C pass (id_rng T.n_range (ed_op od_add ed_int (ed_fn2 (cd_min C) T.n_min (by decide +kernel) ed_int (ed_fn1 cd_len T.n_len (by decide +kernel) (ed_var 0))))) (gd_name (i := 2) C.hN) (bd_cons (sd_par (i := 3) (j := 4) C.hc C.hN (ad_cons (ed_call (ok_u_law_cell T) ar_u_law_cell C (by decide) tk T.g_u_law_cell T.F_u_law_cell.kp (bi_u_law_cell T) (ad_cons (ed_var 0) (ad_cons (ed_var 1) ad_nil))) (ad_cons (ed_call (ok_u_law_cell T) ar_u_law_cell C (by decide) tk T.g_u_law_cell T.F_u_law_cell.kp (bi_u_law_cell T) (ad_cons (ed_var 0) (ad_cons (ed_var 1) ad_nil))) ad_nil)) rfl) (bd_cons (sd_for C pass (id_any (ed_tup (ad_cons (ed_call (ok_u_law_word T) ar_u_law_word C (by decide) tk T.g_u_law_word T.F_u_law_word.kp (bi_u_law_word T) (ad_cons (ed_var 3) (ad_cons (ed_var 4) ad_nil))) (ad_cons ed_non (ad_cons ed_int (ad_cons ed_bl (ad_cons (ed_tup ad_nil) (ad_cons (ed_lst (ad_cons ed_str ad_nil)) (ad_cons (ed_tup (ad_cons ed_str ad_nil)) (ad_cons (ed_dict (dd_cons ed_str ed_int dd_nil)) (ad_cons ed_str (ad_cons ed_str ad_nil)))))))))))) (gd_name (i := 5) C.hN) (bd_one (sd_if (td_cmp (od_ne C.u64) (ed_fn1 (cd_repr C) T.n_repr (by decide +kernel) (ed_call (ok_is_name T) ar_is_name C (by decide) tk T.g_is_name T.F_is_name.kp (bi_is_name T) (ad_cons (ed_var 5) ad_nil))) (ed_fn1 (cd_repr C) T.n_repr (by decide +kernel) (ed_call (ok_u_law_is_name T) ar_u_law_is_name C (by decide) tk T.g_u_law_is_name T.F_u_law_is_name.kp (bi_u_law_is_name T) (ad_cons (ed_var 5) ad_nil)))) (bd_one (sd_ret ed_bl)) bd_nil))) (bd_cons (sd_set (i := 6) C.hN (ed_call (ok_u_law_rows T) ar_u_law_rows C (by decide) tk T.g_u_law_rows T.F_u_law_rows.kp (bi_u_law_rows T) (ad_cons (ed_var 0) (ad_cons (ed_var 1) ad_nil)))) (bd_cons (sd_for C pass (id_any (ed_tup (ad_cons (ed_var 6) (ad_cons (ed_call (ok_u_law_bent T) ar_u_law_bent C (by decide) tk T.g_u_law_bent T.F_u_law_bent.kp (bi_u_law_bent T) (ad_cons (ed_var 3) (ad_cons (ed_var 6) ad_nil))) (ad_cons (ed_call (ok_u_law_bent T) ar_u_law_bent C (by decide) tk T.g_u_law_bent T.F_u_law_bent.kp (bi_u_law_bent T) (ad_cons (ed_var 4) (ad_cons (ed_var 6) ad_nil))) (ad_cons ed_non (ad_cons ed_int (ad_cons ed_str (ad_cons ed_dict0 (ad_cons (ed_tup (ad_cons (ed_tup ad_nil) ad_nil)) (ad_cons (ed_op od_mul (ed_tup (ad_cons (ed_tup (ad_cons ed_str (ad_cons (ed_tup (ad_cons ed_str ad_nil)) ad_nil))) ad_nil)) ed_int) ad_nil))))))))))) (gd_name (i := 5) C.hN) (bd_cons (sd_par (i := 7) (j := 8) C.hc C.hN (ad_cons (ed_fn1 (cd_repr C) T.n_repr (by decide +kernel) (ed_var 5)) (ad_cons (ed_call (ok_u_law_is_good T) ar_u_law_is_good C (by decide) tk T.g_u_law_is_good T.F_u_law_is_good.kp (bi_u_law_is_good T) (ad_cons (ed_var 5) ad_nil)) ad_nil)) rfl) (bd_one (sd_if (td_w (wd_or (td_cmp (od_ne C.u64) (ed_fn1 (cd_repr C) T.n_repr (by decide +kernel) (ed_lst (ad_cons (ed_call (ok_is_carriers T) ar_is_carriers C (by decide) tk T.g_is_carriers T.F_is_carriers.kp (bi_is_carriers T) (ad_cons (ed_var 5) ad_nil)) (ad_cons (ed_call (ok_u_law_told T) ar_u_law_told C (by decide) tk T.g_u_law_told T.F_u_law_told.kp (bi_u_law_told T) (ad_cons (ed_var 5) ad_nil)) ad_nil)))) (ed_fn1 (cd_repr C) T.n_repr (by decide +kernel) (ed_lst (ad_cons (ed_var 8) (ad_cons (ed_var 8) ad_nil))))) (wd_or1 (td_cmp (od_ne C.u64) (ed_fn1 (cd_repr C) T.n_repr (by decide +kernel) (ed_var 5)) (ed_var 7))))) (bd_one (sd_ret ed_bl)) bd_nil)))) (bd_cons (sd_set (i := 9) C.hN (ed_if (td_truth (ed_call (ok_u_law_is_good T) ar_u_law_is_good C (by decide) tk T.g_u_law_is_good T.F_u_law_is_good.kp (bi_u_law_is_good T) (ad_cons (ed_var 6) ad_nil))) (ed_lc C (id_any (ed_var 6)) (blkOk_by (N := N_law) (sc := defScope s_law) (own := [("home", 10), ("row", 11)]) (by decide +kernel)) (by decide) (fun _ _ _ _ _ => (gd_tup C.blk.hc (gs_cons (gd_name (i := 10) C.blk.hN) (gs_cons (gd_name (i := 11) C.blk.hN) gs_nil)) (arCons (arCons arNil)))) (fun _ _ _ _ _ => td_nil) (fun _ _ _ _ _ => (ed_call (ok_elements_of T) ar_elements_of C.blk (by decide) takes0 T.g_elements_of T.F_elements_of.kp (bi_elements_of T) (ad_cons (ed_var 6) (ad_cons (ed_var 10) ad_nil))))) (ed_lst ad_nil))) (bd_one (sd_if (td_cmp (od_ne C.u64) (ed_var 9) (ed_sl (ed_lc C (id_any (ed_var 6)) (blkOk_by (N := N_law) (sc := defScope s_law) (own := [("home", 10), ("row", 11)]) (by decide +kernel)) (by decide) (fun _ _ _ _ _ => (gd_tup C.blk.hc (gs_cons (gd_name (i := 10) C.blk.hN) (gs_cons (gd_name (i := 11) C.blk.hN) gs_nil)) (arCons (arCons arNil)))) (fun _ _ _ _ _ => td_nil) (fun _ _ _ _ _ => (ed_var 11))) pd_none (pd_some (ed_fn1 cd_len T.n_len (by decide +kernel) (ed_var 9))))) (bd_one (sd_ret ed_bl)) bd_nil)))))))) (bd_cons (sd_if (td_cmp (od_ne C.u64) (ed_lst (ad_cons (ed_callK (k := 1) (ps := ["thing"]) (ks := ["thing"]) (perm := same2) (fun h => h) (fun a h => h) rfl (fun a h => h) (ok_is_name T) ar_is_name C (by decide) tk T.g_is_name T.F_is_name.kp (kb_is_name_thing T) (kd_cons ed_str kd_nil)) (ad_cons (ed_callK (k := 3) (ps := ["thing"]) (ks := ["thing"]) (perm := same2) (fun h => h) (fun a h => h) rfl (fun a h => h) (ok_is_carriers T) ar_is_carriers C (by decide) tk T.g_is_carriers T.F_is_carriers.kp (kb_is_carriers_thing T) (kd_cons (ed_tup ad_nil) kd_nil)) (ad_cons (ed_callK (k := 4) (ps := ["carriers"]) (ks := ["carriers"]) (perm := same2) (fun h => h) (fun a h => h) rfl (fun a h => h) (ok_need_carriers T) ar_need_carriers C (by decide) tk T.g_need_carriers T.F_need_carriers.kp (kb_need_carriers_carriers T) (kd_cons (ed_tup ad_nil) kd_nil)) ad_nil)))) (ed_lst (ad_cons ed_bl (ad_cons ed_bl (ad_cons ed_non ad_nil))))) (bd_one (sd_ret ed_bl)) bd_nil) (bd_one (sd_ret (ed_cmp (od_eq C.u64) (ed_callK (k := 1) (ps := ["carriers", "name"]) (ks := ["name", "carriers"]) (perm := swap2) (fun h => swap2_p h) (fun a h => (swap2_l a).trans h) rfl (fun a h => (swap2_l a).symm.trans h) (ok_elements_of T) ar_elements_of C (by decide) tk T.g_elements_of T.F_elements_of.kp (kb_elements_of_name_carriers T) (kd_cons ed_str (kd_cons (ed_tup (ad_cons (ed_tup (ad_cons ed_str (ad_cons (ed_tup (ad_cons ed_str (ad_cons ed_str ad_nil))) ad_nil))) ad_nil)) kd_nil))) (ed_tup (ad_cons ed_str (ad_cons ed_str ad_nil)))))))))
/-! ### what the top has written -/
theorem all_mk {P : Program} {w : World} {K : PySem.W.Frag} {h : Heap} {mg : Str → Option Value} {fa : Addr} (X : K.In h) (G : h.Ns mainGlobals mg) (hfa : mg "law" = some (.ref fa))
    {A_StairError A_BadCarriers A_BadType A_BadExpression A_BadState A_BadModel A_GreatError A_MissError a_u_law_cell a_u_law_rows a_elements_of a_u_law_word a_u_law_bent a_u_law_is_name a_u_law_is_good a_is_name a_carrier_names a_u_is_carrier a_is_carriers a_need_carriers a_u_law_told a_law : Addr} {od_u_law_cell an_u_law_cell od_u_law_rows an_u_law_rows od_elements_of an_elements_of od_u_law_word an_u_law_word od_u_law_bent an_u_law_bent od_u_law_is_name an_u_law_is_name od_u_law_is_good an_u_law_is_good od_is_name an_is_name od_carrier_names an_carrier_names od_u_is_carrier an_u_is_carrier od_is_carriers an_is_carriers od_need_carriers an_need_carriers od_u_law_told an_u_law_told od_law an_law : Option Addr} {sl_u_law_cell sl_u_law_rows sl_elements_of sl_u_law_word sl_u_law_bent sl_u_law_is_name sl_u_law_is_good sl_is_name sl_carrier_names sl_u_is_carrier sl_is_carriers sl_need_carriers sl_u_law_told sl_law : Array (Option Value)} {oc_u_law_cell kV_u_law_cell dc_u_law_cell pm_u_law_cell cd_u_law_cell ct_u_law_cell oc_u_law_rows kV_u_law_rows dc_u_law_rows pm_u_law_rows cd_u_law_rows ct_u_law_rows oc_elements_of kV_elements_of dc_elements_of pm_elements_of cd_elements_of ct_elements_of oc_u_law_word kV_u_law_word dc_u_law_word pm_u_law_word cd_u_law_word ct_u_law_word oc_u_law_bent kV_u_law_bent dc_u_law_bent pm_u_law_bent cd_u_law_bent ct_u_law_bent oc_u_law_is_name kV_u_law_is_name dc_u_law_is_name pm_u_law_is_name cd_u_law_is_name ct_u_law_is_name oc_u_law_is_good kV_u_law_is_good dc_u_law_is_good pm_u_law_is_good cd_u_law_is_good ct_u_law_is_good oc_is_name kV_is_name dc_is_name pm_is_name cd_is_name ct_is_name oc_carrier_names kV_carrier_names dc_carrier_names pm_carrier_names cd_carrier_names ct_carrier_names oc_u_is_carrier kV_u_is_carrier dc_u_is_carrier pm_u_is_carrier cd_u_is_carrier ct_u_is_carrier oc_is_carriers kV_is_carriers dc_is_carriers pm_is_carriers cd_is_carriers ct_is_carriers oc_need_carriers kV_need_carriers dc_need_carriers pm_need_carriers cd_need_carriers ct_need_carriers oc_u_law_told kV_u_law_told dc_u_law_told pm_u_law_told cd_u_law_told ct_u_law_told oc_law kV_law dc_law pm_law cd_law ct_law : Value} {v_FIGURES v_MOST_ELEMENTS v_MOST_SETS v_MOST_SIGNS v_SMALL_LETTERS : Value}
    (h0 : PySem.W.nsIn K mainGlobals "StairError" = some (some (.ref A_StairError)))
    (h1 : PySem.W.nsIn K mainGlobals "BadCarriers" = some (some (.ref A_BadCarriers)))
    (h2 : PySem.W.nsIn K mainGlobals "BadType" = some (some (.ref A_BadType)))
    (h3 : PySem.W.nsIn K mainGlobals "BadExpression" = some (some (.ref A_BadExpression)))
    (h4 : PySem.W.nsIn K mainGlobals "BadState" = some (some (.ref A_BadState)))
    (h5 : PySem.W.nsIn K mainGlobals "BadModel" = some (some (.ref A_BadModel)))
    (h6 : PySem.W.nsIn K mainGlobals "GreatError" = some (some (.ref A_GreatError)))
    (h7 : PySem.W.nsIn K mainGlobals "MissError" = some (some (.ref A_MissError)))
    (h8 : PySem.W.excIn K A_BadType [.type "ValueError", .type "Exception", .type "BaseException", .type "object"] "ValueError.__new__" = true)
    (h9 : PySem.W.keepIn K (.ref A_BadType) = true)
    (h10 : PySem.W.subIn K (.ref A_BadType) (.type "BaseException") = some true)
    (h11 : PySem.W.typeIn K (.ref A_BadType) = some (.type "type"))
    (h12 : PySem.W.excIn K A_BadCarriers [.type "ValueError", .type "Exception", .type "BaseException", .type "object"] "ValueError.__new__" = true)
    (h13 : PySem.W.keepIn K (.ref A_BadCarriers) = true)
    (h14 : PySem.W.subIn K (.ref A_BadCarriers) (.type "BaseException") = some true)
    (h15 : PySem.W.typeIn K (.ref A_BadCarriers) = some (.type "type"))
    (h16 : PySem.W.subIn K (.ref A_BadType) (.ref A_MissError) = some false)
    (h17 : PySem.W.subIn K (.ref A_MissError) (.type "BaseException") = some true)
    (h18 : PySem.W.hasDictIn K A_MissError = true)
    (h19 : PySem.W.typeIn K (.ref A_MissError) = some (.type "type"))
    (h20 : PySem.W.subIn K (.ref A_BadType) (.ref A_GreatError) = some false)
    (h21 : PySem.W.subIn K (.ref A_GreatError) (.type "BaseException") = some true)
    (h22 : PySem.W.hasDictIn K A_GreatError = true)
    (h23 : PySem.W.typeIn K (.ref A_GreatError) = some (.type "type"))
    (h24 : PySem.W.subIn K (.ref A_BadType) (.ref A_StairError) = some true)
    (h25 : PySem.W.subIn K (.ref A_StairError) (.type "BaseException") = some true)
    (h26 : PySem.W.hasDictIn K A_StairError = true)
    (h27 : PySem.W.typeIn K (.ref A_StairError) = some (.type "type"))
    (h28 : PySem.W.subIn K (.ref A_BadCarriers) (.ref A_MissError) = some false)
    (h29 : PySem.W.subIn K (.ref A_BadCarriers) (.ref A_GreatError) = some false)
    (h30 : PySem.W.subIn K (.ref A_BadCarriers) (.ref A_StairError) = some true)
    (h31 : A_BadType ≠ A_MissError)
    (h32 : A_BadType ≠ A_GreatError)
    (h33 : PySem.W.subIn K (.ref A_BadType) (.ref A_BadState) = some false)
    (h34 : A_BadType ≠ A_BadState)
    (h35 : PySem.W.hasDictIn K A_BadState = true)
    (h36 : PySem.W.typeIn K (.ref A_BadState) = some (.type "type"))
    (h37 : PySem.W.subIn K (.ref A_BadType) (.ref A_BadModel) = some false)
    (h38 : A_BadType ≠ A_BadModel)
    (h39 : PySem.W.hasDictIn K A_BadModel = true)
    (h40 : PySem.W.typeIn K (.ref A_BadModel) = some (.type "type"))
    (h41 : PySem.W.subIn K (.ref A_BadType) (.ref A_BadExpression) = some false)
    (h42 : A_BadType ≠ A_BadExpression)
    (h43 : PySem.W.hasDictIn K A_BadExpression = true)
    (h44 : PySem.W.typeIn K (.ref A_BadExpression) = some (.type "type"))
    (h45 : PySem.W.findIn K (.ref A_BadType) "__getattribute__" = some (some (.builtin "BaseException.__getattribute__")))
    (h46 : PySem.W.findIn K (.ref A_BadType) "__getattr__" = some none)
    (h47 : PySem.W.findIn K (.ref A_BadType) "__class__" = some (some (.builtin "object.__class__")))
    (h48 : PySem.W.mroIn K A_BadType (.type "object") = some true)
    (h49 : PySem.W.specialIn K (.builtin "object.__class__") "__get__" = some (some (.builtin "getset_descriptor.__get__")))
    (h50 : PySem.W.takesIn K (.builtin "object.__class__") = some true)
    (h51 : PySem.W.hasDictIn K A_BadType = true)
    (h52 : A_BadCarriers ≠ A_MissError)
    (h53 : A_BadCarriers ≠ A_GreatError)
    (h54 : PySem.W.subIn K (.ref A_BadCarriers) (.ref A_BadType) = some false)
    (h55 : A_BadCarriers ≠ A_BadType)
    (h56 : PySem.W.subIn K (.ref A_BadCarriers) (.ref A_BadState) = some false)
    (h57 : A_BadCarriers ≠ A_BadState)
    (h58 : PySem.W.subIn K (.ref A_BadCarriers) (.ref A_BadModel) = some false)
    (h59 : A_BadCarriers ≠ A_BadModel)
    (h60 : PySem.W.subIn K (.ref A_BadCarriers) (.ref A_BadExpression) = some false)
    (h61 : A_BadCarriers ≠ A_BadExpression)
    (h62 : PySem.W.findIn K (.ref A_BadCarriers) "__getattribute__" = some (some (.builtin "BaseException.__getattribute__")))
    (h63 : PySem.W.findIn K (.ref A_BadCarriers) "__getattr__" = some none)
    (h64 : PySem.W.findIn K (.ref A_BadCarriers) "__class__" = some (some (.builtin "object.__class__")))
    (h65 : PySem.W.mroIn K A_BadCarriers (.type "object") = some true)
    (h66 : PySem.W.hasDictIn K A_BadCarriers = true)
    (h67 : PySem.W.subIn K (.ref A_BadType) (.ref A_BadCarriers) = some false)
    (h68 : A_BadType ≠ A_BadCarriers)
    (h69 : PySem.W.subIn K (.ref A_BadType) (.type "ValueError") = some true)
    (h70 : PySem.W.subIn K (.ref A_BadCarriers) (.type "ValueError") = some true)
    (h71 : PySem.W.nsIn K mainGlobals "_law_cell" = some (some (.ref a_u_law_cell)))
    (h72 : K.lookup a_u_law_cell = some ⟨oc_u_law_cell, od_u_law_cell, .func (PySem.W.fnOf "_law_cell" "_law_cell" (defArgs s_u_law_cell) (defBody s_u_law_cell) (defScope s_u_law_cell) .none kV_u_law_cell dc_u_law_cell pm_u_law_cell an_u_law_cell cd_u_law_cell ct_u_law_cell), sl_u_law_cell⟩)
    (h73 : PySem.W.codeIn K cd_u_law_cell "_law_cell" = true)
    (h74 : PySem.W.keepIn K (.ref a_u_law_cell) = true)
    (h75 : PySem.W.nsIn K mainGlobals "_law_rows" = some (some (.ref a_u_law_rows)))
    (h76 : K.lookup a_u_law_rows = some ⟨oc_u_law_rows, od_u_law_rows, .func (PySem.W.fnOf "_law_rows" "_law_rows" (defArgs s_u_law_rows) (defBody s_u_law_rows) (defScope s_u_law_rows) .none kV_u_law_rows dc_u_law_rows pm_u_law_rows an_u_law_rows cd_u_law_rows ct_u_law_rows), sl_u_law_rows⟩)
    (h77 : PySem.W.codeIn K cd_u_law_rows "_law_rows" = true)
    (h78 : PySem.W.keepIn K (.ref a_u_law_rows) = true)
    (h79 : PySem.W.nsIn K mainGlobals "elements_of" = some (some (.ref a_elements_of)))
    (h80 : K.lookup a_elements_of = some ⟨oc_elements_of, od_elements_of, .func (PySem.W.fnOf "elements_of" "elements_of" (defArgs s_elements_of) (defBody s_elements_of) (defScope s_elements_of) .none kV_elements_of dc_elements_of pm_elements_of an_elements_of cd_elements_of ct_elements_of), sl_elements_of⟩)
    (h81 : PySem.W.codeIn K cd_elements_of "elements_of" = true)
    (h82 : PySem.W.keepIn K (.ref a_elements_of) = true)
    (h83 : PySem.W.nsIn K mainGlobals "_law_word" = some (some (.ref a_u_law_word)))
    (h84 : K.lookup a_u_law_word = some ⟨oc_u_law_word, od_u_law_word, .func (PySem.W.fnOf "_law_word" "_law_word" (defArgs s_u_law_word) (defBody s_u_law_word) (defScope s_u_law_word) .none kV_u_law_word dc_u_law_word pm_u_law_word an_u_law_word cd_u_law_word ct_u_law_word), sl_u_law_word⟩)
    (h85 : PySem.W.codeIn K cd_u_law_word "_law_word" = true)
    (h86 : PySem.W.keepIn K (.ref a_u_law_word) = true)
    (h87 : PySem.W.nsIn K mainGlobals "_law_bent" = some (some (.ref a_u_law_bent)))
    (h88 : K.lookup a_u_law_bent = some ⟨oc_u_law_bent, od_u_law_bent, .func (PySem.W.fnOf "_law_bent" "_law_bent" (defArgs s_u_law_bent) (defBody s_u_law_bent) (defScope s_u_law_bent) .none kV_u_law_bent dc_u_law_bent pm_u_law_bent an_u_law_bent cd_u_law_bent ct_u_law_bent), sl_u_law_bent⟩)
    (h89 : PySem.W.codeIn K cd_u_law_bent "_law_bent" = true)
    (h90 : PySem.W.keepIn K (.ref a_u_law_bent) = true)
    (h91 : PySem.W.nsIn K mainGlobals "_law_is_name" = some (some (.ref a_u_law_is_name)))
    (h92 : K.lookup a_u_law_is_name = some ⟨oc_u_law_is_name, od_u_law_is_name, .func (PySem.W.fnOf "_law_is_name" "_law_is_name" (defArgs s_u_law_is_name) (defBody s_u_law_is_name) (defScope s_u_law_is_name) .none kV_u_law_is_name dc_u_law_is_name pm_u_law_is_name an_u_law_is_name cd_u_law_is_name ct_u_law_is_name), sl_u_law_is_name⟩)
    (h93 : PySem.W.codeIn K cd_u_law_is_name "_law_is_name" = true)
    (h94 : PySem.W.keepIn K (.ref a_u_law_is_name) = true)
    (h95 : PySem.W.nsIn K mainGlobals "_law_is_good" = some (some (.ref a_u_law_is_good)))
    (h96 : K.lookup a_u_law_is_good = some ⟨oc_u_law_is_good, od_u_law_is_good, .func (PySem.W.fnOf "_law_is_good" "_law_is_good" (defArgs s_u_law_is_good) (defBody s_u_law_is_good) (defScope s_u_law_is_good) .none kV_u_law_is_good dc_u_law_is_good pm_u_law_is_good an_u_law_is_good cd_u_law_is_good ct_u_law_is_good), sl_u_law_is_good⟩)
    (h97 : PySem.W.codeIn K cd_u_law_is_good "_law_is_good" = true)
    (h98 : PySem.W.keepIn K (.ref a_u_law_is_good) = true)
    (h99 : PySem.W.nsIn K mainGlobals "is_name" = some (some (.ref a_is_name)))
    (h100 : K.lookup a_is_name = some ⟨oc_is_name, od_is_name, .func (PySem.W.fnOf "is_name" "is_name" (defArgs s_is_name) (defBody s_is_name) (defScope s_is_name) .none kV_is_name dc_is_name pm_is_name an_is_name cd_is_name ct_is_name), sl_is_name⟩)
    (h101 : PySem.W.codeIn K cd_is_name "is_name" = true)
    (h102 : PySem.W.keepIn K (.ref a_is_name) = true)
    (h103 : PySem.W.nsIn K mainGlobals "carrier_names" = some (some (.ref a_carrier_names)))
    (h104 : K.lookup a_carrier_names = some ⟨oc_carrier_names, od_carrier_names, .func (PySem.W.fnOf "carrier_names" "carrier_names" (defArgs s_carrier_names) (defBody s_carrier_names) (defScope s_carrier_names) .none kV_carrier_names dc_carrier_names pm_carrier_names an_carrier_names cd_carrier_names ct_carrier_names), sl_carrier_names⟩)
    (h105 : PySem.W.codeIn K cd_carrier_names "carrier_names" = true)
    (h106 : PySem.W.keepIn K (.ref a_carrier_names) = true)
    (h107 : PySem.W.nsIn K mainGlobals "_is_carrier" = some (some (.ref a_u_is_carrier)))
    (h108 : K.lookup a_u_is_carrier = some ⟨oc_u_is_carrier, od_u_is_carrier, .func (PySem.W.fnOf "_is_carrier" "_is_carrier" (defArgs s_u_is_carrier) (defBody s_u_is_carrier) (defScope s_u_is_carrier) .none kV_u_is_carrier dc_u_is_carrier pm_u_is_carrier an_u_is_carrier cd_u_is_carrier ct_u_is_carrier), sl_u_is_carrier⟩)
    (h109 : PySem.W.codeIn K cd_u_is_carrier "_is_carrier" = true)
    (h110 : PySem.W.keepIn K (.ref a_u_is_carrier) = true)
    (h111 : PySem.W.nsIn K mainGlobals "is_carriers" = some (some (.ref a_is_carriers)))
    (h112 : K.lookup a_is_carriers = some ⟨oc_is_carriers, od_is_carriers, .func (PySem.W.fnOf "is_carriers" "is_carriers" (defArgs s_is_carriers) (defBody s_is_carriers) (defScope s_is_carriers) .none kV_is_carriers dc_is_carriers pm_is_carriers an_is_carriers cd_is_carriers ct_is_carriers), sl_is_carriers⟩)
    (h113 : PySem.W.codeIn K cd_is_carriers "is_carriers" = true)
    (h114 : PySem.W.keepIn K (.ref a_is_carriers) = true)
    (h115 : PySem.W.nsIn K mainGlobals "need_carriers" = some (some (.ref a_need_carriers)))
    (h116 : K.lookup a_need_carriers = some ⟨oc_need_carriers, od_need_carriers, .func (PySem.W.fnOf "need_carriers" "need_carriers" (defArgs s_need_carriers) (defBody s_need_carriers) (defScope s_need_carriers) .none kV_need_carriers dc_need_carriers pm_need_carriers an_need_carriers cd_need_carriers ct_need_carriers), sl_need_carriers⟩)
    (h117 : PySem.W.codeIn K cd_need_carriers "need_carriers" = true)
    (h118 : PySem.W.keepIn K (.ref a_need_carriers) = true)
    (h119 : PySem.W.nsIn K mainGlobals "_law_told" = some (some (.ref a_u_law_told)))
    (h120 : K.lookup a_u_law_told = some ⟨oc_u_law_told, od_u_law_told, .func (PySem.W.fnOf "_law_told" "_law_told" (defArgs s_u_law_told) (defBody s_u_law_told) (defScope s_u_law_told) .none kV_u_law_told dc_u_law_told pm_u_law_told an_u_law_told cd_u_law_told ct_u_law_told), sl_u_law_told⟩)
    (h121 : PySem.W.codeIn K cd_u_law_told "_law_told" = true)
    (h122 : PySem.W.keepIn K (.ref a_u_law_told) = true)
    (h123 : PySem.W.nsIn K mainGlobals "law" = some (some (.ref a_law)))
    (h124 : K.lookup a_law = some ⟨oc_law, od_law, .func (PySem.W.fnOf "law" "law" (defArgs s_law) (defBody s_law) (defScope s_law) .none kV_law dc_law pm_law an_law cd_law ct_law), sl_law⟩)
    (h125 : PySem.W.codeIn K cd_law "law" = true)
    (h126 : PySem.W.keepIn K (.ref a_law) = true)
    (h127 : PySem.W.nsIn K mainGlobals "ValueError" = some none)
    (h128 : PySem.W.nsIn K mainGlobals "all" = some none)
    (h129 : PySem.W.nsIn K mainGlobals "isinstance" = some none)
    (h130 : PySem.W.nsIn K mainGlobals "len" = some none)
    (h131 : PySem.W.nsIn K mainGlobals "list" = some none)
    (h132 : PySem.W.nsIn K mainGlobals "min" = some none)
    (h133 : PySem.W.nsIn K mainGlobals "range" = some none)
    (h134 : PySem.W.nsIn K mainGlobals "repr" = some none)
    (h135 : PySem.W.nsIn K mainGlobals "set" = some none)
    (h136 : PySem.W.nsIn K mainGlobals "str" = some none)
    (h137 : PySem.W.nsIn K mainGlobals "tuple" = some none)
    (h138 : PySem.W.nsIn K mainGlobals "FIGURES" = some (some v_FIGURES))
    (h139 : RelV (.str "0123456789") v_FIGURES)
    (h140 : PySem.W.nsIn K mainGlobals "MOST_ELEMENTS" = some (some v_MOST_ELEMENTS))
    (h141 : RelV (.int 4) v_MOST_ELEMENTS)
    (h142 : PySem.W.nsIn K mainGlobals "MOST_SETS" = some (some v_MOST_SETS))
    (h143 : RelV (.int 3) v_MOST_SETS)
    (h144 : PySem.W.nsIn K mainGlobals "MOST_SIGNS" = some (some v_MOST_SIGNS))
    (h145 : RelV (.int 8) v_MOST_SIGNS)
    (h146 : PySem.W.nsIn K mainGlobals "SMALL_LETTERS" = some (some v_SMALL_LETTERS))
    (h147 : RelV (.str "abcdefghijklmnopqrstuvwxyz") v_SMALL_LETTERS)
    : ∃ fd : FuncData, (∀ (s : Shared) (v : Value), BindsTo s fd ⟨[v], []⟩ [("script", v)]) ∧ ∀ base : Heap, K.In base → base.Ns mainGlobals mg → FnG P w K mg base 6 fa fd ["script"] fn_law := by
  have e := hfa.symm.trans (PySem.W.mg_of X G h123)
  cases e
  let T : Fx K mg := {
    A_StairError := A_StairError
    g_StairError := PySem.W.mg_of X G h0
    A_BadCarriers := A_BadCarriers
    g_BadCarriers := PySem.W.mg_of X G h1
    A_BadType := A_BadType
    g_BadType := PySem.W.mg_of X G h2
    A_BadExpression := A_BadExpression
    g_BadExpression := PySem.W.mg_of X G h3
    A_BadState := A_BadState
    g_BadState := PySem.W.mg_of X G h4
    A_BadModel := A_BadModel
    g_BadModel := PySem.W.mg_of X G h5
    A_GreatError := A_GreatError
    g_GreatError := PySem.W.mg_of X G h6
    A_MissError := A_MissError
    g_MissError := PySem.W.mg_of X G h7
    x_BadType := h8
    k_BadType := h9
    b_BadType := h10
    t_BadType := h11
    x_BadCarriers := h12
    k_BadCarriers := h13
    b_BadCarriers := h14
    t_BadCarriers := h15
    ex_0 := by
      intro y b h C hC
      unfold K01.ex_0 at h
      by_cases e : y = "BadType"
      · rw [if_pos e] at h
        cases h
        subst e
        have z : C = A_BadType := Value.ref.inj (Option.some.inj (hC.symm.trans (PySem.W.mg_of X G h2)))
        subst z
        exact (exms_cons (PySem.W.exm_ref h25 h26 h27 h24) (exms_cons (PySem.W.exm_ref h21 h22 h23 h20) (exms_cons (PySem.W.exm_ref h17 h18 h19 h16) exms_nil)))
      rw [if_neg e] at h
      by_cases e : y = "BadCarriers"
      · rw [if_pos e] at h
        cases h
        subst e
        have z : C = A_BadCarriers := Value.ref.inj (Option.some.inj (hC.symm.trans (PySem.W.mg_of X G h1)))
        subst z
        exact (exms_cons (PySem.W.exm_ref h25 h26 h27 h30) (exms_cons (PySem.W.exm_ref h21 h22 h23 h29) (exms_cons (PySem.W.exm_ref h17 h18 h19 h28) exms_nil)))
      rw [if_neg e] at h
      cases h
    ixs_0 := by
      intro y b h C hC
      unfold K01.ixs_0 at h
      by_cases e : y = "BadType"
      · rw [if_pos e] at h
        cases h
        subst e
        have z : C = A_BadType := Value.ref.inj (Option.some.inj (hC.symm.trans (PySem.W.mg_of X G h2)))
        subst z
        exact ⟨⟨h45, h46, h10, h51, h47, h49, h50, h48⟩, (kits_no (kit_ref h42 h43 h44 h41) (kits_no (kit_ref h38 h39 h40 h37) (kits_no (kit_ref h34 h35 h36 h33) (kits_yes kit_same))))⟩
      rw [if_neg e] at h
      by_cases e : y = "BadCarriers"
      · rw [if_pos e] at h
        cases h
        subst e
        have z : C = A_BadCarriers := Value.ref.inj (Option.some.inj (hC.symm.trans (PySem.W.mg_of X G h1)))
        subst z
        exact ⟨⟨h62, h63, h14, h66, h64, h49, h50, h65⟩, (kits_no (kit_ref h61 h43 h44 h60) (kits_no (kit_ref h59 h39 h40 h58) (kits_no (kit_ref h57 h35 h36 h56) (kits_no (kit_ref h55 h51 h11 h54) (kits_no (kit_ref h53 h22 h23 h29) (kits_no (kit_ref h52 h18 h19 h28) kits_nil))))))⟩
      rw [if_neg e] at h
      cases h
    ix_BadCarriers := by
      intro y b h C hC
      unfold K01.ix_BadCarriers at h
      by_cases e : y = "BadType"
      · rw [if_pos e] at h
        cases h
        subst e
        have z : C = A_BadType := Value.ref.inj (Option.some.inj (hC.symm.trans (PySem.W.mg_of X G h2)))
        subst z
        exact ⟨⟨h45, h46, h10, h51, h47, h49, h50, h48⟩, (kit_ref h68 h66 h15 h67)⟩
      rw [if_neg e] at h
      by_cases e : y = "BadCarriers"
      · rw [if_pos e] at h
        cases h
        subst e
        have z : C = A_BadCarriers := Value.ref.inj (Option.some.inj (hC.symm.trans (PySem.W.mg_of X G h1)))
        subst z
        exact ⟨⟨h62, h63, h14, h66, h64, h49, h50, h65⟩, kit_same⟩
      rw [if_neg e] at h
      cases h
    ix_ValueError := by
      intro y b h C hC
      unfold K01.ix_ValueError at h
      by_cases e : y = "BadType"
      · rw [if_pos e] at h
        cases h
        subst e
        have z : C = A_BadType := Value.ref.inj (Option.some.inj (hC.symm.trans (PySem.W.mg_of X G h2)))
        subst z
        exact ⟨⟨h45, h46, h10, h51, h47, h49, h50, h48⟩, (kit_typ (by decide +kernel) h69)⟩
      rw [if_neg e] at h
      by_cases e : y = "BadCarriers"
      · rw [if_pos e] at h
        cases h
        subst e
        have z : C = A_BadCarriers := Value.ref.inj (Option.some.inj (hC.symm.trans (PySem.W.mg_of X G h1)))
        subst z
        exact ⟨⟨h62, h63, h14, h66, h64, h49, h50, h65⟩, (kit_typ (by decide +kernel) h70)⟩
      rw [if_neg e] at h
      cases h
    a_u_law_cell := a_u_law_cell
    d_u_law_cell := PySem.W.fnOf "_law_cell" "_law_cell" (defArgs s_u_law_cell) (defBody s_u_law_cell) (defScope s_u_law_cell) .none kV_u_law_cell dc_u_law_cell pm_u_law_cell an_u_law_cell cd_u_law_cell ct_u_law_cell
    F_u_law_cell := fun_mk (st := s_u_law_cell) h72 h73 h74
    g_u_law_cell := PySem.W.mg_of X G h71
    a_u_law_rows := a_u_law_rows
    d_u_law_rows := PySem.W.fnOf "_law_rows" "_law_rows" (defArgs s_u_law_rows) (defBody s_u_law_rows) (defScope s_u_law_rows) .none kV_u_law_rows dc_u_law_rows pm_u_law_rows an_u_law_rows cd_u_law_rows ct_u_law_rows
    F_u_law_rows := fun_mk (st := s_u_law_rows) h76 h77 h78
    g_u_law_rows := PySem.W.mg_of X G h75
    a_elements_of := a_elements_of
    d_elements_of := PySem.W.fnOf "elements_of" "elements_of" (defArgs s_elements_of) (defBody s_elements_of) (defScope s_elements_of) .none kV_elements_of dc_elements_of pm_elements_of an_elements_of cd_elements_of ct_elements_of
    F_elements_of := fun_mk (st := s_elements_of) h80 h81 h82
    g_elements_of := PySem.W.mg_of X G h79
    a_u_law_word := a_u_law_word
    d_u_law_word := PySem.W.fnOf "_law_word" "_law_word" (defArgs s_u_law_word) (defBody s_u_law_word) (defScope s_u_law_word) .none kV_u_law_word dc_u_law_word pm_u_law_word an_u_law_word cd_u_law_word ct_u_law_word
    F_u_law_word := fun_mk (st := s_u_law_word) h84 h85 h86
    g_u_law_word := PySem.W.mg_of X G h83
    a_u_law_bent := a_u_law_bent
    d_u_law_bent := PySem.W.fnOf "_law_bent" "_law_bent" (defArgs s_u_law_bent) (defBody s_u_law_bent) (defScope s_u_law_bent) .none kV_u_law_bent dc_u_law_bent pm_u_law_bent an_u_law_bent cd_u_law_bent ct_u_law_bent
    F_u_law_bent := fun_mk (st := s_u_law_bent) h88 h89 h90
    g_u_law_bent := PySem.W.mg_of X G h87
    a_u_law_is_name := a_u_law_is_name
    d_u_law_is_name := PySem.W.fnOf "_law_is_name" "_law_is_name" (defArgs s_u_law_is_name) (defBody s_u_law_is_name) (defScope s_u_law_is_name) .none kV_u_law_is_name dc_u_law_is_name pm_u_law_is_name an_u_law_is_name cd_u_law_is_name ct_u_law_is_name
    F_u_law_is_name := fun_mk (st := s_u_law_is_name) h92 h93 h94
    g_u_law_is_name := PySem.W.mg_of X G h91
    a_u_law_is_good := a_u_law_is_good
    d_u_law_is_good := PySem.W.fnOf "_law_is_good" "_law_is_good" (defArgs s_u_law_is_good) (defBody s_u_law_is_good) (defScope s_u_law_is_good) .none kV_u_law_is_good dc_u_law_is_good pm_u_law_is_good an_u_law_is_good cd_u_law_is_good ct_u_law_is_good
    F_u_law_is_good := fun_mk (st := s_u_law_is_good) h96 h97 h98
    g_u_law_is_good := PySem.W.mg_of X G h95
    a_is_name := a_is_name
    d_is_name := PySem.W.fnOf "is_name" "is_name" (defArgs s_is_name) (defBody s_is_name) (defScope s_is_name) .none kV_is_name dc_is_name pm_is_name an_is_name cd_is_name ct_is_name
    F_is_name := fun_mk (st := s_is_name) h100 h101 h102
    g_is_name := PySem.W.mg_of X G h99
    a_carrier_names := a_carrier_names
    d_carrier_names := PySem.W.fnOf "carrier_names" "carrier_names" (defArgs s_carrier_names) (defBody s_carrier_names) (defScope s_carrier_names) .none kV_carrier_names dc_carrier_names pm_carrier_names an_carrier_names cd_carrier_names ct_carrier_names
    F_carrier_names := fun_mk (st := s_carrier_names) h104 h105 h106
    g_carrier_names := PySem.W.mg_of X G h103
    a_u_is_carrier := a_u_is_carrier
    d_u_is_carrier := PySem.W.fnOf "_is_carrier" "_is_carrier" (defArgs s_u_is_carrier) (defBody s_u_is_carrier) (defScope s_u_is_carrier) .none kV_u_is_carrier dc_u_is_carrier pm_u_is_carrier an_u_is_carrier cd_u_is_carrier ct_u_is_carrier
    F_u_is_carrier := fun_mk (st := s_u_is_carrier) h108 h109 h110
    g_u_is_carrier := PySem.W.mg_of X G h107
    a_is_carriers := a_is_carriers
    d_is_carriers := PySem.W.fnOf "is_carriers" "is_carriers" (defArgs s_is_carriers) (defBody s_is_carriers) (defScope s_is_carriers) .none kV_is_carriers dc_is_carriers pm_is_carriers an_is_carriers cd_is_carriers ct_is_carriers
    F_is_carriers := fun_mk (st := s_is_carriers) h112 h113 h114
    g_is_carriers := PySem.W.mg_of X G h111
    a_need_carriers := a_need_carriers
    d_need_carriers := PySem.W.fnOf "need_carriers" "need_carriers" (defArgs s_need_carriers) (defBody s_need_carriers) (defScope s_need_carriers) .none kV_need_carriers dc_need_carriers pm_need_carriers an_need_carriers cd_need_carriers ct_need_carriers
    F_need_carriers := fun_mk (st := s_need_carriers) h116 h117 h118
    g_need_carriers := PySem.W.mg_of X G h115
    a_u_law_told := a_u_law_told
    d_u_law_told := PySem.W.fnOf "_law_told" "_law_told" (defArgs s_u_law_told) (defBody s_u_law_told) (defScope s_u_law_told) .none kV_u_law_told dc_u_law_told pm_u_law_told an_u_law_told cd_u_law_told ct_u_law_told
    F_u_law_told := fun_mk (st := s_u_law_told) h120 h121 h122
    g_u_law_told := PySem.W.mg_of X G h119
    a_law := fa
    d_law := PySem.W.fnOf "law" "law" (defArgs s_law) (defBody s_law) (defScope s_law) .none kV_law dc_law pm_law an_law cd_law ct_law
    F_law := fun_mk (st := s_law) h124 h125 h126
    n_ValueError := PySem.W.mg_none_of X G h127
    n_all := PySem.W.mg_none_of X G h128
    n_isinstance := PySem.W.mg_none_of X G h129
    n_len := PySem.W.mg_none_of X G h130
    n_list := PySem.W.mg_none_of X G h131
    n_min := PySem.W.mg_none_of X G h132
    n_range := PySem.W.mg_none_of X G h133
    n_repr := PySem.W.mg_none_of X G h134
    n_set := PySem.W.mg_none_of X G h135
    n_str := PySem.W.mg_none_of X G h136
    n_tuple := PySem.W.mg_none_of X G h137
    v_FIGURES := v_FIGURES
    c_FIGURES := PySem.W.mg_of X G h138
    r_FIGURES := h139
    v_MOST_ELEMENTS := v_MOST_ELEMENTS
    c_MOST_ELEMENTS := PySem.W.mg_of X G h140
    r_MOST_ELEMENTS := h141
    v_MOST_SETS := v_MOST_SETS
    c_MOST_SETS := PySem.W.mg_of X G h142
    r_MOST_SETS := h143
    v_MOST_SIGNS := v_MOST_SIGNS
    c_MOST_SIGNS := PySem.W.mg_of X G h144
    r_MOST_SIGNS := h145
    v_SMALL_LETTERS := v_SMALL_LETTERS
    c_SMALL_LETTERS := PySem.W.mg_of X G h146
    r_SMALL_LETTERS := h147
  }
  exact ⟨T.d_law, fun s v => .of_eq rfl, fun base _ _ => ok_law T⟩
end K01
set_option maxRecDepth 100000
set_option maxHeartbeats 4000000
namespace Zz
open PySem PySem.Spec PyProof.Rows L2
/-! ### reckoning with readings -/
@[simp] theorem rd_d (S : List Cell) (x : D) : rd S (.d x) = some x := rfl
@[simp] theorem frz_d (x : D) (S : List Cell) : frz (.d x) S = .ok x S := rfl
@[simp] theorem Res.bind_ok {A B : Type} (a : A) (S : List Cell) (k : A → M B) : (Res.ok a S).bind k = k a S := rfl
@[simp] theorem Res.bind_st {A B : Type} (k : A → M B) : (Res.st : Res A).bind k = .st := rfl
@[simp] theorem Res.bind_ex {A B : Type} (x : Ex) (S : List Cell) (k : A → M B) : (Res.ex x S : Res A).bind k = .ex x S := rfl
@[simp] theorem Res.then_ok {A : Type} (a : A) (S : List Cell) (ρ : Env') (k : A → List Cell → SRes) : (Res.ok a S).then_ ρ k = k a S := rfl
@[simp] theorem Res.then_ex {A : Type} (x : Ex) (S : List Cell) (ρ : Env') (k : A → List Cell → SRes) : (Res.ex x S : Res A).then_ ρ k = .ex x ρ S := rfl
@[simp] theorem M.bind_at {A B : Type} (m : M A) (k : A → M B) (S : List Cell) : M.bind m k S = (m S).bind k := rfl
@[simp] theorem M.ret_at {A : Type} (a : A) (S : List Cell) : M.ret a S = .ok a S := rfl
@[simp] theorem dC_at (d : D) (ρ : Env') (S : List Cell) : dC d ρ S = .ok (.d d) S := rfl
theorem dVar_at {i : Nat} {ρ : Env'} {S : List Cell} {x : Val} (h : ρ[i]? = some (some x)) : dVar i ρ S = .ok x S := by unfold dVar; rw [h]
@[simp] theorem on1_d (o : D → Option D) (x c : D) (S : List Cell) (h : o x = some c) : on1 o (.d x) S = .ok (.d c) S := by unfold on1; simp [h]
theorem dFn1_at {o : D → Option D} {f : Env' → M Val} {ρ : Env'} {S S' : List Cell} {v : Val} {x c : D} (h : f ρ S = .ok v S') (hr : rd S' v = some x) (e : o x = some c) : dFn1 o f ρ S = .ok (.d c) S' := by
  show (f ρ S).bind (on1 o) = _
  rw [h]
  show on1 o v S' = _
  unfold on1
  rw [hr]
  simp [e]
theorem dBin_at {o : O2} {f g : Env' → M Val} {ρ : Env'} {S S1 S2 : List Cell} {v u : Val} {x y c : D} (h : f ρ S = .ok v S1) (h2 : g ρ S1 = .ok u S2) (hr : rd S2 v = some x) (hr2 : rd S2 u = some y) (e : o x y = some c) : dBin o f g ρ S = .ok (.d c) S2 := by
  show (f ρ S).bind (fun x => (g ρ).bind fun y => on2 o x y) = _
  rw [h]
  show (g ρ S1).bind (fun y => on2 o v y) = _
  rw [h2]
  show on2 o v u S2 = _
  unfold on2
  rw [hr, hr2]
  simp [e]
/-! ### comprehensions that only tell -/
theorem lcGo_pure {g : Tg} {ts : Env' → M Bool} {f : Env' → M Val} {ρ0 : Env'} {S : List Cell} {ρ1 : D → Env'} {p : D → Bool} {v : D → D} : ∀ (ds acc : List D), acc.length + ds.length ≤ 16777216 →
    (∀ d ∈ ds, g (.d d) ρ0 = some (ρ1 d)) → (∀ d ∈ ds, ∀ R, ts (ρ1 d) (S ++ R) = .ok (p d) (S ++ R)) → (∀ d ∈ ds, p d = true → ∀ R, f (ρ1 d) (S ++ R) = .ok (.d (v d)) (S ++ R)) →
    lcGo g (kTest ts (kPush S.length f)) ρ0 ds (S ++ [.lst acc]) = some (S ++ [.lst (acc ++ (ds.filter p).map v)])
  | [], acc, _, _, _, _ => by simp [lcGo]
  | d :: ds, acc, hl, h1, h2, h3 => by
    have hl' : acc.length + (ds.length + 1) ≤ 16777216 := hl
    unfold lcGo
    rw [h1 d List.mem_cons_self]
    show (kTest ts (kPush S.length f) (ρ1 d) (S ++ [.lst acc])).bind _ = _
    have get : (S ++ [Cell.lst acc])[S.length]? = some (.lst acc) := by rw [List.getElem?_append_right (Nat.le_refl _), Nat.sub_self]; rfl
    unfold kTest
    rw [h2 d List.mem_cons_self]
    dsimp only
    by_cases hp : p d = true
    · rw [if_pos hp]
      unfold kPush
      rw [h3 d List.mem_cons_self hp]
      show (push S.length (v d) (S ++ [.lst acc])).bind _ = _
      unfold push
      rw [get]
      dsimp only
      rw [if_pos (by omega)]
      have st : (S ++ [Cell.lst acc]).set S.length (.lst (acc ++ [v d])) = S ++ [.lst (acc ++ [v d])] := by
        rw [List.set_append_right _ _ (Nat.le_refl _), Nat.sub_self]; rfl
      rw [st]
      show lcGo g (kTest ts (kPush S.length f)) ρ0 ds (S ++ [.lst (acc ++ [v d])]) = _
      rw [lcGo_pure ds (acc ++ [v d]) (by simp; omega) (fun e he => h1 e (List.mem_cons_of_mem _ he)) (fun e he => h2 e (List.mem_cons_of_mem _ he)) (fun e he => h3 e (List.mem_cons_of_mem _ he)), List.filter_cons_of_pos hp, List.map_cons, List.append_assoc]
      rfl
    · rw [if_neg hp]
      show lcGo g (kTest ts (kPush S.length f)) ρ0 ds (S ++ [.lst acc]) = _
      rw [lcGo_pure ds acc (by omega) (fun e he => h1 e (List.mem_cons_of_mem _ he)) (fun e he => h2 e (List.mem_cons_of_mem _ he)) (fun e he => h3 e (List.mem_cons_of_mem _ he)), List.filter_cons_of_neg hp]
theorem lcEnd_at (S : List Cell) (es : List D) : lcEnd S.length (some (S ++ [.lst es])) = .ok (.d (.list es)) S := by
  unfold lcEnd
  have get : (S ++ [Cell.lst es])[S.length]? = some (.lst es) := by rw [List.getElem?_append_right (Nat.le_refl _), Nat.sub_self]; rfl
  have z : frz (.c S.length) (S ++ [Cell.lst es]) = .ok (.list es) ((S ++ [Cell.lst es]).set S.length (.old (.list es))) := by
    unfold frz
    simp only [get]
  show (frz (.c S.length) (S ++ [Cell.lst es])).bind (fun d T' => Res.ok (Val.d d) (T'.take S.length)) = _
  rw [z]
  show Res.ok _ (((S ++ [Cell.lst es]).set S.length (.old (.list es))).take S.length) = _
  rw [List.take_set_of_le (Nat.le_refl _), List.take_left']
  rfl
theorem dLc_pure {it : Env' → M (List D)} {g : Tg} {ts : Env' → M Bool} {f : Env' → M Val} {vs : List Nat} {ρ : Env'} {S S1 : List Cell} {ds : List D} {ρ1 : D → Env'} {p : D → Bool} {v : D → D} (hi : it ρ S = .ok ds S1) (hl : ds.length ≤ 16777216)
    (h1 : ∀ d ∈ ds, g (.d d) (wipeE ρ vs) = some (ρ1 d)) (h2 : ∀ d ∈ ds, ∀ R, ts (ρ1 d) (S1 ++ R) = .ok (p d) (S1 ++ R)) (h3 : ∀ d ∈ ds, p d = true → ∀ R, f (ρ1 d) (S1 ++ R) = .ok (.d (v d)) (S1 ++ R)) :
    dLc it g (fun l => kTest ts (kPush l f)) vs ρ S = .ok (.d (.list ((ds.filter p).map v))) S1 := by
  show (it ρ S).bind _ = _
  rw [hi]
  show lcEnd S1.length (lcGo g (kTest ts (kPush S1.length f)) (wipeE ρ vs) ds (S1 ++ [.lst []])) = _
  rw [lcGo_pure ds [] (by simpa using hl) h1 h2 h3, List.nil_append, lcEnd_at]
/-- the signs of a text, each a text -/
def signs (x : Str) : List D := x.cps.toList.map fun c => .str ⟨#[c]⟩
theorem itAny_at {f : Env' → M Val} {ρ : Env'} {S S1 : List Cell} {d : D} {ds : List D} (h : f ρ S = .ok (.d d) S1) (e : itemsD d = some ds) : itAny f ρ S = .ok ds S1 := by
  show (f ρ S).bind _ = _
  rw [h]
  show (match itemsD d with | some ds => M.ret ds | none => M.st) S1 = _
  rw [e]
  rfl
theorem itRng_at {f : Env' → M Val} {ρ : Env'} {S S1 : List Cell} {j : Int} (h : f ρ S = .ok (.d (.int j)) S1) (hz : -(2 ^ 62) ≤ j ∧ j < 2 ^ 62) : itRng f ρ S = .ok ((List.range j.toNat).map fun i : Nat => .int (0 + i)) S1 := by
  show (f ρ S).bind _ = _
  rw [h]
  show (if -(2 ^ 62) ≤ j ∧ j < 2 ^ 62 then M.ret ((List.range j.toNat).map fun i : Nat => PyData.int (0 + i)) else M.st) S1 = _
  rw [if_pos hz]
  rfl
theorem iteA {A B : Type} {c : Prop} [Decidable c] (f g : A → B) (a : A) : (if c then f else g) a = if c then f a else g a := by split <;> rfl
theorem size_len (x : Str) : x.cps.toList.length = x.length := by simp [Str.length]
theorem filter_yes {A : Type} (l : List A) : l.filter (fun _ => true) = l := by induction l with | nil => rfl | cons a l ih => rw [List.filter_cons_of_pos rfl, ih]
theorem at0 {A : Type} (a : A) (r : List A) : atI (a :: r) 0 = some a := atI_nat (j := 0) rfl
end Zz
set_option maxRecDepth 100000
set_option maxHeartbeats 4000000
namespace Zz
open PySem PySem.Spec PyProof.Rows L2
/-! ### reckoning step by step -/
section
variable {ρ ρ' : Env'} {S S' S1 S2 : List Cell}
theorem sSeq_nx {f g : SD} (h : f ρ S = .nx ρ' S') : sSeq f g ρ S = g ρ' S' := by unfold sSeq; rw [h]
theorem sSeq_rt {f g : SD} {v : Val} (h : f ρ S = .rt v S') : sSeq f g ρ S = .rt v S' := by unfold sSeq; rw [h]
theorem sSet_at {i : Nat} {f : Env' → M Val} {v : Val} (h : f ρ S = .ok v S') : sSet i f ρ S = .nx (ρ.set i (some v)) S' := by unfold sSet; rw [h]; rfl
theorem sRet_at {f : Env' → M Val} {v : Val} (h : f ρ S = .ok v S') : sRet f ρ S = .rt v S' := by unfold sRet; rw [h]; rfl
theorem sExpr_at {f : Env' → M Val} {v : Val} (h : f ρ S = .ok v S') : sExpr f ρ S = .nx ρ S' := by unfold sExpr; rw [h]; rfl
theorem sIf_at {t : Env' → M Bool} {f g : SD} {b : Bool} (h : t ρ S = .ok b S') : sIf t f g ρ S = if b = true then f ρ S' else g ρ S' := by unfold sIf; rw [h]; rfl
theorem sIf_t {t : Env' → M Bool} {f g : SD} (h : t ρ S = .ok true S') : sIf t f g ρ S = f ρ S' := by rw [sIf_at h, if_pos rfl]
theorem sIf_f {t : Env' → M Bool} {f g : SD} (h : t ρ S = .ok false S') : sIf t f g ρ S = g ρ S' := by rw [sIf_at h, if_neg Bool.false_ne_true]
theorem sIf_skip {t : Env' → M Bool} {f : SD} (h : t ρ S = .ok false S') : sIf t f sNil ρ S = .nx ρ S' := sIf_f h
theorem toB_at {f : Env' → M Val} {b : Bool} (h : f ρ S = .ok (.d (.bool b)) S') : toB f ρ S = .ok b S' := by unfold toB; rw [h]; rfl
theorem toT_at {f : Env' → M Val} {v : Val} {d : D} {b : Bool} (h : f ρ S = .ok v S') (hr : rd S' v = some d) (e : truD d = some b) : toT f ρ S = .ok b S' := by
  show (f ρ S).bind _ = _
  rw [h]
  show (match rd S' v with | some d => (match truD d with | some b => Res.ok b S' | none => .st) | none => .st) = _
  rw [hr]
  show (match truD d with | some b => Res.ok b S' | none => .st) = _
  rw [e]
theorem tNotD_at {t : Env' → M Bool} {b : Bool} (h : t ρ S = .ok b S') : tNotD t ρ S = .ok (!b) S' := by
  show (t ρ S).bind _ = _
  rw [h]; rfl
theorem tAndD_t {t u : Env' → M Bool} {b : Bool} (h : t ρ S = .ok true S') (h2 : u ρ S' = .ok b S2) : tAndD t u ρ S = .ok b S2 := by
  show (t ρ S).bind _ = _
  rw [h]; exact h2
theorem tAndD_f {t u : Env' → M Bool} (h : t ρ S = .ok false S') : tAndD t u ρ S = .ok false S' := by
  show (t ρ S).bind _ = _
  rw [h]; rfl
theorem tOrD_t {t u : Env' → M Bool} (h : t ρ S = .ok true S') : tOrD t u ρ S = .ok true S' := by
  show (t ρ S).bind _ = _
  rw [h]; rfl
theorem tOrD_f {t u : Env' → M Bool} {b : Bool} (h : t ρ S = .ok false S') (h2 : u ρ S' = .ok b S2) : tOrD t u ρ S = .ok b S2 := by
  show (t ρ S).bind _ = _
  rw [h]; exact h2
theorem dIf_t {t : Env' → M Bool} {f g : Env' → M Val} (h : t ρ S = .ok true S') : dIf t f g ρ S = f ρ S' := by
  show (t ρ S).bind _ = _
  rw [h]; rfl
theorem dIf_f {t : Env' → M Bool} {f g : Env' → M Val} (h : t ρ S = .ok false S') : dIf t f g ρ S = g ρ S' := by
  show (t ρ S).bind _ = _
  rw [h]; rfl
theorem dNil_at : dNil ρ S = .ok [] S := rfl
theorem dCons_at {f : Env' → M Val} {g : Env' → M (List Val)} {x : Val} {xs : List Val} (h : f ρ S = .ok x S1) (h2 : g ρ S1 = .ok xs S2) : dCons f g ρ S = .ok (x :: xs) S2 := by
  show (f ρ S).bind _ = _
  rw [h]
  show (g ρ S1).bind _ = _
  rw [h2]; rfl
theorem dCall_at {F : Fn} {g : Env' → M (List Val)} {xs : List Val} (h : g ρ S = .ok xs S1) : dCall F g ρ S = F xs S1 := by
  show (g ρ S).bind _ = _
  rw [h]; rfl
theorem dTup_at {g : Env' → M (List Val)} {xs : List Val} {ds : List D} (h : g ρ S = .ok xs S1) (h2 : frzs xs S1 = .ok ds S2) (hz : ds.length ≤ 16777216) : dTup g ρ S = .ok (.d (.tuple ds)) S2 := by
  show (g ρ S).bind _ = _
  rw [h]
  show (frzs xs S1).bind _ = _
  rw [h2]
  show (if ds.length ≤ 16777216 then M.ret (Val.d (.tuple ds)) else M.st) S2 = _
  rw [if_pos hz]; rfl
theorem dLst_at {g : Env' → M (List Val)} {xs : List Val} {ds : List D} (h : g ρ S = .ok xs S1) (h2 : frzs xs S1 = .ok ds S2) (hz : ds.length ≤ 16777216) : dLst g ρ S = .ok (.d (.list ds)) S2 := by
  show (g ρ S).bind _ = _
  rw [h]
  show (frzs xs S1).bind _ = _
  rw [h2]
  show (if ds.length ≤ 16777216 then M.ret (Val.d (.list ds)) else M.st) S2 = _
  rw [if_pos hz]; rfl
theorem frzs_d : ∀ (ms : List D) (S : List Cell), frzs (ms.map .d) S = .ok ms S
  | [], S => rfl
  | d :: ms, S => by
    show ((frzs (ms.map .d) S).bind fun ds => M.ret (d :: ds)) = _
    rw [frzs_d ms S]; rfl
theorem body_rt {np nl : Nat} {b : SD} {as : List Val} {d : D} {R : List Cell} (ha : as.length = np) (h : b (as.map some ++ List.replicate (nl - as.length) none) S = .rt (.d d) R) : bodyFn np nl b as S = .ok (.d d) (R.take S.length) := by
  unfold bodyFn
  rw [if_pos ha, h]; rfl
/-- an index within -/
theorem atI_in {A : Type} (l : List A) (i : Int) (h0 : 0 ≤ i) (h1 : i < l.length) : ∃ a, a ∈ l ∧ atI l i = some a := by
  obtain ⟨j, rfl⟩ := Int.eq_ofNat_of_zero_le h0
  have hj : j < l.length := by omega
  exact ⟨l[j], List.getElem_mem hj, atI_nat (j := j) (List.getElem?_eq_getElem hj)⟩
theorem fmod_in (i : Int) (n : Int) (h : 0 < n) : 0 ≤ i.fmod n ∧ i.fmod n < n := ⟨Int.fmod_nonneg_of_pos i h, Int.fmod_lt_of_pos i h⟩
end
end Zz
set_option maxRecDepth 100000
set_option maxHeartbeats 1000000
namespace K01
open PySem PySem.Spec PyProof.Rows L2 Zz
/-! ### names -/
def inL (c : Nat) : Bool := decide (c ∈ ("abcdefghijklmnopqrstuvwxyz" : Str).cps.toList)
def inF (c : Nat) : Bool := decide (c ∈ ("0123456789" : Str).cps.toList)
def lf (c : Nat) : Bool := inL c || inF c
def yn (x : Str) : Bool := x == "yes" || x == "no"
def firstIn (x : Str) : Bool := match x.cps.toList with
  | c :: _ => inL c
  | [] => false
def szOk (x : Str) : Bool := decide (1 ≤ x.length) && decide (x.length ≤ 8)
def nm (x : Str) : Bool := szOk x && (firstIn x && !yn x) && x.cps.toList.all lf
theorem in_yn (x : Str) : inD (.str x) (.tuple [.str "yes", .str "no"]) = some (yn x) := by
  unfold inD yn
  simp [flatD, PyData.eqv]
  rw [Bool.beq_comm (a := Str.ofString "yes"), Bool.beq_comm (a := Str.ofString "no")]
theorem ix0 (x : Str) (h : x.length ≤ 16777216) {c : Nat} {r : List Nat} (e : x.cps.toList = c :: r) : oIx (.str x) (.int 0) = some (.str ⟨#[c]⟩) := by
  unfold oIx
  simp [h]
  rw [e, at0]
theorem inL_one (c : Nat) : inD (.str ⟨#[c]⟩) (.str "abcdefghijklmnopqrstuvwxyz") = some (inL c) := rfl
theorem inF_one (c : Nat) : inD (.str ⟨#[c]⟩) (.str "0123456789") = some (inF c) := rfl
theorem both_eq (c : Nat) : decide (c ∈ ("abcdefghijklmnopqrstuvwxyz0123456789" : Str).cps.toList) = lf c := by
  unfold lf inL inF
  have e : ("abcdefghijklmnopqrstuvwxyz0123456789" : Str).cps.toList = ("abcdefghijklmnopqrstuvwxyz" : Str).cps.toList ++ ("0123456789" : Str).cps.toList := by decide +kernel
  rw [e, Bool.eq_iff_iff]
  simp only [decide_eq_true_eq, List.mem_append, Bool.or_eq_true]
theorem inB_one (c : Nat) : inD (.str ⟨#[c]⟩) (.str "abcdefghijklmnopqrstuvwxyz0123456789") = some (lf c) := by
  rw [← both_eq]
  rfl
/-- the sign of a text of one -/
def hd1 : D → Nat
  | .str x => x.cps.toList.headD 0
  | _ => 0
theorem hd1_one (c : Nat) : hd1 (.str ⟨#[c]⟩) = c := rfl
theorem asBool_map {A : Type} (p : A → Bool) : ∀ l : List A, (l.map fun c => PyData.bool (p c)).mapM asBool = some (l.map p)
  | [] => rfl
  | a :: l => by
    rw [List.map_cons, List.mapM_cons, asBool_map p l]
    rfl
theorem oAll_map {A : Type} (p : A → Bool) (l : List A) : oAll (.list (l.map fun c => PyData.bool (p c))) = some (.bool (l.all p)) := by
  show Option.map (fun bs : List Bool => PyData.bool (bs.all id)) ((l.map fun c => PyData.bool (p c)).mapM asBool) = _
  rw [asBool_map]
  simp
theorem map_one (x : Str) (f : Nat → D) : (x.cps.toList.map fun c => (PyData.str ⟨#[c]⟩ : D)).map (fun d => f (hd1 d)) = x.cps.toList.map f := by
  rw [List.map_map]
  rfl
theorem comp_is_name (x : Str) (S : List Cell) (h : x.length ≤ 8) : dLc (itAny (dVar 0)) (toName 1) (fun l => kTest (fun _ => M.ret true) (kPush l (dOr (dBin oIn (dVar 1) (dC (.str "abcdefghijklmnopqrstuvwxyz"))) (dBin oIn (dVar 1) (dC (.str "0123456789")))))) [1] [some (.d (.str x)), none] S
    = .ok (.d (.list (x.cps.toList.map fun c => .bool (lf c)))) S := by
  have hit : itAny (dVar 0) [some (.d (.str x)), none] S = .ok (x.cps.toList.map fun c => .str ⟨#[c]⟩) S := itAny_at (d := .str x) rfl rfl
  have hl : x.cps.toList.length ≤ 8 := by rw [size_len]; exact h
  rw [dLc_pure (ρ1 := fun d => [some (.d (.str x)), some (.d d)]) (p := fun _ => true) (v := fun d => .bool (lf (hd1 d))) hit (by rw [List.length_map]; omega) (fun d _ => rfl) (fun d _ R => rfl) fun d hd _ R => ?_]
  · rw [filter_yes, map_one x (fun c => .bool (lf c))]
  · obtain ⟨c, hc, rfl⟩ := List.mem_map.mp hd
    rw [hd1_one]
    unfold lf
    cases hL : inL c
    · simp [Zz.iteA, Zz.sSeq, Zz.sIf, Zz.sRet, Zz.sNil, Zz.sSet, Zz.sExpr, Zz.sRetN, Zz.sAsg, Zz.toTup, Zz.toCons, Zz.toNil, Zz.toName, Zz.tOrD, Zz.tAndD, Zz.tNotD, Zz.toB, Zz.toBr, Zz.toT, Zz.truD, Zz.dFn1, Zz.on1, Zz.dVar, Zz.dBin, Zz.on2, Zz.dChain, Zz.dNot, Zz.dAnd, Zz.dOr, Zz.dIf, Zz.dTup, Zz.dLst, Zz.dNil, Zz.dCons, Zz.frzs, Zz.dCall, Zz.oLe, Zz.oLt, Zz.oGt, Zz.oGe, Zz.oCmp, oIn, inL_one, inF_one, hL]
    · simp [Zz.iteA, Zz.sSeq, Zz.sIf, Zz.sRet, Zz.sNil, Zz.sSet, Zz.sExpr, Zz.sRetN, Zz.sAsg, Zz.toTup, Zz.toCons, Zz.toNil, Zz.toName, Zz.tOrD, Zz.tAndD, Zz.tNotD, Zz.toB, Zz.toBr, Zz.toT, Zz.truD, Zz.dFn1, Zz.on1, Zz.dVar, Zz.dBin, Zz.on2, Zz.dChain, Zz.dNot, Zz.dAnd, Zz.dOr, Zz.dIf, Zz.dTup, Zz.dLst, Zz.dNil, Zz.dCons, Zz.frzs, Zz.dCall, Zz.oLe, Zz.oLt, Zz.oGt, Zz.oGe, Zz.oCmp, oIn, inL_one, inF_one, hL]
theorem is_name_str (x : Str) (h : x.length ≤ 16777216) (S : List Cell) : fn_is_name [.d (.str x)] S = .ok (.d (.bool (nm x))) S := by
  show finish S.length (body_is_name [some (.d (.str x)), none] S) = _
  have key : body_is_name [some (.d (.str x)), none] S = .rt (.d (.bool (nm x))) S := by
    unfold body_is_name nm szOk
    by_cases h1 : 1 ≤ x.length
    · by_cases h8 : x.length ≤ 8
      · obtain ⟨c, r, e⟩ : ∃ c r, x.cps.toList = c :: r := by
          cases q : x.cps.toList with
          | nil => rw [← size_len, q] at h1; exact absurd h1 (by simp)
          | cons c r => exact ⟨c, r, rfl⟩
        have i1 : (1 : Int) ≤ x.length := by omega
        have i2 : (x.length : Int) ≤ 8 := by omega
        have hf : firstIn x = inL c := by unfold firstIn; rw [e]
        cases hL : inL c
        · simp [Zz.iteA, Zz.sSeq, Zz.sIf, Zz.sRet, Zz.sNil, Zz.sSet, Zz.sExpr, Zz.sRetN, Zz.sAsg, Zz.toTup, Zz.toCons, Zz.toNil, Zz.toName, Zz.tOrD, Zz.tAndD, Zz.tNotD, Zz.toB, Zz.toBr, Zz.toT, Zz.truD, Zz.dFn1, Zz.on1, Zz.dVar, Zz.dBin, Zz.on2, Zz.dChain, Zz.dNot, Zz.dAnd, Zz.dOr, Zz.dIf, Zz.dTup, Zz.dLst, Zz.dNil, Zz.dCons, Zz.frzs, Zz.dCall, Zz.oLe, Zz.oLt, Zz.oGt, Zz.oGe, Zz.oCmp, oIsB, isB, oLen, h, i1, i2, ix0 x h e, oNotIn, oIn, inL_one, in_yn x, hL, hf]
        · cases hy : yn x
          · simp [Zz.iteA, Zz.sSeq, Zz.sIf, Zz.sRet, Zz.sNil, Zz.sSet, Zz.sExpr, Zz.sRetN, Zz.sAsg, Zz.toTup, Zz.toCons, Zz.toNil, Zz.toName, Zz.tOrD, Zz.tAndD, Zz.tNotD, Zz.toB, Zz.toBr, Zz.toT, Zz.truD, Zz.dFn1, Zz.on1, Zz.dVar, Zz.dBin, Zz.on2, Zz.dChain, Zz.dNot, Zz.dAnd, Zz.dOr, Zz.dIf, Zz.dTup, Zz.dLst, Zz.dNil, Zz.dCons, Zz.frzs, Zz.dCall, Zz.oLe, Zz.oLt, Zz.oGt, Zz.oGe, Zz.oCmp, oIsB, isB, oLen, h, i1, i2, ix0 x h e, oNotIn, oIn, inL_one, in_yn x, hL, hf, hy, comp_is_name x S h8, oAll_map, h1, h8]
          · simp [Zz.iteA, Zz.sSeq, Zz.sIf, Zz.sRet, Zz.sNil, Zz.sSet, Zz.sExpr, Zz.sRetN, Zz.sAsg, Zz.toTup, Zz.toCons, Zz.toNil, Zz.toName, Zz.tOrD, Zz.tAndD, Zz.tNotD, Zz.toB, Zz.toBr, Zz.toT, Zz.truD, Zz.dFn1, Zz.on1, Zz.dVar, Zz.dBin, Zz.on2, Zz.dChain, Zz.dNot, Zz.dAnd, Zz.dOr, Zz.dIf, Zz.dTup, Zz.dLst, Zz.dNil, Zz.dCons, Zz.frzs, Zz.dCall, Zz.oLe, Zz.oLt, Zz.oGt, Zz.oGe, Zz.oCmp, oIsB, isB, oLen, h, i1, i2, ix0 x h e, oNotIn, oIn, inL_one, in_yn x, hL, hf, hy]
      · have i1 : (1 : Int) ≤ x.length := by omega
        have i2 : ¬ (x.length : Int) ≤ 8 := by omega
        simp [Zz.iteA, Zz.sSeq, Zz.sIf, Zz.sRet, Zz.sNil, Zz.sSet, Zz.sExpr, Zz.sRetN, Zz.sAsg, Zz.toTup, Zz.toCons, Zz.toNil, Zz.toName, Zz.tOrD, Zz.tAndD, Zz.tNotD, Zz.toB, Zz.toBr, Zz.toT, Zz.truD, Zz.dFn1, Zz.on1, Zz.dVar, Zz.dBin, Zz.on2, Zz.dChain, Zz.dNot, Zz.dAnd, Zz.dOr, Zz.dIf, Zz.dTup, Zz.dLst, Zz.dNil, Zz.dCons, Zz.frzs, Zz.dCall, Zz.oLe, Zz.oLt, Zz.oGt, Zz.oGe, Zz.oCmp, oIsB, isB, oLen, h, i1, i2, h8, h1]
    · have i1 : ¬ (1 : Int) ≤ x.length := by omega
      simp [Zz.iteA, Zz.sSeq, Zz.sIf, Zz.sRet, Zz.sNil, Zz.sSet, Zz.sExpr, Zz.sRetN, Zz.sAsg, Zz.toTup, Zz.toCons, Zz.toNil, Zz.toName, Zz.tOrD, Zz.tAndD, Zz.tNotD, Zz.toB, Zz.toBr, Zz.toT, Zz.truD, Zz.dFn1, Zz.on1, Zz.dVar, Zz.dBin, Zz.on2, Zz.dChain, Zz.dNot, Zz.dAnd, Zz.dOr, Zz.dIf, Zz.dTup, Zz.dLst, Zz.dNil, Zz.dCons, Zz.frzs, Zz.dCall, Zz.oLe, Zz.oLt, Zz.oGt, Zz.oGe, Zz.oCmp, oIsB, isB, oLen, h, i1, h1]
  rw [key]
  show Res.ok _ (S.take S.length) = _
  rw [List.take_length]
/-- a name? -/
def nmD : D → Bool
  | .str x => nm x
  | _ => false
def shortD : D → Bool
  | .str x => decide (x.length ≤ 16777216)
  | _ => true
theorem is_name_any (d : D) (hd : shortD d = true) (S : List Cell) : fn_is_name [.d d] S = .ok (.d (.bool (nmD d))) S := by
  have rest : (∀ x, d ≠ .str x) → fn_is_name [.d d] S = .ok (.d (.bool false)) S := fun hn => by
    show finish S.length (body_is_name [some (.d d), none] S) = _
    have key : body_is_name [some (.d d), none] S = .rt (.d (.bool false)) S := by
      have hb : isB "str" d = false := by cases d <;> first | rfl | exact absurd rfl (hn _)
      unfold body_is_name
      simp [Zz.iteA, Zz.sSeq, Zz.sIf, Zz.sRet, Zz.sNil, Zz.sSet, Zz.sExpr, Zz.sRetN, Zz.sAsg, Zz.toTup, Zz.toCons, Zz.toNil, Zz.toName, Zz.tOrD, Zz.tAndD, Zz.tNotD, Zz.toB, Zz.toBr, Zz.toT, Zz.truD, Zz.dFn1, Zz.on1, Zz.dVar, Zz.dBin, Zz.on2, Zz.dChain, Zz.dNot, Zz.dAnd, Zz.dOr, Zz.dIf, Zz.dTup, Zz.dLst, Zz.dNil, Zz.dCons, Zz.frzs, Zz.dCall, Zz.oLe, Zz.oLt, Zz.oGt, Zz.oGe, Zz.oCmp, oIsB, hb]
    rw [key]
    show Res.ok _ (S.take S.length) = _
    rw [List.take_length]
  cases d with
  | str x => exact is_name_str x (by simpa [shortD] using hd) S
  | none => exact rest nofun
  | bool _ => exact rest nofun
  | int _ => exact rest nofun
  | list _ => exact rest nofun
  | tuple _ => exact rest nofun
  | dict _ => exact rest nofun
/-! ### the law's own reading of a name -/
theorem comp_law_name (x : Str) (S : List Cell) (h : x.length ≤ 8) : dLc (itAny (dVar 0)) (toName 1) (fun l => kTest (toB (dBin oNotIn (dVar 1) (dC (.str "abcdefghijklmnopqrstuvwxyz0123456789")))) (kPush l (dVar 1))) [1] [some (.d (.str x)), none] S
    = .ok (.d (.list ((x.cps.toList.filter fun c => !lf c).map fun c => .str ⟨#[c]⟩))) S := by
  have hit : itAny (dVar 0) [some (.d (.str x)), none] S = .ok (x.cps.toList.map fun c => .str ⟨#[c]⟩) S := itAny_at (d := .str x) rfl rfl
  have hl : x.cps.toList.length ≤ 8 := by rw [size_len]; exact h
  rw [dLc_pure (ρ1 := fun d => [some (.d (.str x)), some (.d d)]) (p := fun d => !lf (hd1 d)) (v := fun d => d) hit (by rw [List.length_map]; omega) (fun d _ => rfl) (fun d hd R => ?_) fun d hd _ R => ?_]
  · rw [List.filter_map, List.map_map]
    rfl
  · obtain ⟨c, hc, rfl⟩ := List.mem_map.mp hd
    rw [hd1_one]
    simp [Zz.iteA, Zz.sSeq, Zz.sIf, Zz.sRet, Zz.sNil, Zz.sSet, Zz.sExpr, Zz.sRetN, Zz.sAsg, Zz.toTup, Zz.toCons, Zz.toNil, Zz.toName, Zz.tOrD, Zz.tAndD, Zz.tNotD, Zz.toB, Zz.toBr, Zz.toT, Zz.truD, Zz.dFn1, Zz.on1, Zz.dVar, Zz.dBin, Zz.on2, Zz.dChain, Zz.dNot, Zz.dAnd, Zz.dOr, Zz.dIf, Zz.dTup, Zz.dLst, Zz.dNil, Zz.dCons, Zz.frzs, Zz.dCall, Zz.oLe, Zz.oLt, Zz.oGt, Zz.oGe, Zz.oCmp, oNotIn, inB_one]
  · simp [Zz.iteA, Zz.sSeq, Zz.sIf, Zz.sRet, Zz.sNil, Zz.sSet, Zz.sExpr, Zz.sRetN, Zz.sAsg, Zz.toTup, Zz.toCons, Zz.toNil, Zz.toName, Zz.tOrD, Zz.tAndD, Zz.tNotD, Zz.toB, Zz.toBr, Zz.toT, Zz.truD, Zz.dFn1, Zz.on1, Zz.dVar, Zz.dBin, Zz.on2, Zz.dChain, Zz.dNot, Zz.dAnd, Zz.dOr, Zz.dIf, Zz.dTup, Zz.dLst, Zz.dNil, Zz.dCons, Zz.frzs, Zz.dCall, Zz.oLe, Zz.oLt, Zz.oGt, Zz.oGe, Zz.oCmp]
theorem ne_nil (l : List D) (h : SeqAt.shaped (.list l) = true) : oNe (.list l) (.list []) = some (.bool (!l.isEmpty)) := by
  have h2 : SeqAt.shaped (.list []) = true := by decide +kernel
  unfold oNe eqD
  simp [flatD, h, h2]
  cases l <;> rfl
theorem canLay_strs : ∀ l : List Nat, (∀ c ∈ l, c < 0x110000) → PyData.canLayAll0 (l.map fun c => .str ⟨#[c]⟩) = true
  | [], _ => rfl
  | c :: l, h => by
    rw [List.map_cons, PyData.canLayAll0, canLay_strs l fun k hk => h k (List.mem_cons_of_mem _ hk)]
    simpa [PyData.canLay0, PyData.strOk] using h c List.mem_cons_self
theorem depth_strs : ∀ l : List Nat, PyData.depthAll (l.map fun c => .str ⟨#[c]⟩) ≤ 1
  | [] => by simp [PyData.depthAll]
  | c :: l => by
    have ih := depth_strs l
    rw [List.map_cons, PyData.depthAll]
    simp only [PyData.depth]
    omega
theorem shaped_strs (l : List Nat) (hc : ∀ c ∈ l, c < 0x110000) : SeqAt.shaped (.list (l.map fun c => .str ⟨#[c]⟩)) = true := by
  unfold SeqAt.shaped
  have h := depth_strs l
  simp only [PyData.canLay0, canLay_strs l hc, PyData.depth, Bool.true_and]
  exact decide_eq_true (by omega)
theorem ok_signs {x : Str} (h : PyData.strOk x = true) {k : Nat} (hk : k ∈ x.cps.toList) : k < 0x110000 := by
  unfold PyData.strOk at h
  rw [← Array.all_toList] at h
  exact of_decide_eq_true (List.all_eq_true.mp h k hk)
theorem apart (c : Nat) (h : inL c = true) : inF c = false := by
  have z : (("abcdefghijklmnopqrstuvwxyz" : Str).cps.toList.all fun c => !inF c) = true := by decide +kernel
  have q := List.all_eq_true.mp z c (of_decide_eq_true h)
  simpa using q
theorem law_name_str (x : Str) (h : x.length ≤ 16777216) (hok : PyData.strOk x = true) (S : List Cell) : fn_u_law_is_name [.d (.str x)] S = .ok (.d (.bool (nm x))) S := by
  show finish S.length (body_u_law_is_name [some (.d (.str x)), none] S) = _
  have key : body_u_law_is_name [some (.d (.str x)), none] S = .rt (.d (.bool (nm x))) S := by
    unfold body_u_law_is_name nm szOk
    by_cases h1 : 1 ≤ x.length
    · by_cases h8 : x.length ≤ 8
      · obtain ⟨c, r, e⟩ : ∃ c r, x.cps.toList = c :: r := by
          cases q : x.cps.toList with
          | nil => rw [← size_len, q] at h1; exact absurd h1 (by simp)
          | cons c r => exact ⟨c, r, rfl⟩
        have i1 : (1 : Int) ≤ x.length := by omega
        have i2 : (x.length : Int) ≤ 8 := by omega
        have hf : firstIn x = inL c := by unfold firstIn; rw [e]
        cases hy : yn x
        · cases hA : x.cps.toList.all lf
          · have hne : ((x.cps.toList.filter fun c => !lf c).map fun c => (PyData.str ⟨#[c]⟩ : D)).isEmpty = false := by
              obtain ⟨k, hk, hk2⟩ := List.all_eq_false.mp hA
              cases q : (x.cps.toList.filter fun c => !lf c) with
              | nil =>
                have z := List.filter_eq_nil_iff.mp q k hk
                simp [hk2] at z
              | cons a b => rfl
            have hq := ne_nil _ (shaped_strs (x.cps.toList.filter fun c => !lf c) fun k hk => ok_signs hok (List.mem_filter.mp hk).1)
            rw [hne] at hq
            simp [Zz.iteA, Zz.sSeq, Zz.sIf, Zz.sRet, Zz.sNil, Zz.sSet, Zz.sExpr, Zz.sRetN, Zz.sAsg, Zz.toTup, Zz.toCons, Zz.toNil, Zz.toName, Zz.tOrD, Zz.tAndD, Zz.tNotD, Zz.toB, Zz.toBr, Zz.toT, Zz.truD, Zz.dFn1, Zz.on1, Zz.dVar, Zz.dBin, Zz.on2, Zz.dChain, Zz.dNot, Zz.dAnd, Zz.dOr, Zz.dIf, Zz.dTup, Zz.dLst, Zz.dNil, Zz.dCons, Zz.frzs, Zz.dCall, Zz.oLe, Zz.oLt, Zz.oGt, Zz.oGe, Zz.oCmp, oIsB, isB, oLen, h, i1, i2, oIn, in_yn x, hf, hy, comp_law_name x S h8, hq, hA]
          · have he : (x.cps.toList.filter fun c => !lf c) = [] := List.filter_eq_nil_iff.mpr fun k hk => by
              have z := List.all_eq_true.mp hA k hk
              simp [z]
            have hq := ne_nil [] (by decide +kernel)
            have hc := List.all_eq_true.mp hA c (by rw [e]; exact List.mem_cons_self)
            have hx : inL c = !inF c := by
              unfold lf at hc
              cases q : inL c with
              | true => rw [apart c q]; rfl
              | false => rw [q] at hc; simp at hc; rw [hc]; rfl
            simp [Zz.iteA, Zz.sSeq, Zz.sIf, Zz.sRet, Zz.sNil, Zz.sSet, Zz.sExpr, Zz.sRetN, Zz.sAsg, Zz.toTup, Zz.toCons, Zz.toNil, Zz.toName, Zz.tOrD, Zz.tAndD, Zz.tNotD, Zz.toB, Zz.toBr, Zz.toT, Zz.truD, Zz.dFn1, Zz.on1, Zz.dVar, Zz.dBin, Zz.on2, Zz.dChain, Zz.dNot, Zz.dAnd, Zz.dOr, Zz.dIf, Zz.dTup, Zz.dLst, Zz.dNil, Zz.dCons, Zz.frzs, Zz.dCall, Zz.oLe, Zz.oLt, Zz.oGt, Zz.oGe, Zz.oCmp, oIsB, isB, oLen, h, i1, i2, oIn, in_yn x, hf, hy, comp_law_name x S h8, he, hq, hA, ix0 x h e, oNotIn, inF_one, hx, h1, h8]
        · simp [Zz.iteA, Zz.sSeq, Zz.sIf, Zz.sRet, Zz.sNil, Zz.sSet, Zz.sExpr, Zz.sRetN, Zz.sAsg, Zz.toTup, Zz.toCons, Zz.toNil, Zz.toName, Zz.tOrD, Zz.tAndD, Zz.tNotD, Zz.toB, Zz.toBr, Zz.toT, Zz.truD, Zz.dFn1, Zz.on1, Zz.dVar, Zz.dBin, Zz.on2, Zz.dChain, Zz.dNot, Zz.dAnd, Zz.dOr, Zz.dIf, Zz.dTup, Zz.dLst, Zz.dNil, Zz.dCons, Zz.frzs, Zz.dCall, Zz.oLe, Zz.oLt, Zz.oGt, Zz.oGe, Zz.oCmp, oIsB, isB, oLen, h, i1, i2, oIn, in_yn x, hf, hy]
      · have i1 : (1 : Int) ≤ x.length := by omega
        have i2 : ¬ (x.length : Int) ≤ 8 := by omega
        simp [Zz.iteA, Zz.sSeq, Zz.sIf, Zz.sRet, Zz.sNil, Zz.sSet, Zz.sExpr, Zz.sRetN, Zz.sAsg, Zz.toTup, Zz.toCons, Zz.toNil, Zz.toName, Zz.tOrD, Zz.tAndD, Zz.tNotD, Zz.toB, Zz.toBr, Zz.toT, Zz.truD, Zz.dFn1, Zz.on1, Zz.dVar, Zz.dBin, Zz.on2, Zz.dChain, Zz.dNot, Zz.dAnd, Zz.dOr, Zz.dIf, Zz.dTup, Zz.dLst, Zz.dNil, Zz.dCons, Zz.frzs, Zz.dCall, Zz.oLe, Zz.oLt, Zz.oGt, Zz.oGe, Zz.oCmp, oIsB, isB, oLen, h, i1, i2, h8, h1]
    · have i1 : ¬ (1 : Int) ≤ x.length := by omega
      simp [Zz.iteA, Zz.sSeq, Zz.sIf, Zz.sRet, Zz.sNil, Zz.sSet, Zz.sExpr, Zz.sRetN, Zz.sAsg, Zz.toTup, Zz.toCons, Zz.toNil, Zz.toName, Zz.tOrD, Zz.tAndD, Zz.tNotD, Zz.toB, Zz.toBr, Zz.toT, Zz.truD, Zz.dFn1, Zz.on1, Zz.dVar, Zz.dBin, Zz.on2, Zz.dChain, Zz.dNot, Zz.dAnd, Zz.dOr, Zz.dIf, Zz.dTup, Zz.dLst, Zz.dNil, Zz.dCons, Zz.frzs, Zz.dCall, Zz.oLe, Zz.oLt, Zz.oGt, Zz.oGe, Zz.oCmp, oIsB, isB, oLen, h, i1, h1]
  rw [key]
  show Res.ok _ (S.take S.length) = _
  rw [List.take_length]
end K01
set_option maxRecDepth 100000
set_option maxHeartbeats 1000000
namespace K01
open PySem PySem.Spec PyProof.Rows L2 Zz
/-! ### carriers -/
mutual
/-- short texts throughout -/
def fineB : D → Bool
  | .none => true
  | .bool _ => true
  | .int _ => true
  | .str x => decide (x.length ≤ 16777216) && PyData.strOk x
  | .list xs => fineAll xs
  | .tuple xs => fineAll xs
  | .dict _ => true
def fineAll : List D → Bool
  | [] => true
  | x :: r => fineB x && fineAll r
end
theorem fineAll_mem : ∀ {l : List D}, fineAll l = true → ∀ d ∈ l, fineB d = true
  | [], _, _, h => by cases h
  | x :: r, h, d, hd => by
    rw [fineAll, Bool.and_eq_true] at h
    rcases List.mem_cons.mp hd with rfl | hd
    · exact h.1
    · exact fineAll_mem h.2 d hd
theorem fine_short {d : D} (h : fineB d = true) : shortD d = true := by
  cases d <;> simp [fineB, shortD] at h ⊢
  exact h.1
theorem is_name_f (d : D) (h : fineB d = true) (S : List Cell) : fn_is_name [.d d] S = .ok (.d (.bool (nmD d))) S := is_name_any d (fine_short h) S
theorem law_name_f (d : D) (hd : fineB d = true) (S : List Cell) : fn_u_law_is_name [.d d] S = .ok (.d (.bool (nmD d))) S := by
  have rest : (∀ x, d ≠ .str x) → fn_u_law_is_name [.d d] S = .ok (.d (.bool false)) S := fun hn => by
    show finish S.length (body_u_law_is_name [some (.d d), none] S) = _
    have key : body_u_law_is_name [some (.d d), none] S = .rt (.d (.bool false)) S := by
      have hb : isB "str" d = false := by cases d <;> first | rfl | exact absurd rfl (hn _)
      unfold body_u_law_is_name
      simp [Zz.iteA, Zz.sSeq, Zz.sIf, Zz.sRet, Zz.sNil, Zz.sSet, Zz.sExpr, Zz.sRetN, Zz.sAsg, Zz.toTup, Zz.toCons, Zz.toNil, Zz.toName, Zz.tOrD, Zz.tAndD, Zz.tNotD, Zz.toB, Zz.toBr, Zz.toT, Zz.truD, Zz.dFn1, Zz.on1, Zz.dVar, Zz.dBin, Zz.on2, Zz.dChain, Zz.dNot, Zz.dAnd, Zz.dOr, Zz.dIf, Zz.dTup, Zz.dLst, Zz.dNil, Zz.dCons, Zz.frzs, Zz.dCall, Zz.oLe, Zz.oLt, Zz.oGt, Zz.oGe, Zz.oCmp, oIsB, hb]
    rw [key]
    show Res.ok _ (S.take S.length) = _
    rw [List.take_length]
  cases d with
  | str x =>
    simp only [fineB, Bool.and_eq_true, decide_eq_true_eq] at hd
    exact law_name_str x hd.1 hd.2 S
  | none => exact rest nofun
  | bool _ => exact rest nofun
  | int _ => exact rest nofun
  | list _ => exact rest nofun
  | tuple _ => exact rest nofun
  | dict _ => exact rest nofun
/-- as many as one to four -/
def fourOk (ms : List D) : Bool := decide (1 ≤ ms.length) && decide (ms.length ≤ 4)
def carD : D → Bool
  | .tuple [a, .tuple ms] => nmD a && (fourOk ms && ms.all nmD)
  | _ => false
theorem ne_int (i j : Int) : oNe (.int i) (.int j) = some (.bool (!(i == j))) := rfl
theorem eq_int (i j : Int) : oEq (.int i) (.int j) = some (.bool (i == j)) := rfl
theorem four_at (ms : List D) (S : List Cell) (ρ : Env') {f : Env' → M Val} (e : f ρ S = .ok (.d (.tuple ms)) S) : dChain oLe oLe (dC (.int 1)) (dFn1 oLen f) (dC (.int 4)) ρ S = .ok (.d (.bool (fourOk ms))) S := by
  unfold fourOk
  by_cases h1 : 1 ≤ ms.length
  · have i1 : (1 : Int) ≤ ms.length := by omega
    by_cases h4 : ms.length ≤ 4
    · have i2 : (ms.length : Int) ≤ 4 := by omega
      simp [Zz.iteA, Zz.sSeq, Zz.sIf, Zz.sRet, Zz.sNil, Zz.sSet, Zz.sExpr, Zz.sRetN, Zz.sAsg, Zz.toTup, Zz.toCons, Zz.toNil, Zz.toName, Zz.tOrD, Zz.tAndD, Zz.tNotD, Zz.toB, Zz.toBr, Zz.toT, Zz.truD, Zz.dFn1, Zz.on1, Zz.dVar, Zz.dBin, Zz.on2, Zz.dChain, Zz.dNot, Zz.dAnd, Zz.dOr, Zz.dIf, Zz.dTup, Zz.dLst, Zz.dNil, Zz.dCons, Zz.frzs, Zz.dCall, Zz.oLe, Zz.oLt, Zz.oGt, Zz.oGe, Zz.oCmp, e, oLen, i1, i2, h1, h4]
    · have i2 : ¬ (ms.length : Int) ≤ 4 := by omega
      simp [Zz.iteA, Zz.sSeq, Zz.sIf, Zz.sRet, Zz.sNil, Zz.sSet, Zz.sExpr, Zz.sRetN, Zz.sAsg, Zz.toTup, Zz.toCons, Zz.toNil, Zz.toName, Zz.tOrD, Zz.tAndD, Zz.tNotD, Zz.toB, Zz.toBr, Zz.toT, Zz.truD, Zz.dFn1, Zz.on1, Zz.dVar, Zz.dBin, Zz.on2, Zz.dChain, Zz.dNot, Zz.dAnd, Zz.dOr, Zz.dIf, Zz.dTup, Zz.dLst, Zz.dNil, Zz.dCons, Zz.frzs, Zz.dCall, Zz.oLe, Zz.oLt, Zz.oGt, Zz.oGe, Zz.oCmp, e, oLen, i1, i2, h1, h4]
  · have i1 : ¬ (1 : Int) ≤ ms.length := by omega
    simp [Zz.iteA, Zz.sSeq, Zz.sIf, Zz.sRet, Zz.sNil, Zz.sSet, Zz.sExpr, Zz.sRetN, Zz.sAsg, Zz.toTup, Zz.toCons, Zz.toNil, Zz.toName, Zz.tOrD, Zz.tAndD, Zz.tNotD, Zz.toB, Zz.toBr, Zz.toT, Zz.truD, Zz.dFn1, Zz.on1, Zz.dVar, Zz.dBin, Zz.on2, Zz.dChain, Zz.dNot, Zz.dAnd, Zz.dOr, Zz.dIf, Zz.dTup, Zz.dLst, Zz.dNil, Zz.dCons, Zz.frzs, Zz.dCall, Zz.oLe, Zz.oLt, Zz.oGt, Zz.oGe, Zz.oCmp, e, oLen, i1, h1]
theorem comp_names (ms : List D) (hm : fineAll ms = true) (hl : ms.length ≤ 16777216) (ρ : Env') (S : List Cell) (h : ρ = [ρ.headD none, (ρ.drop 1).headD none, some (.d (.tuple ms)), none]) :
    dLc (itAny (dVar 2)) (toName 3) (fun l => kTest (fun _ => M.ret true) (kPush l (dCall fn_is_name (dCons (dVar 3) dNil)))) [3] ρ S = .ok (.d (.list (ms.map fun d => .bool (nmD d)))) S := by
  have hit : itAny (dVar 2) ρ S = .ok ms S := itAny_at (d := .tuple ms) (by rw [h]; rfl) rfl
  rw [dLc_pure (ρ1 := fun d => [ρ.headD none, (ρ.drop 1).headD none, some (.d (.tuple ms)), some (.d d)]) (p := fun _ => true) (v := fun d => .bool (nmD d)) hit hl (fun d _ => by rw [h]; rfl) (fun d _ R => rfl) fun d hd _ R => ?_]
  · rw [filter_yes]
  · simp [Zz.iteA, Zz.sSeq, Zz.sIf, Zz.sRet, Zz.sNil, Zz.sSet, Zz.sExpr, Zz.sRetN, Zz.sAsg, Zz.toTup, Zz.toCons, Zz.toNil, Zz.toName, Zz.tOrD, Zz.tAndD, Zz.tNotD, Zz.toB, Zz.toBr, Zz.toT, Zz.truD, Zz.dFn1, Zz.on1, Zz.dVar, Zz.dBin, Zz.on2, Zz.dChain, Zz.dNot, Zz.dAnd, Zz.dOr, Zz.dIf, Zz.dTup, Zz.dLst, Zz.dNil, Zz.dCons, Zz.frzs, Zz.dCall, Zz.oLe, Zz.oLt, Zz.oGt, Zz.oGe, Zz.oCmp, is_name_f d (fineAll_mem hm d hd)]
theorem is_carrier_f (d : D) (hd : fineB d = true) (hz : ∀ ds, d = .tuple ds → ∀ ms, .tuple ms ∈ ds → ms.length ≤ 16777216) (S : List Cell) : fn_u_is_carrier [.d d] S = .ok (.d (.bool (carD d))) S := by
  show finish S.length (body_u_is_carrier [some (.d d), none, none, none] S) = _
  have key : body_u_is_carrier [some (.d d), none, none, none] S = .rt (.d (.bool (carD d))) S := by
    have rest : isB "tuple" d = false → body_u_is_carrier [some (.d d), none, none, none] S = .rt (.d (.bool false)) S := fun hb => by
      unfold body_u_is_carrier
      simp [Zz.iteA, Zz.sSeq, Zz.sIf, Zz.sRet, Zz.sNil, Zz.sSet, Zz.sExpr, Zz.sRetN, Zz.sAsg, Zz.toTup, Zz.toCons, Zz.toNil, Zz.toName, Zz.tOrD, Zz.tAndD, Zz.tNotD, Zz.toB, Zz.toBr, Zz.toT, Zz.truD, Zz.dFn1, Zz.on1, Zz.dVar, Zz.dBin, Zz.on2, Zz.dChain, Zz.dNot, Zz.dAnd, Zz.dOr, Zz.dIf, Zz.dTup, Zz.dLst, Zz.dNil, Zz.dCons, Zz.frzs, Zz.dCall, Zz.oLe, Zz.oLt, Zz.oGt, Zz.oGe, Zz.oCmp, oIsB, hb]
    cases d with
    | tuple ds =>
      rw [fineB] at hd
      match ds, hd, hz with
      | [], _, _ =>
        unfold body_u_is_carrier
        simp [Zz.iteA, Zz.sSeq, Zz.sIf, Zz.sRet, Zz.sNil, Zz.sSet, Zz.sExpr, Zz.sRetN, Zz.sAsg, Zz.toTup, Zz.toCons, Zz.toNil, Zz.toName, Zz.tOrD, Zz.tAndD, Zz.tNotD, Zz.toB, Zz.toBr, Zz.toT, Zz.truD, Zz.dFn1, Zz.on1, Zz.dVar, Zz.dBin, Zz.on2, Zz.dChain, Zz.dNot, Zz.dAnd, Zz.dOr, Zz.dIf, Zz.dTup, Zz.dLst, Zz.dNil, Zz.dCons, Zz.frzs, Zz.dCall, Zz.oLe, Zz.oLt, Zz.oGt, Zz.oGe, Zz.oCmp, oIsB, isB, oLen, ne_int, carD]
      | [a], _, _ =>
        unfold body_u_is_carrier
        simp [Zz.iteA, Zz.sSeq, Zz.sIf, Zz.sRet, Zz.sNil, Zz.sSet, Zz.sExpr, Zz.sRetN, Zz.sAsg, Zz.toTup, Zz.toCons, Zz.toNil, Zz.toName, Zz.tOrD, Zz.tAndD, Zz.tNotD, Zz.toB, Zz.toBr, Zz.toT, Zz.truD, Zz.dFn1, Zz.on1, Zz.dVar, Zz.dBin, Zz.on2, Zz.dChain, Zz.dNot, Zz.dAnd, Zz.dOr, Zz.dIf, Zz.dTup, Zz.dLst, Zz.dNil, Zz.dCons, Zz.frzs, Zz.dCall, Zz.oLe, Zz.oLt, Zz.oGt, Zz.oGe, Zz.oCmp, oIsB, isB, oLen, ne_int, carD]
      | a :: b :: c :: r, _, _ =>
        have i1 : ¬ ((r.length : Int) + 1 + 1 + 1 = 2) := by omega
        unfold body_u_is_carrier
        simp [Zz.iteA, Zz.sSeq, Zz.sIf, Zz.sRet, Zz.sNil, Zz.sSet, Zz.sExpr, Zz.sRetN, Zz.sAsg, Zz.toTup, Zz.toCons, Zz.toNil, Zz.toName, Zz.tOrD, Zz.tAndD, Zz.tNotD, Zz.toB, Zz.toBr, Zz.toT, Zz.truD, Zz.dFn1, Zz.on1, Zz.dVar, Zz.dBin, Zz.on2, Zz.dChain, Zz.dNot, Zz.dAnd, Zz.dOr, Zz.dIf, Zz.dTup, Zz.dLst, Zz.dNil, Zz.dCons, Zz.frzs, Zz.dCall, Zz.oLe, Zz.oLt, Zz.oGt, Zz.oGe, Zz.oCmp, oIsB, isB, oLen, ne_int, carD, i1]
      | [a, b], hd, hz =>
        simp only [fineAll, Bool.and_eq_true, and_true] at hd
        unfold body_u_is_carrier
        cases hn : nmD a
        · have hc : carD (.tuple [a, b]) = false := by cases b <;> simp [carD, hn]
          simp [Zz.iteA, Zz.sSeq, Zz.sIf, Zz.sRet, Zz.sNil, Zz.sSet, Zz.sExpr, Zz.sRetN, Zz.sAsg, Zz.toTup, Zz.toCons, Zz.toNil, Zz.toName, Zz.tOrD, Zz.tAndD, Zz.tNotD, Zz.toB, Zz.toBr, Zz.toT, Zz.truD, Zz.dFn1, Zz.on1, Zz.dVar, Zz.dBin, Zz.on2, Zz.dChain, Zz.dNot, Zz.dAnd, Zz.dOr, Zz.dIf, Zz.dTup, Zz.dLst, Zz.dNil, Zz.dCons, Zz.frzs, Zz.dCall, Zz.oLe, Zz.oLt, Zz.oGt, Zz.oGe, Zz.oCmp, oIsB, isB, oLen, ne_int, is_name_f a hd.1, hn, hc]
        · cases b with
          | tuple ms =>
            rw [fineB] at hd
            have hl := hz [a, .tuple ms] rfl ms (by simp)
            have c1 := four_at ms S [some (.d (.tuple [a, .tuple ms])), some (.d a), some (.d (.tuple ms)), none] (f := dVar 2) rfl
            have c2 := comp_names ms hd.2 hl [some (.d (.tuple [a, .tuple ms])), some (.d a), some (.d (.tuple ms)), none] S rfl
            cases h4 : fourOk ms
            · rw [h4] at c1
              simp [sSeq, sIf, sRet, sNil, sAsg, toTup, toCons, toNil, toName, tOrD, tNotD, toB, toBr, toT, truD, dFn1, on1, dVar, dBin, on2, dAnd, dCons, dNil, dCall, oIsB, isB, oLen, ne_int, is_name_f a hd.1, hn, iteA, c1, carD, h4]
            · rw [h4] at c1
              simp [sSeq, sIf, sRet, sNil, sAsg, toTup, toCons, toNil, toName, tOrD, tNotD, toB, toBr, toT, truD, dFn1, on1, dVar, dBin, on2, dAnd, dCons, dNil, dCall, oIsB, isB, oLen, ne_int, is_name_f a hd.1, hn, iteA, c1, c2, oAll_map, carD, h4]
          | none => simp [Zz.iteA, Zz.sSeq, Zz.sIf, Zz.sRet, Zz.sNil, Zz.sSet, Zz.sExpr, Zz.sRetN, Zz.sAsg, Zz.toTup, Zz.toCons, Zz.toNil, Zz.toName, Zz.tOrD, Zz.tAndD, Zz.tNotD, Zz.toB, Zz.toBr, Zz.toT, Zz.truD, Zz.dFn1, Zz.on1, Zz.dVar, Zz.dBin, Zz.on2, Zz.dChain, Zz.dNot, Zz.dAnd, Zz.dOr, Zz.dIf, Zz.dTup, Zz.dLst, Zz.dNil, Zz.dCons, Zz.frzs, Zz.dCall, Zz.oLe, Zz.oLt, Zz.oGt, Zz.oGe, Zz.oCmp, oIsB, isB, oLen, ne_int, is_name_f a hd.1, hn, carD]
          | bool _ => simp [Zz.iteA, Zz.sSeq, Zz.sIf, Zz.sRet, Zz.sNil, Zz.sSet, Zz.sExpr, Zz.sRetN, Zz.sAsg, Zz.toTup, Zz.toCons, Zz.toNil, Zz.toName, Zz.tOrD, Zz.tAndD, Zz.tNotD, Zz.toB, Zz.toBr, Zz.toT, Zz.truD, Zz.dFn1, Zz.on1, Zz.dVar, Zz.dBin, Zz.on2, Zz.dChain, Zz.dNot, Zz.dAnd, Zz.dOr, Zz.dIf, Zz.dTup, Zz.dLst, Zz.dNil, Zz.dCons, Zz.frzs, Zz.dCall, Zz.oLe, Zz.oLt, Zz.oGt, Zz.oGe, Zz.oCmp, oIsB, isB, oLen, ne_int, is_name_f a hd.1, hn, carD]
          | int _ => simp [Zz.iteA, Zz.sSeq, Zz.sIf, Zz.sRet, Zz.sNil, Zz.sSet, Zz.sExpr, Zz.sRetN, Zz.sAsg, Zz.toTup, Zz.toCons, Zz.toNil, Zz.toName, Zz.tOrD, Zz.tAndD, Zz.tNotD, Zz.toB, Zz.toBr, Zz.toT, Zz.truD, Zz.dFn1, Zz.on1, Zz.dVar, Zz.dBin, Zz.on2, Zz.dChain, Zz.dNot, Zz.dAnd, Zz.dOr, Zz.dIf, Zz.dTup, Zz.dLst, Zz.dNil, Zz.dCons, Zz.frzs, Zz.dCall, Zz.oLe, Zz.oLt, Zz.oGt, Zz.oGe, Zz.oCmp, oIsB, isB, oLen, ne_int, is_name_f a hd.1, hn, carD]
          | str _ => simp [Zz.iteA, Zz.sSeq, Zz.sIf, Zz.sRet, Zz.sNil, Zz.sSet, Zz.sExpr, Zz.sRetN, Zz.sAsg, Zz.toTup, Zz.toCons, Zz.toNil, Zz.toName, Zz.tOrD, Zz.tAndD, Zz.tNotD, Zz.toB, Zz.toBr, Zz.toT, Zz.truD, Zz.dFn1, Zz.on1, Zz.dVar, Zz.dBin, Zz.on2, Zz.dChain, Zz.dNot, Zz.dAnd, Zz.dOr, Zz.dIf, Zz.dTup, Zz.dLst, Zz.dNil, Zz.dCons, Zz.frzs, Zz.dCall, Zz.oLe, Zz.oLt, Zz.oGt, Zz.oGe, Zz.oCmp, oIsB, isB, oLen, ne_int, is_name_f a hd.1, hn, carD]
          | list _ => simp [Zz.iteA, Zz.sSeq, Zz.sIf, Zz.sRet, Zz.sNil, Zz.sSet, Zz.sExpr, Zz.sRetN, Zz.sAsg, Zz.toTup, Zz.toCons, Zz.toNil, Zz.toName, Zz.tOrD, Zz.tAndD, Zz.tNotD, Zz.toB, Zz.toBr, Zz.toT, Zz.truD, Zz.dFn1, Zz.on1, Zz.dVar, Zz.dBin, Zz.on2, Zz.dChain, Zz.dNot, Zz.dAnd, Zz.dOr, Zz.dIf, Zz.dTup, Zz.dLst, Zz.dNil, Zz.dCons, Zz.frzs, Zz.dCall, Zz.oLe, Zz.oLt, Zz.oGt, Zz.oGe, Zz.oCmp, oIsB, isB, oLen, ne_int, is_name_f a hd.1, hn, carD]
          | dict _ => simp [Zz.iteA, Zz.sSeq, Zz.sIf, Zz.sRet, Zz.sNil, Zz.sSet, Zz.sExpr, Zz.sRetN, Zz.sAsg, Zz.toTup, Zz.toCons, Zz.toNil, Zz.toName, Zz.tOrD, Zz.tAndD, Zz.tNotD, Zz.toB, Zz.toBr, Zz.toT, Zz.truD, Zz.dFn1, Zz.on1, Zz.dVar, Zz.dBin, Zz.on2, Zz.dChain, Zz.dNot, Zz.dAnd, Zz.dOr, Zz.dIf, Zz.dTup, Zz.dLst, Zz.dNil, Zz.dCons, Zz.frzs, Zz.dCall, Zz.oLe, Zz.oLt, Zz.oGt, Zz.oGe, Zz.oCmp, oIsB, isB, oLen, ne_int, is_name_f a hd.1, hn, carD]
    | none => exact rest rfl
    | bool _ => exact rest rfl
    | int _ => exact rest rfl
    | str _ => exact rest rfl
    | list _ => exact rest rfl
    | dict _ => exact rest rfl
  rw [key]
  show Res.ok _ (S.take S.length) = _
  rw [List.take_length]
/-! ### the names of carriers -/
theorem lcGo_two {g g1 : Tg} {it1 : Env' → M (List D)} {f : Env' → M Val} {ρ0 : Env'} {vs1 : List Nat} {S : List Cell} {ρ1 : D → Env'} {ρ2 : D → D → Env'} {es : D → List D} {v : D → D → D} : ∀ (ds acc : List D), acc.length + (ds.flatMap es).length ≤ 16777216 →
    (∀ d ∈ ds, g (.d d) ρ0 = some (ρ1 d)) → (∀ d ∈ ds, ∀ R, it1 (ρ1 d) (S ++ R) = .ok (es d) (S ++ R)) → (∀ d ∈ ds, ∀ e ∈ es d, g1 (.d e) (wipeE (ρ1 d) vs1) = some (ρ2 d e)) → (∀ d ∈ ds, ∀ e ∈ es d, ∀ R, f (ρ2 d e) (S ++ R) = .ok (.d (v d e)) (S ++ R)) →
    lcGo g (kTest (fun _ => M.ret true) (kFor it1 g1 (kTest (fun _ => M.ret true) (kPush S.length f)) vs1)) ρ0 ds (S ++ [.lst acc]) = some (S ++ [.lst (acc ++ ds.flatMap fun d => (es d).map (v d))])
  | [], acc, _, _, _, _, _ => by simp [lcGo]
  | d :: ds, acc, hl, h1, h2, h3, h4 => by
    rw [List.flatMap_cons, List.length_append] at hl
    unfold lcGo
    rw [h1 d List.mem_cons_self]
    show (kTest (fun _ => M.ret true) (kFor it1 g1 (kTest (fun _ => M.ret true) (kPush S.length f)) vs1) (ρ1 d) (S ++ [.lst acc])).bind _ = _
    have inner : kTest (fun _ => M.ret true) (kFor it1 g1 (kTest (fun _ => M.ret true) (kPush S.length f)) vs1) (ρ1 d) (S ++ [.lst acc]) = some (S ++ [.lst (acc ++ (es d).map (v d))]) := by
      show kFor it1 g1 (kTest (fun _ => M.ret true) (kPush S.length f)) vs1 (ρ1 d) (S ++ [.lst acc]) = _
      unfold kFor
      rw [h2 d List.mem_cons_self]
      show lcGo g1 (kTest (fun _ => M.ret true) (kPush S.length f)) (wipeE (ρ1 d) vs1) (es d) (S ++ [.lst acc]) = _
      rw [lcGo_pure (ρ1 := ρ2 d) (p := fun _ => true) (v := v d) (es d) acc (by omega) (h3 d List.mem_cons_self) (fun _ _ _ => rfl) (fun e he _ => h4 d List.mem_cons_self e he), filter_yes]
    rw [inner]
    show lcGo g _ ρ0 ds (S ++ [.lst (acc ++ (es d).map (v d))]) = _
    rw [lcGo_two ds _ (by rw [List.length_append, List.length_map]; omega) (fun e he => h1 e (List.mem_cons_of_mem _ he)) (fun e he => h2 e (List.mem_cons_of_mem _ he)) (fun e he => h3 e (List.mem_cons_of_mem _ he)) (fun e he => h4 e (List.mem_cons_of_mem _ he)), List.flatMap_cons, List.append_assoc]
theorem dLc_at {it : Env' → M (List D)} {g : Tg} {k : Nat → Kt} {vs : List Nat} {ρ : Env'} {S S1 : List Cell} {ds : List D} (hi : it ρ S = .ok ds S1) : dLc it g k vs ρ S = lcEnd S1.length (lcGo g (k S1.length) (wipeE ρ vs) ds (S1 ++ [.lst []])) := by
  show (it ρ S).bind _ = _
  rw [hi]
  rfl
theorem frzs_map : ∀ (ms : List D) (S : List Cell), frzs (ms.map .d) S = .ok ms S
  | [], S => rfl
  | d :: ms, S => by
    show ((frz (.d d)).bind fun d => (frzs (ms.map .d)).bind fun ds => M.ret (d :: ds)) S = _
    show ((frzs (ms.map .d) S).bind fun ds => M.ret (d :: ds)) = _
    rw [frzs_map ms S]
    rfl
theorem star_at (a : D) (ms : List D) (h : ms.length ≤ 4) (x y : Option Val) (S : List Cell) : itAny (dTup (dCons (dVar 1) (dStar (dVar 2) dNil))) [x, some (.d a), some (.d (.tuple ms)), y] S = .ok (a :: ms) S := by
  have e1 : dTup (dCons (dVar 1) (dStar (dVar 2) dNil)) [x, some (.d a), some (.d (.tuple ms)), y] S = .ok (.d (.tuple (a :: ms))) S := by
    show (frzs (Val.d a :: (ms.map Val.d ++ [])) S).bind (fun ds => if ds.length ≤ 16777216 then M.ret (Val.d (.tuple ds)) else M.st) = _
    have e2 : (Val.d a :: (ms.map Val.d ++ [])) = (a :: ms).map Val.d := by simp
    rw [e2, frzs_map]
    show (if (a :: ms).length ≤ 16777216 then M.ret (Val.d (.tuple (a :: ms))) else M.st) S = _
    rw [if_pos (by rw [List.length_cons]; omega)]
    rfl
  exact itAny_at e1 rfl
/-- a carrier's names -/
def rowN : D → List D
  | .tuple [a, .tuple ms] => a :: ms
  | _ => []
theorem names_f (ds : List D) (hc : ds.all carD = true) (hl : ds.length ≤ 3) (S : List Cell) : fn_carrier_names [.d (.tuple ds)] S = .ok (.d (.list (ds.flatMap rowN))) S := by
  show finish S.length (body_carrier_names [some (.d (.tuple ds)), none, none, none] S) = _
  have shape : ∀ d ∈ ds, ∃ a ms, d = .tuple [a, .tuple ms] ∧ ms.length ≤ 4 := fun d hd => by
    have z := List.all_eq_true.mp hc d hd
    unfold carD at z
    split at z
    · rename_i a ms
      unfold fourOk at z
      simp only [Bool.and_eq_true, decide_eq_true_eq] at z
      exact ⟨a, ms, rfl, z.2.1.2⟩
    · cases z
  have hit : itAny (dVar 0) [some (.d (.tuple ds)), none, none, none] S = .ok ds S := itAny_at (d := .tuple ds) rfl rfl
  have tot : ∀ l : List D, (∀ d ∈ l, ∃ a ms, d = .tuple [a, .tuple ms] ∧ ms.length ≤ 4) → (l.flatMap rowN).length ≤ 5 * l.length := fun l hl => by
    induction l with
    | nil => exact Nat.zero_le _
    | cons d l ih =>
      obtain ⟨a, ms, rfl, h4⟩ := hl d List.mem_cons_self
      have z := ih fun e he => hl e (List.mem_cons_of_mem _ he)
      rw [List.flatMap_cons, List.length_append, List.length_cons]
      have : (rowN (.tuple [a, .tuple ms])).length = ms.length + 1 := rfl
      omega
  have t := tot ds shape
  have key : dLc (itAny (dVar 0)) (toTup (toCons (toName 1) (toCons (toName 2) toNil))) (fun l => kTest (fun _ => M.ret true) (kFor (itAny (dTup (dCons (dVar 1) (dStar (dVar 2) dNil)))) (toName 3) (kTest (fun _ => M.ret true) (kPush l (dVar 3))) [3])) [1, 2, 3] [some (.d (.tuple ds)), none, none, none] S = .ok (.d (.list (ds.flatMap rowN))) S := by
    rw [dLc_at hit]
    rw [lcGo_two (es := rowN) (v := fun _ e => e) (ρ1 := fun d => match d with | .tuple [a, b] => [some (.d (.tuple ds)), some (.d a), some (.d b), none] | _ => [])
      (ρ2 := fun d e => match d with | .tuple [a, b] => [some (.d (.tuple ds)), some (.d a), some (.d b), some (.d e)] | _ => []) ds [] (by rw [List.length_nil]; omega) (fun d hd => ?_) (fun d hd R => ?_) (fun d hd e he => ?_) fun d hd e he R => ?_]
    · simp [lcEnd_at]
    · obtain ⟨a, ms, rfl, h4⟩ := shape d hd
      rfl
    · obtain ⟨a, ms, rfl, h4⟩ := shape d hd
      exact star_at a ms h4 _ _ _
    · obtain ⟨a, ms, rfl, h4⟩ := shape d hd
      rfl
    · obtain ⟨a, ms, rfl, h4⟩ := shape d hd
      rfl
  have k2 : body_carrier_names [some (.d (.tuple ds)), none, none, none] S = .rt (.d (.list (ds.flatMap rowN))) S := by
    unfold body_carrier_names sRet
    rw [key]
    rfl
  rw [k2]
  show Res.ok _ (S.take S.length) = _
  rw [List.take_length]
end K01
set_option maxRecDepth 100000
set_option maxHeartbeats 1000000
namespace K01
open PySem PySem.Spec PyProof.Rows L2 Zz
/-! ### carriers as a whole -/
def txt : D → Str
  | .str x => x
  | _ => Str.empty
theorem names_strs : ∀ l : List D, l.all nmD = true → l.mapM asStr = some (l.map txt)
  | [], _ => rfl
  | d :: l, h => by
    rw [List.all_cons, Bool.and_eq_true] at h
    rw [List.mapM_cons, names_strs l h.2]
    cases d <;> first | rfl | (have z := h.1; simp [nmD] at z)
/-- all unlike -/
def unlike (l : List D) : Bool := (((dist (l.map txt)).length : Int) == (l.length : Int))
theorem oLenSet_names (l : List D) (h : l.all nmD = true) (hl : l.length < 4000) : oLenSet (.list l) = some (.int (dist (l.map txt)).length) := by
  show (l.mapM asStr).bind _ = _
  rw [names_strs l h]
  show (if (l.map txt).length < 4000 then some (PyData.int (dist (l.map txt)).length) else none) = _
  rw [if_pos (by rw [List.length_map]; exact hl)]
def shD : D → Bool
  | .tuple [_, .tuple ms] => fourOk ms
  | _ => false
theorem car_split : ∀ ds : List D, ds.all carD = (ds.all shD && (ds.flatMap rowN).all nmD)
  | [] => rfl
  | d :: ds => by
    rw [List.all_cons, List.all_cons, car_split ds, List.flatMap_cons, List.all_append]
    have z : carD d = (shD d && (rowN d).all nmD) := by
      unfold carD shD rowN
      split
      · rename_i a ms
        simp only [List.all_cons]
        cases nmD a <;> cases fourOk ms <;> simp
      · rename_i h
        first
          | rfl
          | (split
             · rename_i a ms
               exact absurd rfl (h a ms)
             · rfl)
    rw [z]
    cases shD d <;> cases (rowN d).all nmD <;> cases ds.all shD <;> simp
def carsD : D → Bool
  | .tuple ds => decide (ds.length ≤ 3) && (ds.all carD && unlike (ds.flatMap rowN))
  | _ => false
theorem rowN_len : ∀ l : List D, l.all shD = true → (l.flatMap rowN).length ≤ 5 * l.length
  | [], _ => Nat.zero_le _
  | d :: l, h => by
    rw [List.all_cons, Bool.and_eq_true] at h
    have z := rowN_len l h.2
    rw [List.flatMap_cons, List.length_append, List.length_cons]
    have : (rowN d).length ≤ 5 := by
      have q := h.1
      unfold shD at q
      split at q
      · rename_i a ms
        unfold fourOk at q
        simp only [Bool.and_eq_true, decide_eq_true_eq] at q
        show (a :: ms).length ≤ 5
        rw [List.length_cons]
        omega
      · cases q
    omega
/-- what the pieces ask of an item -/
structure It3 (d : D) : Prop where
  fine : fineB d = true
  lay : ∀ ds, d = .tuple ds → d.canLay0 = true ∧ d.depth ≤ 60
  short : ∀ ds, d = .tuple ds → ∀ e ∈ ds, ∀ es, e = .tuple es → ∀ ms, .tuple ms ∈ es → ms.length ≤ 16777216
theorem is_carriers_f (d : D) (h : It3 d) (S : List Cell) : fn_is_carriers [.d d] S = .ok (.d (.bool (carsD d))) S := by
  show finish S.length (body_is_carriers [some (.d d), none, none] S) = _
  have key : body_is_carriers [some (.d d), none, none] S = .rt (.d (.bool (carsD d))) S := by
    have rest : isB "tuple" d = false → body_is_carriers [some (.d d), none, none] S = .rt (.d (.bool false)) S := fun hb => by
      unfold body_is_carriers
      simp [Zz.iteA, Zz.sSeq, Zz.sIf, Zz.sRet, Zz.sNil, Zz.sSet, Zz.sExpr, Zz.sRetN, Zz.sAsg, Zz.toTup, Zz.toCons, Zz.toNil, Zz.toName, Zz.tOrD, Zz.tAndD, Zz.tNotD, Zz.toB, Zz.toBr, Zz.toT, Zz.truD, Zz.dFn1, Zz.on1, Zz.dVar, Zz.dBin, Zz.on2, Zz.dChain, Zz.dNot, Zz.dAnd, Zz.dOr, Zz.dIf, Zz.dTup, Zz.dLst, Zz.dNil, Zz.dCons, Zz.frzs, Zz.dCall, Zz.oLe, Zz.oLt, Zz.oGt, Zz.oGe, Zz.oCmp, oIsB, hb]
    cases d with
    | tuple ds =>
      have hf := h.fine
      rw [fineB] at hf
      unfold body_is_carriers carsD
      by_cases h3 : ds.length ≤ 3
      · have i1 : ¬ (3 : Int) < ds.length := by omega
        have hit : itAny (dVar 0) [some (.d (.tuple ds)), none, none] S = .ok ds S := itAny_at (d := .tuple ds) rfl rfl
        have c1 : dLc (itAny (dVar 0)) (toName 2) (fun l => kTest (fun _ => M.ret true) (kPush l (dCall fn_u_is_carrier (dCons (dVar 2) dNil)))) [2] [some (.d (.tuple ds)), none, none] S = .ok (.d (.list (ds.map fun d => .bool (carD d)))) S := by
          rw [dLc_pure (ρ1 := fun d => [some (.d (.tuple ds)), none, some (.d d)]) (p := fun _ => true) (v := fun d => .bool (carD d)) hit (by omega) (fun d _ => rfl) (fun d _ R => rfl) fun d hd _ R => ?_]
          · rw [filter_yes]
          · have z := is_carrier_f d (fineAll_mem hf d hd) (fun es e ms hm => h.short ds rfl d hd es e ms hm) (S ++ R)
            simp [Zz.iteA, Zz.sSeq, Zz.sIf, Zz.sRet, Zz.sNil, Zz.sSet, Zz.sExpr, Zz.sRetN, Zz.sAsg, Zz.toTup, Zz.toCons, Zz.toNil, Zz.toName, Zz.tOrD, Zz.tAndD, Zz.tNotD, Zz.toB, Zz.toBr, Zz.toT, Zz.truD, Zz.dFn1, Zz.on1, Zz.dVar, Zz.dBin, Zz.on2, Zz.dChain, Zz.dNot, Zz.dAnd, Zz.dOr, Zz.dIf, Zz.dTup, Zz.dLst, Zz.dNil, Zz.dCons, Zz.frzs, Zz.dCall, Zz.oLe, Zz.oLt, Zz.oGt, Zz.oGe, Zz.oCmp, z]
        cases hc : ds.all carD
        · simp [sSeq, sIf, sRet, sNil, sSet, tOrD, tNotD, toB, toBr, dFn1, on1, dVar, dBin, on2, oIsB, isB, oLen, oGt, oCmp, i1, h3, iteA, c1, oAll_map, hc]
        · have c2 := names_f ds hc h3 S
          rw [car_split, Bool.and_eq_true] at hc
          have hn := rowN_len ds hc.1
          have c3 := oLenSet_names _ hc.2 (by omega)
          have hc' : ds.all carD = true := by rw [car_split, Bool.and_eq_true]; exact hc
          simp [sSeq, sIf, sRet, sNil, sSet, tOrD, tNotD, toB, toBr, dFn1, on1, dVar, dBin, on2, dCall, dCons, dNil, oIsB, isB, oLen, oGt, oCmp, i1, h3, iteA, c1, oAll_map, hc', c2, c3, eq_int]
          simp [unlike, List.length_flatMap]
      · have i1 : (3 : Int) < ds.length := by omega
        simp [sSeq, sIf, sRet, sNil, tOrD, tNotD, toB, toBr, dFn1, on1, dVar, dBin, on2, oIsB, isB, oLen, oGt, oCmp, i1, h3, iteA]
    | none => exact rest rfl
    | bool _ => exact rest rfl
    | int _ => exact rest rfl
    | str _ => exact rest rfl
    | list _ => exact rest rfl
    | dict _ => exact rest rfl
  rw [key]
  show Res.ok _ (S.take S.length) = _
  rw [List.take_length]
/-! ### the law's own reading of carriers -/
theorem lay_mem : ∀ {l : List D}, PyData.canLayAll0 l = true → ∀ d ∈ l, d.canLay0 = true
  | [], _, _, h => by cases h
  | x :: r, h, d, hd => by
    rw [PyData.canLayAll0, Bool.and_eq_true] at h
    rcases List.mem_cons.mp hd with rfl | hd
    · exact h.1
    · exact lay_mem h.2 d hd
theorem lay_of : ∀ {l : List D}, (∀ d ∈ l, d.canLay0 = true) → PyData.canLayAll0 l = true
  | [], _ => rfl
  | x :: r, h => by
    rw [PyData.canLayAll0, Bool.and_eq_true]
    exact ⟨h x List.mem_cons_self, lay_of fun d hd => h d (List.mem_cons_of_mem _ hd)⟩
theorem depth_mem : ∀ {l : List D} {d : D}, d ∈ l → d.depth ≤ PyData.depthAll l
  | x :: r, d, hd => by
    rw [PyData.depthAll]
    rcases List.mem_cons.mp hd with rfl | hd
    · exact Nat.le_max_left _ _
    · exact Nat.le_trans (depth_mem hd) (Nat.le_max_right _ _)
theorem depth_of : ∀ {l : List D} {n : Nat}, (∀ d ∈ l, d.depth ≤ n) → PyData.depthAll l ≤ n
  | [], n, _ => Nat.zero_le _
  | x :: r, n, h => by
    rw [PyData.depthAll]
    exact Nat.max_le.mpr ⟨h x List.mem_cons_self, depth_of fun d hd => h d (List.mem_cons_of_mem _ hd)⟩
theorem depth_tup (l : List D) : (PyData.tuple l).depth = PyData.depthAll l + 1 := by rw [PyData.depth]
theorem lay_tup (l : List D) : (PyData.tuple l).canLay0 = PyData.canLayAll0 l := by rw [PyData.canLay0]
/-- a row's names are parts of the row -/
theorem rowN_part {d e : D} (he : e ∈ rowN d) (hl : d.canLay0 = true) (hf : fineB d = true) : e.canLay0 = true ∧ e.depth ≤ d.depth ∧ fineB e = true := by
  unfold rowN at he
  split at he
  · rename_i a ms
    rw [lay_tup] at hl
    have l2 := lay_mem hl (.tuple ms) (by simp)
    rw [lay_tup] at l2
    rw [fineB] at hf
    have f2 := fineAll_mem hf (.tuple ms) (by simp)
    rw [fineB] at f2
    have dd := depth_tup [a, .tuple ms]
    rcases List.mem_cons.mp he with rfl | he
    · have := depth_mem (l := [e, .tuple ms]) (d := e) (by simp)
      exact ⟨lay_mem hl e (by simp), by omega, fineAll_mem hf e (by simp)⟩
    · have h1 := depth_mem he
      have h2 := depth_mem (l := [a, .tuple ms]) (d := .tuple ms) (by simp)
      have h3 := depth_tup ms
      exact ⟨lay_mem l2 e he, by omega, fineAll_mem f2 e he⟩
  · cases he
theorem good_turn (d : D) (it : Option Val) (acc : List D) (r own : Option Val) (S : List Cell) (hz : acc.length ≤ 100) (hm : ∀ a ms, d = .tuple [a, .tuple ms] → ms.length ≤ 16777216) : ∃ v, (sSeq (sIf (tOrD (tNotD (toB (dFn1 (oIsB "tuple") (dVar 2)))) (tOrD (toB (dBin oNe (dFn1 oLen (dVar 2)) (dC (.int 2)))) (tOrD (tNotD (toB (dFn1 (oIsB "tuple") (dBin oIx (dVar 2) (dC (.int 1)))))) (tNotD (toB (dChain oLe oLe (dC (.int 1)) (dFn1 oLen (dBin oIx (dVar 2) (dC (.int 1)))) (dC (.int 4)))))))) (sRet (dC (.bool false))) sNil) (sSet 1 (dBin oAdd (dBin oAdd (dVar 1) (dLst (dCons (dBin oIx (dVar 2) (dC (.int 0))) dNil))) (dFn1 oList (dBin oIx (dVar 2) (dC (.int 1)))))))
    [it, some (.d (.list acc)), some (.d d), own] S = (if shD d = true then .nx [it, some (.d (.list (acc ++ rowN d))), v, own] S else .rt (.d (.bool false)) S) := by
  refine ⟨some (.d d), ?_⟩
  cases d with
  | tuple ds =>
    match ds, hm with
    | [], _ => simp [Zz.iteA, Zz.sSeq, Zz.sIf, Zz.sRet, Zz.sNil, Zz.sSet, Zz.sExpr, Zz.sRetN, Zz.sAsg, Zz.toTup, Zz.toCons, Zz.toNil, Zz.toName, Zz.tOrD, Zz.tAndD, Zz.tNotD, Zz.toB, Zz.toBr, Zz.toT, Zz.truD, Zz.dFn1, Zz.on1, Zz.dVar, Zz.dBin, Zz.on2, Zz.dChain, Zz.dNot, Zz.dAnd, Zz.dOr, Zz.dIf, Zz.dTup, Zz.dLst, Zz.dNil, Zz.dCons, Zz.frzs, Zz.dCall, Zz.oLe, Zz.oLt, Zz.oGt, Zz.oGe, Zz.oCmp, oIsB, isB, oLen, ne_int, shD]
    | [a], _ => simp [Zz.iteA, Zz.sSeq, Zz.sIf, Zz.sRet, Zz.sNil, Zz.sSet, Zz.sExpr, Zz.sRetN, Zz.sAsg, Zz.toTup, Zz.toCons, Zz.toNil, Zz.toName, Zz.tOrD, Zz.tAndD, Zz.tNotD, Zz.toB, Zz.toBr, Zz.toT, Zz.truD, Zz.dFn1, Zz.on1, Zz.dVar, Zz.dBin, Zz.on2, Zz.dChain, Zz.dNot, Zz.dAnd, Zz.dOr, Zz.dIf, Zz.dTup, Zz.dLst, Zz.dNil, Zz.dCons, Zz.frzs, Zz.dCall, Zz.oLe, Zz.oLt, Zz.oGt, Zz.oGe, Zz.oCmp, oIsB, isB, oLen, ne_int, shD]
    | a :: b :: c :: r, _ =>
      have i1 : ¬ ((r.length : Int) + 1 + 1 + 1 = 2) := by omega
      simp [Zz.iteA, Zz.sSeq, Zz.sIf, Zz.sRet, Zz.sNil, Zz.sSet, Zz.sExpr, Zz.sRetN, Zz.sAsg, Zz.toTup, Zz.toCons, Zz.toNil, Zz.toName, Zz.tOrD, Zz.tAndD, Zz.tNotD, Zz.toB, Zz.toBr, Zz.toT, Zz.truD, Zz.dFn1, Zz.on1, Zz.dVar, Zz.dBin, Zz.on2, Zz.dChain, Zz.dNot, Zz.dAnd, Zz.dOr, Zz.dIf, Zz.dTup, Zz.dLst, Zz.dNil, Zz.dCons, Zz.frzs, Zz.dCall, Zz.oLe, Zz.oLt, Zz.oGt, Zz.oGe, Zz.oCmp, oIsB, isB, oLen, ne_int, shD, i1]
    | [a, b], hm =>
      have x1 : oIx (.tuple [a, b]) (.int 1) = some b := by show atI [a, b] 1 = _; exact atI_nat (j := 1) rfl
      have x0 : oIx (.tuple [a, b]) (.int 0) = some a := by show atI [a, b] 0 = _; exact atI_nat (j := 0) rfl
      cases b with
      | tuple ms =>
        have c1 := four_at ms S [it, some (.d (.list acc)), some (.d (.tuple [a, .tuple ms])), own] (f := dBin oIx (dVar 2) (dC (.int 1))) (by simp [Zz.iteA, Zz.sSeq, Zz.sIf, Zz.sRet, Zz.sNil, Zz.sSet, Zz.sExpr, Zz.sRetN, Zz.sAsg, Zz.toTup, Zz.toCons, Zz.toNil, Zz.toName, Zz.tOrD, Zz.tAndD, Zz.tNotD, Zz.toB, Zz.toBr, Zz.toT, Zz.truD, Zz.dFn1, Zz.on1, Zz.dVar, Zz.dBin, Zz.on2, Zz.dChain, Zz.dNot, Zz.dAnd, Zz.dOr, Zz.dIf, Zz.dTup, Zz.dLst, Zz.dNil, Zz.dCons, Zz.frzs, Zz.dCall, Zz.oLe, Zz.oLt, Zz.oGt, Zz.oGe, Zz.oCmp, x1])
        have hl := hm a ms rfl
        cases h4 : fourOk ms
        · rw [h4] at c1
          simp [sSeq, sIf, sRet, sNil, tOrD, tNotD, toB, toBr, dFn1, on1, dVar, dBin, on2, oIsB, isB, oLen, ne_int, iteA, c1, shD, h4, x1, x0]
        · rw [h4] at c1
          have l4 : ms.length ≤ 4 := by
            unfold fourOk at h4
            simp only [Bool.and_eq_true, decide_eq_true_eq] at h4
            exact h4.2
          have z1 : acc.length + 1 ≤ 16777216 := by omega
          have z2 : acc.length + 1 + ms.length ≤ 16777216 := by omega
          simp [sSeq, sIf, sRet, sNil, sSet, tOrD, tNotD, toB, toBr, dFn1, on1, dVar, dBin, on2, dLst, dCons, dNil, frzs, oIsB, isB, oLen, ne_int, iteA, c1, shD, h4, x1, x0, oList, oAdd, z1, z2, rowN]
      | none => simp [Zz.iteA, Zz.sSeq, Zz.sIf, Zz.sRet, Zz.sNil, Zz.sSet, Zz.sExpr, Zz.sRetN, Zz.sAsg, Zz.toTup, Zz.toCons, Zz.toNil, Zz.toName, Zz.tOrD, Zz.tAndD, Zz.tNotD, Zz.toB, Zz.toBr, Zz.toT, Zz.truD, Zz.dFn1, Zz.on1, Zz.dVar, Zz.dBin, Zz.on2, Zz.dChain, Zz.dNot, Zz.dAnd, Zz.dOr, Zz.dIf, Zz.dTup, Zz.dLst, Zz.dNil, Zz.dCons, Zz.frzs, Zz.dCall, Zz.oLe, Zz.oLt, Zz.oGt, Zz.oGe, Zz.oCmp, oIsB, isB, oLen, ne_int, shD, x1]
      | bool _ => simp [Zz.iteA, Zz.sSeq, Zz.sIf, Zz.sRet, Zz.sNil, Zz.sSet, Zz.sExpr, Zz.sRetN, Zz.sAsg, Zz.toTup, Zz.toCons, Zz.toNil, Zz.toName, Zz.tOrD, Zz.tAndD, Zz.tNotD, Zz.toB, Zz.toBr, Zz.toT, Zz.truD, Zz.dFn1, Zz.on1, Zz.dVar, Zz.dBin, Zz.on2, Zz.dChain, Zz.dNot, Zz.dAnd, Zz.dOr, Zz.dIf, Zz.dTup, Zz.dLst, Zz.dNil, Zz.dCons, Zz.frzs, Zz.dCall, Zz.oLe, Zz.oLt, Zz.oGt, Zz.oGe, Zz.oCmp, oIsB, isB, oLen, ne_int, shD, x1]
      | int _ => simp [Zz.iteA, Zz.sSeq, Zz.sIf, Zz.sRet, Zz.sNil, Zz.sSet, Zz.sExpr, Zz.sRetN, Zz.sAsg, Zz.toTup, Zz.toCons, Zz.toNil, Zz.toName, Zz.tOrD, Zz.tAndD, Zz.tNotD, Zz.toB, Zz.toBr, Zz.toT, Zz.truD, Zz.dFn1, Zz.on1, Zz.dVar, Zz.dBin, Zz.on2, Zz.dChain, Zz.dNot, Zz.dAnd, Zz.dOr, Zz.dIf, Zz.dTup, Zz.dLst, Zz.dNil, Zz.dCons, Zz.frzs, Zz.dCall, Zz.oLe, Zz.oLt, Zz.oGt, Zz.oGe, Zz.oCmp, oIsB, isB, oLen, ne_int, shD, x1]
      | str _ => simp [Zz.iteA, Zz.sSeq, Zz.sIf, Zz.sRet, Zz.sNil, Zz.sSet, Zz.sExpr, Zz.sRetN, Zz.sAsg, Zz.toTup, Zz.toCons, Zz.toNil, Zz.toName, Zz.tOrD, Zz.tAndD, Zz.tNotD, Zz.toB, Zz.toBr, Zz.toT, Zz.truD, Zz.dFn1, Zz.on1, Zz.dVar, Zz.dBin, Zz.on2, Zz.dChain, Zz.dNot, Zz.dAnd, Zz.dOr, Zz.dIf, Zz.dTup, Zz.dLst, Zz.dNil, Zz.dCons, Zz.frzs, Zz.dCall, Zz.oLe, Zz.oLt, Zz.oGt, Zz.oGe, Zz.oCmp, oIsB, isB, oLen, ne_int, shD, x1]
      | list _ => simp [Zz.iteA, Zz.sSeq, Zz.sIf, Zz.sRet, Zz.sNil, Zz.sSet, Zz.sExpr, Zz.sRetN, Zz.sAsg, Zz.toTup, Zz.toCons, Zz.toNil, Zz.toName, Zz.tOrD, Zz.tAndD, Zz.tNotD, Zz.toB, Zz.toBr, Zz.toT, Zz.truD, Zz.dFn1, Zz.on1, Zz.dVar, Zz.dBin, Zz.on2, Zz.dChain, Zz.dNot, Zz.dAnd, Zz.dOr, Zz.dIf, Zz.dTup, Zz.dLst, Zz.dNil, Zz.dCons, Zz.frzs, Zz.dCall, Zz.oLe, Zz.oLt, Zz.oGt, Zz.oGe, Zz.oCmp, oIsB, isB, oLen, ne_int, shD, x1]
      | dict _ => simp [Zz.iteA, Zz.sSeq, Zz.sIf, Zz.sRet, Zz.sNil, Zz.sSet, Zz.sExpr, Zz.sRetN, Zz.sAsg, Zz.toTup, Zz.toCons, Zz.toNil, Zz.toName, Zz.tOrD, Zz.tAndD, Zz.tNotD, Zz.toB, Zz.toBr, Zz.toT, Zz.truD, Zz.dFn1, Zz.on1, Zz.dVar, Zz.dBin, Zz.on2, Zz.dChain, Zz.dNot, Zz.dAnd, Zz.dOr, Zz.dIf, Zz.dTup, Zz.dLst, Zz.dNil, Zz.dCons, Zz.frzs, Zz.dCall, Zz.oLe, Zz.oLt, Zz.oGt, Zz.oGe, Zz.oCmp, oIsB, isB, oLen, ne_int, shD, x1]
  | none => simp [Zz.iteA, Zz.sSeq, Zz.sIf, Zz.sRet, Zz.sNil, Zz.sSet, Zz.sExpr, Zz.sRetN, Zz.sAsg, Zz.toTup, Zz.toCons, Zz.toNil, Zz.toName, Zz.tOrD, Zz.tAndD, Zz.tNotD, Zz.toB, Zz.toBr, Zz.toT, Zz.truD, Zz.dFn1, Zz.on1, Zz.dVar, Zz.dBin, Zz.on2, Zz.dChain, Zz.dNot, Zz.dAnd, Zz.dOr, Zz.dIf, Zz.dTup, Zz.dLst, Zz.dNil, Zz.dCons, Zz.frzs, Zz.dCall, Zz.oLe, Zz.oLt, Zz.oGt, Zz.oGe, Zz.oCmp, oIsB, isB, shD]
  | bool _ => simp [Zz.iteA, Zz.sSeq, Zz.sIf, Zz.sRet, Zz.sNil, Zz.sSet, Zz.sExpr, Zz.sRetN, Zz.sAsg, Zz.toTup, Zz.toCons, Zz.toNil, Zz.toName, Zz.tOrD, Zz.tAndD, Zz.tNotD, Zz.toB, Zz.toBr, Zz.toT, Zz.truD, Zz.dFn1, Zz.on1, Zz.dVar, Zz.dBin, Zz.on2, Zz.dChain, Zz.dNot, Zz.dAnd, Zz.dOr, Zz.dIf, Zz.dTup, Zz.dLst, Zz.dNil, Zz.dCons, Zz.frzs, Zz.dCall, Zz.oLe, Zz.oLt, Zz.oGt, Zz.oGe, Zz.oCmp, oIsB, isB, shD]
  | int _ => simp [Zz.iteA, Zz.sSeq, Zz.sIf, Zz.sRet, Zz.sNil, Zz.sSet, Zz.sExpr, Zz.sRetN, Zz.sAsg, Zz.toTup, Zz.toCons, Zz.toNil, Zz.toName, Zz.tOrD, Zz.tAndD, Zz.tNotD, Zz.toB, Zz.toBr, Zz.toT, Zz.truD, Zz.dFn1, Zz.on1, Zz.dVar, Zz.dBin, Zz.on2, Zz.dChain, Zz.dNot, Zz.dAnd, Zz.dOr, Zz.dIf, Zz.dTup, Zz.dLst, Zz.dNil, Zz.dCons, Zz.frzs, Zz.dCall, Zz.oLe, Zz.oLt, Zz.oGt, Zz.oGe, Zz.oCmp, oIsB, isB, shD]
  | str _ => simp [Zz.iteA, Zz.sSeq, Zz.sIf, Zz.sRet, Zz.sNil, Zz.sSet, Zz.sExpr, Zz.sRetN, Zz.sAsg, Zz.toTup, Zz.toCons, Zz.toNil, Zz.toName, Zz.tOrD, Zz.tAndD, Zz.tNotD, Zz.toB, Zz.toBr, Zz.toT, Zz.truD, Zz.dFn1, Zz.on1, Zz.dVar, Zz.dBin, Zz.on2, Zz.dChain, Zz.dNot, Zz.dAnd, Zz.dOr, Zz.dIf, Zz.dTup, Zz.dLst, Zz.dNil, Zz.dCons, Zz.frzs, Zz.dCall, Zz.oLe, Zz.oLt, Zz.oGt, Zz.oGe, Zz.oCmp, oIsB, isB, shD]
  | list _ => simp [Zz.iteA, Zz.sSeq, Zz.sIf, Zz.sRet, Zz.sNil, Zz.sSet, Zz.sExpr, Zz.sRetN, Zz.sAsg, Zz.toTup, Zz.toCons, Zz.toNil, Zz.toName, Zz.tOrD, Zz.tAndD, Zz.tNotD, Zz.toB, Zz.toBr, Zz.toT, Zz.truD, Zz.dFn1, Zz.on1, Zz.dVar, Zz.dBin, Zz.on2, Zz.dChain, Zz.dNot, Zz.dAnd, Zz.dOr, Zz.dIf, Zz.dTup, Zz.dLst, Zz.dNil, Zz.dCons, Zz.frzs, Zz.dCall, Zz.oLe, Zz.oLt, Zz.oGt, Zz.oGe, Zz.oCmp, oIsB, isB, shD]
  | dict _ => simp [Zz.iteA, Zz.sSeq, Zz.sIf, Zz.sRet, Zz.sNil, Zz.sSet, Zz.sExpr, Zz.sRetN, Zz.sAsg, Zz.toTup, Zz.toCons, Zz.toNil, Zz.toName, Zz.tOrD, Zz.tAndD, Zz.tNotD, Zz.toB, Zz.toBr, Zz.toT, Zz.truD, Zz.dFn1, Zz.on1, Zz.dVar, Zz.dBin, Zz.on2, Zz.dChain, Zz.dNot, Zz.dAnd, Zz.dOr, Zz.dIf, Zz.dTup, Zz.dLst, Zz.dNil, Zz.dCons, Zz.frzs, Zz.dCall, Zz.oLe, Zz.oLt, Zz.oGt, Zz.oGe, Zz.oCmp, oIsB, isB, shD]
end K01
set_option maxRecDepth 100000
set_option maxHeartbeats 1000000
namespace K01
open PySem PySem.Spec PyProof.Rows L2 Zz
abbrev goodTurn : SD := (sSeq (sIf (tOrD (tNotD (toB (dFn1 (oIsB "tuple") (dVar 2)))) (tOrD (toB (dBin oNe (dFn1 oLen (dVar 2)) (dC (.int 2)))) (tOrD (tNotD (toB (dFn1 (oIsB "tuple") (dBin oIx (dVar 2) (dC (.int 1)))))) (tNotD (toB (dChain oLe oLe (dC (.int 1)) (dFn1 oLen (dBin oIx (dVar 2) (dC (.int 1)))) (dC (.int 4)))))))) (sRet (dC (.bool false))) sNil) (sSet 1 (dBin oAdd (dBin oAdd (dVar 1) (dLst (dCons (dBin oIx (dVar 2) (dC (.int 0))) dNil))) (dFn1 oList (dBin oIx (dVar 2) (dC (.int 1)))))))
theorem rowN5 (d : D) (h : shD d = true) : (rowN d).length ≤ 5 := by
  have z := rowN_len [d] (by simp [h])
  simpa using z
theorem good_loop (it own : Option Val) (S : List Cell) : ∀ (ds acc : List D) (r : Option Val), acc.length + 5 * ds.length ≤ 100 → (∀ d ∈ ds, ∀ a ms, d = .tuple [a, .tuple ms] → ms.length ≤ 16777216) →
    ∃ v, forGo (toName 2) goodTurn ds [it, some (.d (.list acc)), r, own] S = (if ds.all shD = true then .nx [it, some (.d (.list (acc ++ ds.flatMap rowN))), v, own] S else .rt (.d (.bool false)) S)
  | [], acc, r, _, _ => ⟨r, by simp [forGo, sNil]⟩
  | d :: ds, acc, r, hz, hm => by
    rw [List.length_cons] at hz
    obtain ⟨v, hv⟩ := good_turn d it acc r own S (by omega) (hm d List.mem_cons_self)
    cases hs : shD d with
    | false =>
      refine ⟨r, ?_⟩
      rw [hs] at hv
      show (match goodTurn [it, some (.d (.list acc)), some (.d d), own] S with | .nx ρ2 S2 => forGo (toName 2) goodTurn ds ρ2 S2 | .ct ρ2 S2 => forGo (toName 2) goodTurn ds ρ2 S2 | .bk ρ2 S2 => .nx ρ2 S2 | .rt v S2 => .rt v S2 | .ex x ρ2 S2 => .ex x ρ2 S2 | .st => .st) = _
      rw [show goodTurn [it, some (.d (.list acc)), some (.d d), own] S = _ from hv]
      simp [hs]
    | true =>
      rw [hs] at hv
      have h5 := rowN5 d hs
      obtain ⟨v2, hv2⟩ := good_loop it own S ds (acc ++ rowN d) v (by rw [List.length_append]; omega) fun e he => hm e (List.mem_cons_of_mem _ he)
      refine ⟨v2, ?_⟩
      show (match goodTurn [it, some (.d (.list acc)), some (.d d), own] S with | .nx ρ2 S2 => forGo (toName 2) goodTurn ds ρ2 S2 | .ct ρ2 S2 => forGo (toName 2) goodTurn ds ρ2 S2 | .bk ρ2 S2 => .nx ρ2 S2 | .rt v S2 => .rt v S2 | .ex x ρ2 S2 => .ex x ρ2 S2 | .st => .st) = _
      rw [show goodTurn [it, some (.d (.list acc)), some (.d d), own] S = _ from hv]
      simp only [if_true]
      rw [hv2]
      simp [hs, List.append_assoc]
theorem sFor_at {it : Env' → M (List D)} {g : Tg} {b : SD} {ρ : Env'} {S S1 : List Cell} {ds : List D} (h : it ρ S = .ok ds S1) : sFor it g b ρ S = forGo g b ds ρ S1 := by
  show (it ρ S).then_ ρ _ = _
  rw [h]
  rfl
theorem comp_good (F : List D) (hF : ∀ e ∈ F, fineB e = true) (hz : F.length ≤ 16777216) (x v : Option Val) (S : List Cell) :
    dLc (itAny (dVar 1)) (toName 3) (fun l => kTest (tNotD (toT (dCall fn_u_law_is_name (dCons (dVar 3) dNil)))) (kPush l (dVar 3))) [3] [x, some (.d (.list F)), v, none] S = .ok (.d (.list (F.filter fun e => !nmD e))) S := by
  have hit : itAny (dVar 1) [x, some (.d (.list F)), v, none] S = .ok F S := itAny_at (d := .list F) rfl rfl
  rw [dLc_pure (ρ1 := fun d => [x, some (.d (.list F)), v, some (.d d)]) (p := fun d => !nmD d) (v := fun d => d) hit hz (fun d _ => rfl) (fun d hd R => ?_) fun d hd _ R => ?_]
  · simp
  · have z := law_name_f d (hF d hd) (S ++ R)
    simp [Zz.iteA, Zz.sSeq, Zz.sIf, Zz.sRet, Zz.sNil, Zz.sSet, Zz.sExpr, Zz.sRetN, Zz.sAsg, Zz.toTup, Zz.toCons, Zz.toNil, Zz.toName, Zz.tOrD, Zz.tAndD, Zz.tNotD, Zz.toB, Zz.toBr, Zz.toT, Zz.truD, Zz.dFn1, Zz.on1, Zz.dVar, Zz.dBin, Zz.on2, Zz.dChain, Zz.dNot, Zz.dAnd, Zz.dOr, Zz.dIf, Zz.dTup, Zz.dLst, Zz.dNil, Zz.dCons, Zz.frzs, Zz.dCall, Zz.oLe, Zz.oLt, Zz.oGt, Zz.oGe, Zz.oCmp, z]
  · simp [Zz.iteA, Zz.sSeq, Zz.sIf, Zz.sRet, Zz.sNil, Zz.sSet, Zz.sExpr, Zz.sRetN, Zz.sAsg, Zz.toTup, Zz.toCons, Zz.toNil, Zz.toName, Zz.tOrD, Zz.tAndD, Zz.tNotD, Zz.toB, Zz.toBr, Zz.toT, Zz.truD, Zz.dFn1, Zz.on1, Zz.dVar, Zz.dBin, Zz.on2, Zz.dChain, Zz.dNot, Zz.dAnd, Zz.dOr, Zz.dIf, Zz.dTup, Zz.dLst, Zz.dNil, Zz.dCons, Zz.frzs, Zz.dCall, Zz.oLe, Zz.oLt, Zz.oGt, Zz.oGe, Zz.oCmp]
theorem good_f (d : D) (h : It3 d) (S : List Cell) : fn_u_law_is_good [.d d] S = .ok (.d (.bool (carsD d))) S := by
  show finish S.length (body_u_law_is_good [some (.d d), none, none, none] S) = _
  have key : body_u_law_is_good [some (.d d), none, none, none] S = .rt (.d (.bool (carsD d))) S := by
    have rest : isB "tuple" d = false → body_u_law_is_good [some (.d d), none, none, none] S = .rt (.d (.bool false)) S := fun hb => by
      unfold body_u_law_is_good
      simp [Zz.iteA, Zz.sSeq, Zz.sIf, Zz.sRet, Zz.sNil, Zz.sSet, Zz.sExpr, Zz.sRetN, Zz.sAsg, Zz.toTup, Zz.toCons, Zz.toNil, Zz.toName, Zz.tOrD, Zz.tAndD, Zz.tNotD, Zz.toB, Zz.toBr, Zz.toT, Zz.truD, Zz.dFn1, Zz.on1, Zz.dVar, Zz.dBin, Zz.on2, Zz.dChain, Zz.dNot, Zz.dAnd, Zz.dOr, Zz.dIf, Zz.dTup, Zz.dLst, Zz.dNil, Zz.dCons, Zz.frzs, Zz.dCall, Zz.oLe, Zz.oLt, Zz.oGt, Zz.oGe, Zz.oCmp, oIsB, hb]
    cases d with
    | tuple ds =>
      have hf := h.fine
      rw [fineB] at hf
      obtain ⟨hl, hdp⟩ := h.lay ds rfl
      rw [lay_tup] at hl
      rw [depth_tup] at hdp
      unfold body_u_law_is_good carsD
      by_cases h3 : ds.length ≤ 3
      · have i1 : ¬ (3 : Int) < ds.length := by omega
        have hm : ∀ d ∈ ds, ∀ a ms, d = .tuple [a, .tuple ms] → ms.length ≤ 16777216 := fun d hd a ms e => h.short ds rfl d hd [a, .tuple ms] e ms (by simp)
        obtain ⟨v, hv⟩ := good_loop (some (.d (.tuple ds))) none S ds [] none (by rw [List.length_nil]; omega) hm
        have hit : itAny (dVar 0) [some (.d (.tuple ds)), some (.d (.list [])), none, none] S = .ok ds S := itAny_at (d := .tuple ds) rfl rfl
        have sf := (sFor_at (g := toName 2) (b := goodTurn) hit).trans hv
        have parts : ∀ e ∈ ds.flatMap rowN, e.canLay0 = true ∧ e.depth ≤ 60 ∧ fineB e = true := fun e he => by
          obtain ⟨d, hd, hed⟩ := List.mem_flatMap.mp he
          have z := rowN_part hed (lay_mem hl d hd) (fineAll_mem hf d hd)
          have z2 := depth_mem hd
          exact ⟨z.1, by omega, z.2.2⟩
        cases hs : ds.all shD
        · rw [hs] at sf
          have hc : ds.all carD = false := by rw [car_split, hs]; rfl
          simp [sSeq, sIf, sRet, sNil, sSet, tOrD, tNotD, toB, toBr, dFn1, on1, dVar, dBin, on2, dLst, dNil, frzs, oIsB, isB, oLen, oGt, oCmp, i1, h3, iteA, sf, hc]
        · rw [hs] at sf
          have hn := rowN_len ds hs
          have c2 := comp_good (ds.flatMap rowN) (fun e he => (parts e he).2.2) (by omega) (some (.d (.tuple ds))) v S
          have shp : SeqAt.shaped (.list ((ds.flatMap rowN).filter fun e => !nmD e)) = true := by
            unfold SeqAt.shaped
            rw [Bool.and_eq_true]
            refine ⟨?_, decide_eq_true ?_⟩
            · rw [PyData.canLay0]
              exact lay_of fun e he => (parts e (List.mem_filter.mp he).1).1
            · rw [PyData.depth]
              exact Nat.le_trans (Nat.succ_le_succ (depth_of (n := 60) fun e he => (parts e (List.mem_filter.mp he).1).2.1)) (by decide)
          have hq := ne_nil _ shp
          cases ha : (ds.flatMap rowN).all nmD
          · have hc : ds.all carD = false := by rw [car_split, hs, ha]; rfl
            have hne : ((ds.flatMap rowN).filter fun e => !nmD e).isEmpty = false := by
              obtain ⟨k, hk, hk2⟩ := List.all_eq_false.mp ha
              cases q : ((ds.flatMap rowN).filter fun e => !nmD e) with
              | nil =>
                have z := List.filter_eq_nil_iff.mp q k hk
                simp [hk2] at z
              | cons a b => rfl
            rw [hne] at hq
            simp [sSeq, sIf, sRet, sNil, sSet, tOrD, tNotD, toB, toBr, dFn1, on1, dVar, dBin, on2, dLst, dNil, frzs, oIsB, isB, oLen, oGt, oCmp, i1, h3, iteA, sf, c2, hq, hc]
          · have hc : ds.all carD = true := by rw [car_split, hs, ha]; rfl
            have he : ((ds.flatMap rowN).filter fun e => !nmD e) = [] := List.filter_eq_nil_iff.mpr fun k hk => by
              have z := List.all_eq_true.mp ha k hk
              simp [z]
            have hq2 := ne_nil [] (by decide +kernel)
            have c3 := oLenSet_names _ ha (by omega)
            rw [he] at c2
            simp [sSeq, sIf, sRet, sNil, sSet, tOrD, tNotD, toB, toBr, dFn1, on1, dVar, dBin, on2, dLst, dNil, frzs, oIsB, isB, oLen, oGt, oCmp, i1, h3, iteA, sf, c2, hq2, hc, c3, eq_int, unlike, List.length_flatMap]
      · have i1 : (3 : Int) < ds.length := by omega
        simp [sSeq, sIf, sRet, sNil, tOrD, tNotD, toB, toBr, dFn1, on1, dVar, dBin, on2, oIsB, isB, oLen, oGt, oCmp, i1, h3, iteA]
    | none => exact rest rfl
    | bool _ => exact rest rfl
    | int _ => exact rest rfl
    | str _ => exact rest rfl
    | list _ => exact rest rfl
    | dict _ => exact rest rfl
  rw [key]
  show Res.ok _ (S.take S.length) = _
  rw [List.take_length]
end K01
set_option maxRecDepth 100000
set_option maxHeartbeats 1000000
namespace K01
open PySem PySem.Spec PyProof.Rows L2 Zz
theorem need_f (d : D) (h : It3 d) (S : List Cell) : fn_need_carriers [.d d] S = if carsD d = true then .ok (.d .none) S else .ex ⟨"BadCarriers", []⟩ S := by
  have z := is_carriers_f d h S
  cases hc : carsD d
  · rw [hc] at z
    have key : body_need_carriers [some (.d d)] S = .ex ⟨"BadCarriers", []⟩ [some (.d d)] S := by
      unfold body_need_carriers sRaise
      simp [Zz.iteA, Zz.sSeq, Zz.sIf, Zz.sRet, Zz.sNil, Zz.sSet, Zz.sExpr, Zz.sRetN, Zz.sAsg, Zz.toTup, Zz.toCons, Zz.toNil, Zz.toName, Zz.tOrD, Zz.tAndD, Zz.tNotD, Zz.toB, Zz.toBr, Zz.toT, Zz.truD, Zz.dFn1, Zz.on1, Zz.dVar, Zz.dBin, Zz.on2, Zz.dChain, Zz.dNot, Zz.dAnd, Zz.dOr, Zz.dIf, Zz.dTup, Zz.dLst, Zz.dNil, Zz.dCons, Zz.frzs, Zz.dCall, Zz.oLe, Zz.oLt, Zz.oGt, Zz.oGe, Zz.oCmp, z]
    show finish S.length (body_need_carriers [some (.d d)] S) = _
    rw [key]
    show Res.ex _ (S.take S.length) = _
    rw [List.take_length]
    rfl
  · rw [hc] at z
    have key : body_need_carriers [some (.d d)] S = .nx [some (.d d)] S := by
      unfold body_need_carriers sRaise
      simp [Zz.iteA, Zz.sSeq, Zz.sIf, Zz.sRet, Zz.sNil, Zz.sSet, Zz.sExpr, Zz.sRetN, Zz.sAsg, Zz.toTup, Zz.toCons, Zz.toNil, Zz.toName, Zz.tOrD, Zz.tAndD, Zz.tNotD, Zz.toB, Zz.toBr, Zz.toT, Zz.truD, Zz.dFn1, Zz.on1, Zz.dVar, Zz.dBin, Zz.on2, Zz.dChain, Zz.dNot, Zz.dAnd, Zz.dOr, Zz.dIf, Zz.dTup, Zz.dLst, Zz.dNil, Zz.dCons, Zz.frzs, Zz.dCall, Zz.oLe, Zz.oLt, Zz.oGt, Zz.oGe, Zz.oCmp, z]
    show finish S.length (body_need_carriers [some (.d d)] S) = _
    rw [key]
    show Res.ok _ (S.take S.length) = _
    rw [List.take_length]
    rfl
theorem told_f (d : D) (h : It3 d) (S : List Cell) : fn_u_law_told [.d d] S = .ok (.d (.bool (carsD d))) S := by
  have z := need_f d h S
  show finish S.length (body_u_law_told [some (.d d), none, none] S) = _
  cases hc : carsD d
  · rw [hc, if_neg Bool.false_ne_true] at z
    have key : body_u_law_told [some (.d d), none, none] S = .rt (.d (.bool false)) (S ++ [.exc ⟨"BadCarriers", []⟩]) := by
      unfold body_u_law_told
      have e1 : ex_0 "BadCarriers" = some true := by decide +kernel
      have e2 : ixs_0 "BadCarriers" = some false := by decide +kernel
      have e3 : ix_BadCarriers "BadCarriers" = some true := by decide +kernel
      have e4 : ix_ValueError "BadCarriers" = some true := by decide +kernel
      have g1 : (S ++ [Cell.exc ⟨"BadCarriers", []⟩])[S.length]? = some (.exc ⟨"BadCarriers", []⟩) := by rw [List.getElem?_append_right (Nat.le_refl _), Nat.sub_self]; rfl
      simp [sSeq, sIf, sRet, sNil, sSet, sExpr, sKeep, tAndD, toB, toBr, dVar, dIf, dNone, noneV, clsX, onX, dCall, dCons, dNil, iteA, z, e1, e2, e3, e4]
    rw [key]
    show Res.ok _ ((S ++ [Cell.exc ⟨"BadCarriers", []⟩]).take S.length) = _
    rw [List.take_left']
    rfl
  · rw [hc, if_pos rfl] at z
    have key : body_u_law_told [some (.d d), none, none] S = .rt (.d (.bool true)) S := by
      unfold body_u_law_told
      simp [sSeq, sIf, sRet, sNil, sSet, sExpr, sKeep, tAndD, toB, toBr, dVar, dIf, dNone, noneV, Zz.isNon, dCall, dCons, dNil, iteA, z]
    rw [key]
    show Res.ok _ (S.take S.length) = _
    rw [List.take_length]
/-! ### elements_of -/
theorem nodup_of : ∀ xs : List Str, (dist xs).length = xs.length → xs.Nodup := fun xs => by
  induction xs using Zz.snocInd with
  | h0 => intro _; exact List.nodup_nil
  | h1 xs x ih =>
    intro h
    rw [dist_snoc] at h
    have le := dist_le xs
    split at h
    · rw [List.length_append, List.length_singleton] at h
      omega
    · rename_i hx
      rw [List.length_append, List.length_append, List.length_singleton] at h
      refine List.nodup_append.mpr ⟨ih (by omega), by simp, fun a ha b hb => ?_⟩
      have : b = x := by simpa using hb
      subst this
      exact fun e => hx ((mem_dist xs b).mpr (e ▸ ha))
theorem eq_str (x y : Str) : oEq (.str x) (.str y) = some (.bool (x == y)) := rfl
abbrev elTurn : SD := (sIf (toB (dBin oEq (dVar 2) (dVar 1))) (sRet (dVar 3)) sNil)
abbrev elTg : Tg := (toTup (toCons (toName 2) (toCons (toName 3) toNil)))
theorem el_loop (T : Option Val) (h : Str) (ms : List D) (S : List Cell) : ∀ (ds : List D) (w m : Option Val), ds.all carD = true → ((ds.flatMap rowN).map txt).Nodup → .tuple [.str h, .tuple ms] ∈ ds → forGo elTg elTurn ds [T, some (.d (.str h)), w, m] S = .rt (.d (.tuple ms)) S
  | d :: ds, w, m, hc, hn, hm => by
    rw [List.all_cons, Bool.and_eq_true] at hc
    obtain ⟨w1, ws, rfl⟩ : ∃ w1 ws, d = .tuple [.str w1, .tuple ws] := by
      have z := hc.1
      unfold carD at z
      split at z
      · rename_i a ms
        simp only [Bool.and_eq_true] at z
        cases a <;> simp [nmD] at z
        exact ⟨_, _, rfl⟩
      · cases z
    rw [List.flatMap_cons, List.map_append] at hn
    obtain ⟨n1, n2, n3⟩ := List.nodup_append.mp hn
    show (match elTurn [T, some (.d (.str h)), some (.d (.str w1)), some (.d (.tuple ws))] S with | .nx ρ2 S2 => forGo elTg elTurn ds ρ2 S2 | .ct ρ2 S2 => forGo elTg elTurn ds ρ2 S2 | .bk ρ2 S2 => .nx ρ2 S2 | .rt v S2 => .rt v S2 | .ex x ρ2 S2 => .ex x ρ2 S2 | .st => .st) = _
    cases e : (w1 == h) with
    | true =>
      have e' : w1 = h := beq_iff_eq.mp e
      have ew : ws = ms := by
        rcases List.mem_cons.mp hm with q | q
        · cases q; rfl
        · exfalso
          refine n3 h (by rw [← e']; simp [rowN, txt]) h ?_ rfl
          exact List.mem_map.mpr ⟨.str h, List.mem_flatMap.mpr ⟨_, q, by simp [rowN]⟩, rfl⟩
      have k : elTurn [T, some (.d (.str h)), some (.d (.str w1)), some (.d (.tuple ws))] S = .rt (.d (.tuple ws)) S := by simp [Zz.iteA, Zz.sSeq, Zz.sIf, Zz.sRet, Zz.sNil, Zz.sSet, Zz.sExpr, Zz.sRetN, Zz.sAsg, Zz.toTup, Zz.toCons, Zz.toNil, Zz.toName, Zz.tOrD, Zz.tAndD, Zz.tNotD, Zz.toB, Zz.toBr, Zz.toT, Zz.truD, Zz.dFn1, Zz.on1, Zz.dVar, Zz.dBin, Zz.on2, Zz.dChain, Zz.dNot, Zz.dAnd, Zz.dOr, Zz.dIf, Zz.dTup, Zz.dLst, Zz.dNil, Zz.dCons, Zz.frzs, Zz.dCall, Zz.oLe, Zz.oLt, Zz.oGt, Zz.oGe, Zz.oCmp, eq_str, e]
      rw [k, ew]
    | false =>
      have k : elTurn [T, some (.d (.str h)), some (.d (.str w1)), some (.d (.tuple ws))] S = .nx [T, some (.d (.str h)), some (.d (.str w1)), some (.d (.tuple ws))] S := by simp [Zz.iteA, Zz.sSeq, Zz.sIf, Zz.sRet, Zz.sNil, Zz.sSet, Zz.sExpr, Zz.sRetN, Zz.sAsg, Zz.toTup, Zz.toCons, Zz.toNil, Zz.toName, Zz.tOrD, Zz.tAndD, Zz.tNotD, Zz.toB, Zz.toBr, Zz.toT, Zz.truD, Zz.dFn1, Zz.on1, Zz.dVar, Zz.dBin, Zz.on2, Zz.dChain, Zz.dNot, Zz.dAnd, Zz.dOr, Zz.dIf, Zz.dTup, Zz.dLst, Zz.dNil, Zz.dCons, Zz.frzs, Zz.dCall, Zz.oLe, Zz.oLt, Zz.oGt, Zz.oGe, Zz.oCmp, eq_str, e]
      rw [k]
      refine el_loop T h ms S ds _ _ hc.2 n2 ?_
      rcases List.mem_cons.mp hm with q | q
      · cases q
        simp at e
      · exact q
theorem elements_f (ds : List D) (hc : carsD (.tuple ds) = true) (h : Str) (ms : List D) (hm : .tuple [.str h, .tuple ms] ∈ ds) (S : List Cell) : fn_elements_of [.d (.tuple ds), .d (.str h)] S = .ok (.d (.tuple ms)) S := by
  unfold carsD at hc
  simp only [Bool.and_eq_true] at hc
  have hn : ((ds.flatMap rowN).map txt).Nodup := nodup_of _ (by
    have z := hc.2.2
    unfold unlike at z
    rw [beq_iff_eq] at z
    rw [List.length_map]
    omega)
  have hit : itAny (dVar 0) [some (.d (.tuple ds)), some (.d (.str h)), none, none] S = .ok ds S := itAny_at (d := .tuple ds) rfl rfl
  have sf := (sFor_at (g := elTg) (b := elTurn) hit).trans (el_loop (some (.d (.tuple ds))) h ms S ds none none hc.2.1 hn hm)
  show finish S.length (body_elements_of [some (.d (.tuple ds)), some (.d (.str h)), none, none] S) = _
  have key : body_elements_of [some (.d (.tuple ds)), some (.d (.str h)), none, none] S = .rt (.d (.tuple ms)) S := by
    show sSeq (sFor (itAny (dVar 0)) elTg elTurn) _ _ _ = _
    unfold sSeq
    rw [sf]
  rw [key]
  show Res.ok _ (S.take S.length) = _
  rw [List.take_length]
end K01
set_option maxRecDepth 100000
set_option maxHeartbeats 1000000
namespace K01
open PySem PySem.Spec PyProof.Rows L2 Zz
/-! ### the drawn numbers -/
theorem mod_at (i j : Int) (h : j ≠ 0) : oMod (.int i) (.int j) = some (.int (i.fmod j)) := by show (if j ≠ 0 then _ else _) = _; rw [if_pos h]
theorem div_at (i j : Int) (h : j ≠ 0) (h2 : j.natAbs < 1073741824) : oDiv (.int i) (.int j) = some (.int (i.fdiv j)) := by show (if j ≠ 0 ∧ j.natAbs < 1073741824 then _ else _) = _; rw [if_pos ⟨h, h2⟩]
theorem add_at (i j : Int) : oAdd (.int i) (.int j) = some (.int (i + j)) := rfl
theorem mul_at (i j : Int) (h : (lowI i || lowI j) = true) : oMul (.int i) (.int j) = some (.int (i * j)) := by show (if (lowI i || lowI j) = true then _ else _) = _; rw [if_pos h]
theorem pow_at (i j : Int) (h0 : 0 ≤ j) (h1 : j ≤ 1000000) (h2 : i.natAbs < 2 ^ 64) : oPow (.int i) (.int j) = some (.int (i ^ j.toNat)) := by
  show (if 0 ≤ j ∧ j ≤ 1000000 ∧ i.natAbs < 2 ^ 64 then _ else _) = _
  rw [if_pos ⟨h0, h1, h2⟩]
theorem low_of {i : Int} (h1 : -(2 ^ 64) < i) (h2 : i < 2 ^ 64) : lowI i = true := by
  unfold lowI
  rw [decide_eq_true h1, decide_eq_true h2]; rfl
section
variable {ρ : Env'} {S : List Cell} {ns : List Int} {k : Int}
abbrev aL : Env' → M Val := dFn1 oLen (dVar 0)
theorem eL (h : ρ[0]? = some (some (.d (.list (intsD ns))))) : aL ρ S = .ok (.d (.int ns.length)) S := dFn1_at (dVar_at h) rfl (by show some (PyData.int (intsD ns).length) = _; simp [intsD])
theorem pos_t (h : ρ[0]? = some (some (.d (.list (intsD ns))))) : toB (dBin oGt aL (dC (.int 0))) ρ S = .ok (decide ((0 : Int) < ns.length)) S := toB_at (dBin_at (eL h) rfl rfl rfl rfl)
theorem eI (h : ρ[0]? = some (some (.d (.list (intsD ns))))) (h2 : ρ[2]? = some (some (.d (.int k)))) (hn : 0 < ns.length) : ∃ c, dBin oIx (dVar 0) (dBin oMod (dVar 2) aL) ρ S = .ok (.d (.int c)) S := by
  have hL : (0 : Int) < ns.length := by omega
  have m := fmod_in k ns.length hL
  obtain ⟨a, ha, e⟩ := atI_in (intsD ns) (k.fmod ns.length) m.1 (by simp [intsD]; exact m.2)
  obtain ⟨c, hc, rfl⟩ := List.mem_map.mp ha
  exact ⟨c, dBin_at (dVar_at h) (dBin_at (dVar_at h2) (eL h) rfl rfl (mod_at _ _ (by omega))) rfl rfl e⟩
theorem eQ (h : ρ[0]? = some (some (.d (.list (intsD ns))))) (h2 : ρ[2]? = some (some (.d (.int k)))) (hn : 0 < ns.length) (h63 : ns.length ≤ 63) : dBin oDiv (dVar 2) aL ρ S = .ok (.d (.int (k.fdiv ns.length))) S :=
  dBin_at (dVar_at h2) (eL h) rfl rfl (div_at _ _ (by omega) (by omega))
end
abbrev cTail : SD := (sSeq (sIf (toB (dBin oGt (dFn1 oLen (dVar 0)) (dC (.int 0)))) (sSet 3 (dBin oAdd (dVar 3) (dBin oMul (dBin oMod (dBin oIx (dVar 0) (dBin oMod (dVar 2) (dFn1 oLen (dVar 0)))) (dC (.int 2147483629))) (dBin oAdd (dC (.int 1)) (dBin oDiv (dVar 2) (dFn1 oLen (dVar 0))))))) sNil) (sRet (dBin oDiv (dBin oMod (dBin oPow (dBin oMod (dVar 3) (dC (.int 2147483647))) (dC (.int 5))) (dC (.int 2147483647))) (dC (.int 7)))))
theorem last_f (ρ : Env') (S : List Cell) (b : Int) (h : ρ[3]? = some (some (.d (.int b)))) : ∃ n : Int, sRet (dBin oDiv (dBin oMod (dBin oPow (dBin oMod (dVar 3) (dC (.int 2147483647))) (dC (.int 5))) (dC (.int 2147483647))) (dC (.int 7))) ρ S = .rt (.d (.int n)) S := by
  have m := fmod_in b 2147483647 (by decide)
  have p : oPow (.int (b.fmod 2147483647)) (.int 5) = some (.int ((b.fmod 2147483647) ^ (5 : Int).toNat)) := by
    show (if (0 : Int) ≤ 5 ∧ (5 : Int) ≤ 1000000 ∧ (b.fmod 2147483647).natAbs < 2 ^ 64 then _ else _) = _
    rw [if_pos ⟨by decide, by decide, by omega⟩]
  exact ⟨_, sRet_at (dBin_at (dBin_at (dBin_at (dBin_at (dVar_at h) rfl rfl rfl (mod_at _ _ (by decide))) rfl rfl rfl p) rfl rfl rfl (mod_at _ _ (by decide))) rfl rfl rfl (div_at _ _ (by decide) (by decide)))⟩
theorem tail_f (ns : List Int) (h63 : ns.length ≤ 63) (k b : Int) (s o4 o5 : Option Val) (S : List Cell) : ∃ n : Int, cTail [some (.d (.list (intsD ns))), s, some (.d (.int k)), some (.d (.int b)), o4, o5] S = .rt (.d (.int n)) S := by
  by_cases hn : 0 < ns.length
  · obtain ⟨c, ec⟩ := eI (ρ := [some (.d (.list (intsD ns))), s, some (.d (.int k)), some (.d (.int b)), o4, o5]) (S := S) (ns := ns) (k := k) rfl rfl hn
    have eq := eQ (ρ := [some (.d (.list (intsD ns))), s, some (.d (.int k)), some (.d (.int b)), o4, o5]) (S := S) (ns := ns) (k := k) rfl rfl hn h63
    have m := fmod_in c 2147483629 (by decide)
    have e1 : sIf (toB (dBin oGt (dFn1 oLen (dVar 0)) (dC (.int 0)))) (sSet 3 (dBin oAdd (dVar 3) (dBin oMul (dBin oMod (dBin oIx (dVar 0) (dBin oMod (dVar 2) (dFn1 oLen (dVar 0)))) (dC (.int 2147483629))) (dBin oAdd (dC (.int 1)) (dBin oDiv (dVar 2) (dFn1 oLen (dVar 0))))))) sNil
        [some (.d (.list (intsD ns))), s, some (.d (.int k)), some (.d (.int b)), o4, o5] S = .nx [some (.d (.list (intsD ns))), s, some (.d (.int k)), some (.d (.int (b + c.fmod 2147483629 * (1 + k.fdiv ns.length)))), o4, o5] S := by
      have t := pos_t (ρ := [some (.d (.list (intsD ns))), s, some (.d (.int k)), some (.d (.int b)), o4, o5]) (S := S) (ns := ns) rfl
      rw [decide_eq_true (by omega)] at t
      rw [sIf_t t]
      exact sSet_at (dBin_at rfl (dBin_at (dBin_at ec rfl rfl rfl (mod_at _ _ (by decide))) (dBin_at rfl eq rfl rfl (add_at _ _)) rfl rfl (mul_at _ _ (by rw [low_of (by omega) (by omega)]; rfl))) rfl rfl (add_at _ _))
    obtain ⟨n, en⟩ := last_f [some (.d (.list (intsD ns))), s, some (.d (.int k)), some (.d (.int (b + c.fmod 2147483629 * (1 + k.fdiv ns.length)))), o4, o5] S _ rfl
    exact ⟨n, (sSeq_nx e1).trans en⟩
  · have t := pos_t (ρ := [some (.d (.list (intsD ns))), s, some (.d (.int k)), some (.d (.int b)), o4, o5]) (S := S) (ns := ns) rfl
    rw [decide_eq_false (by omega)] at t
    obtain ⟨n, en⟩ := last_f [some (.d (.list (intsD ns))), s, some (.d (.int k)), some (.d (.int b)), o4, o5] S b rfl
    exact ⟨n, (sSeq_nx (sIf_f t)).trans en⟩
abbrev ownTurn : SD := (sSet 4 (dBin oDiv (dVar 4) (dC (.int 306783379))))
theorem own_loop (c s k b : Option Val) (S : List Cell) : ∀ (l : List D) (own : Int) (t : Option Val), ∃ (own' : Int) (t' : Option Val), forGo (toName 5) ownTurn l [c, s, k, b, some (.d (.int own)), t] S = .nx [c, s, k, b, some (.d (.int own')), t'] S
  | [], own, t => ⟨own, t, rfl⟩
  | d :: l, own, t => by
    obtain ⟨own', t', e⟩ := own_loop c s k b S l (own.fdiv 306783379) (some (.d d))
    refine ⟨own', t', ?_⟩
    have k1 : ownTurn [c, s, k, b, some (.d (.int own)), some (.d d)] S = .nx [c, s, k, b, some (.d (.int (own.fdiv 306783379))), some (.d d)] S := sSet_at (dBin_at rfl rfl rfl rfl (div_at _ _ (by decide) (by decide)))
    show (match ownTurn [c, s, k, b, some (.d (.int own)), some (.d d)] S with | .nx ρ2 S2 => forGo (toName 5) ownTurn l ρ2 S2 | .ct ρ2 S2 => forGo (toName 5) ownTurn l ρ2 S2 | .bk ρ2 S2 => .nx ρ2 S2 | .rt v S2 => .rt v S2 | .ex x ρ2 S2 => .ex x ρ2 S2 | .st => .st) = _
    rw [k1]
    exact e
theorem cell_f (ns : List Int) (h63 : ns.length ≤ 63) (k0 : Int) (hk0 : 0 ≤ k0) (hk1 : k0 < 1000000) (R : List Cell) : ∃ n : Int, fn_u_law_cell [.d (.list (intsD ns)), .c 0] (.lst [.int k0] :: R) = .ok (.d (.int n)) (.lst [.int (k0 + 1)] :: R) := by
  let C0 : Option Val := some (.d (.list (intsD ns)))
  let S1 : List Cell := .lst [.int (k0 + 1)] :: R
  let k : Int := k0 + 1
  let b : Int := 31 * k * k + 7919 * k
  have p1 : sPut (dBin oAdd (dBin oIx (dVar 1) (dC (.int 0))) (dC (.int 1))) (dVar 1) (dC (.int 0)) [C0, some (.c 0), none, none, none, none] (.lst [.int k0] :: R) = .nx [C0, some (.c 0), none, none, none, none] S1 := by
    have e1 : dBin oAdd (dBin oIx (dVar 1) (dC (.int 0))) (dC (.int 1)) [C0, some (.c 0), none, none, none, none] (.lst [.int k0] :: R) = .ok (.d (.int (k0 + 1))) (.lst [.int k0] :: R) := dBin_at (dBin_at rfl rfl rfl rfl (at0 _ _)) rfl rfl rfl (add_at _ _)
    unfold sPut
    rw [e1]
    have ix : ixN 1 0 = some 0 := by decide
    show (match putM (.c 0) (.int 0) (.int (k0 + 1)) (.lst [.int k0] :: R) with | some T => SRes.nx [C0, some (.c 0), none, none, none, none] T | none => .st) = _
    have pm : putM (.c 0) (.int 0) (.int (k0 + 1)) (.lst [.int k0] :: R) = some S1 := by
      unfold putM
      simp [ix, S1]
    rw [pm]
  have p2 : sSet 2 (dBin oIx (dVar 1) (dC (.int 0))) [C0, some (.c 0), none, none, none, none] S1 = .nx [C0, some (.c 0), some (.d (.int k)), none, none, none] S1 := sSet_at (dBin_at rfl rfl rfl rfl (at0 _ _))
  have lk : lowI k = true := low_of (by omega) (by omega)
  have p3 : sSet 3 (dBin oAdd (dBin oMul (dBin oMul (dC (.int 31)) (dVar 2)) (dVar 2)) (dBin oMul (dC (.int 7919)) (dVar 2))) [C0, some (.c 0), some (.d (.int k)), none, none, none] S1 = .nx [C0, some (.c 0), some (.d (.int k)), some (.d (.int b)), none, none] S1 :=
    sSet_at (dBin_at (dBin_at (dBin_at rfl rfl rfl rfl (mul_at _ _ (by rw [lk, Bool.or_true]))) rfl rfl rfl (mul_at _ _ (by rw [lk, Bool.or_true]))) (dBin_at rfl rfl rfl rfl (mul_at _ _ (by rw [lk, Bool.or_true]))) rfl rfl (add_at _ _))
  have main : ∃ (n : Int), body_u_law_cell [C0, some (.c 0), none, none, none, none] (.lst [.int k0] :: R) = .rt (.d (.int n)) S1 := by
    unfold body_u_law_cell
    rw [sSeq_nx p1, sSeq_nx p2, sSeq_nx p3]
    -- the end, whatever slots 4 and 5 hold
    have fin : ∀ {m : SD} (o4 o5 : Option Val), m [C0, some (.c 0), some (.d (.int k)), some (.d (.int b)), none, none] S1 = .nx [C0, some (.c 0), some (.d (.int k)), some (.d (.int b)), o4, o5] S1 → ∃ n : Int, sSeq m cTail [C0, some (.c 0), some (.d (.int k)), some (.d (.int b)), none, none] S1 = .rt (.d (.int n)) S1 := fun {m} o4 o5 h => by
      obtain ⟨n, en⟩ := tail_f ns h63 k b (some (.c 0)) o4 o5 S1
      exact ⟨n, (sSeq_nx h).trans en⟩
    by_cases hn : 0 < ns.length
    · have t0 := pos_t (ρ := [C0, some (.c 0), some (.d (.int k)), some (.d (.int b)), none, none]) (S := S1) (ns := ns) rfl
      rw [decide_eq_true (by omega)] at t0
      obtain ⟨c, ec⟩ := eI (ρ := [C0, some (.c 0), some (.d (.int k)), some (.d (.int b)), none, none]) (S := S1) (ns := ns) (k := k) rfl rfl hn
      have eq := eQ (ρ := [C0, some (.c 0), some (.d (.int k)), some (.d (.int b)), none, none]) (S := S1) (ns := ns) (k := k) rfl rfl hn h63
      have pw := pow_at 10 18 (by decide) (by decide) (by decide)
      have t1 : toB (dBin oGe (dBin oIx (dVar 0) (dBin oMod (dVar 2) (dFn1 oLen (dVar 0)))) (dBin oPow (dC (.int 10)) (dC (.int 18)))) [C0, some (.c 0), some (.d (.int k)), some (.d (.int b)), none, none] S1 = .ok (decide (c ≥ 10 ^ (18 : Int).toNat)) S1 := toB_at (dBin_at ec (dBin_at rfl rfl rfl rfl pw) rfl rfl rfl)
      have t2 : toB (dBin oLt (dBin oDiv (dVar 2) (dFn1 oLen (dVar 0))) (dC (.int 60))) [C0, some (.c 0), some (.d (.int k)), some (.d (.int b)), none, none] S1 = .ok (decide (k.fdiv ns.length < 60)) S1 := toB_at (dBin_at eq rfl rfl rfl rfl)
      cases h1 : decide (c ≥ 10 ^ (18 : Int).toNat) with
      | false =>
        rw [h1] at t1
        exact fin none none (sIf_f (tAndD_t t0 (tAndD_f t1)))
      | true =>
        rw [h1] at t1
        cases h2 : decide (k.fdiv ns.length < 60) with
        | false =>
          rw [h2] at t2
          exact fin none none (sIf_f (tAndD_t t0 (tAndD_t t1 t2)))
        | true =>
          rw [h2] at t2
          have h2' : k.fdiv ns.length < 60 := of_decide_eq_true h2
          have q0 : 0 ≤ k.fdiv ns.length := Int.fdiv_nonneg (by omega) (by omega)
          obtain ⟨own', t', el⟩ := own_loop C0 (some (.c 0)) (some (.d (.int k))) (some (.d (.int b))) S1 ((List.range (k.fdiv ns.length).toNat).map fun i : Nat => .int (0 + i)) c none
          have ef : sFor (itRng (dBin oDiv (dVar 2) (dFn1 oLen (dVar 0)))) (toName 5) ownTurn [C0, some (.c 0), some (.d (.int k)), some (.d (.int b)), some (.d (.int c)), none] S1 = .nx [C0, some (.c 0), some (.d (.int k)), some (.d (.int b)), some (.d (.int own')), t'] S1 := by
            have eq' := eQ (ρ := [C0, some (.c 0), some (.d (.int k)), some (.d (.int b)), some (.d (.int c)), none]) (S := S1) (ns := ns) (k := k) rfl rfl hn h63
            have it := itRng_at eq' ⟨by omega, by omega⟩
            show (itRng _ _ S1).then_ _ _ = _
            rw [it]
            exact el
          have e4 : sSet 4 (dBin oIx (dVar 0) (dBin oMod (dVar 2) (dFn1 oLen (dVar 0)))) [C0, some (.c 0), some (.d (.int k)), some (.d (.int b)), none, none] S1 = .nx [C0, some (.c 0), some (.d (.int k)), some (.d (.int b)), some (.d (.int c)), none] S1 := sSet_at ec
          have tg : toB (dBin oGt (dVar 4) (dC (.int 0))) [C0, some (.c 0), some (.d (.int k)), some (.d (.int b)), some (.d (.int own')), t'] S1 = .ok (decide (own' > 0)) S1 := toB_at (dBin_at rfl rfl rfl rfl rfl)
          cases h3 : decide (own' > 0) with
          | true =>
            rw [h3] at tg
            refine ⟨own'.fmod 306783379, sSeq_rt ((sIf_t (tAndD_t t0 (tAndD_t t1 t2))).trans ?_)⟩
            rw [sSeq_nx e4, sSeq_nx ef, sIf_t tg]
            exact sRet_at (dBin_at rfl rfl rfl rfl (mod_at _ _ (by decide)))
          | false =>
            rw [h3] at tg
            refine fin (some (.d (.int own'))) t' ((sIf_t (tAndD_t t0 (tAndD_t t1 t2))).trans ?_)
            rw [sSeq_nx e4, sSeq_nx ef, sIf_f tg]
            rfl
    · have t0 := pos_t (ρ := [C0, some (.c 0), some (.d (.int k)), some (.d (.int b)), none, none]) (S := S1) (ns := ns) rfl
      rw [decide_eq_false (by omega)] at t0
      exact fin none none (sIf_f (tAndD_f t0))
  obtain ⟨n, e⟩ := main
  refine ⟨n, ?_⟩
  have z := body_rt (np := 2) (nl := 6) (b := body_u_law_cell) (as := [.d (.list (intsD ns)), .c 0]) (S := .lst [.int k0] :: R) rfl e
  rw [show fn_u_law_cell = bodyFn 2 6 body_u_law_cell from rfl, z]
  show Res.ok _ (List.take _ (.lst [.int (k0 + 1)] :: R)) = _
  rw [List.take_of_length_le (by simp)]
end K01
set_option maxRecDepth 100000
set_option maxHeartbeats 1000000
namespace K01
open PySem PySem.Spec PyProof.Rows L2 Zz
/-! ### words -/
/-- a text of few and right signs -/
structure Wo (x : Str) (n : Nat) : Prop where
  len : x.cps.toList.length ≤ n
  ok : ∀ c ∈ x.cps.toList, c < 0x110000
theorem Wo.le {x : Str} {n m : Nat} (h : Wo x n) (q : n ≤ m) : Wo x m := ⟨Nat.le_trans h.len q, h.ok⟩
theorem Wo.app {x y : Str} {n m : Nat} (h : Wo x n) (g : Wo y m) : Wo (x ++ y) (n + m) := by
  have e : (x ++ y).cps.toList = x.cps.toList ++ y.cps.toList := by
    show (x.cps ++ y.cps).toList = _
    rw [Array.toList_append]
  refine ⟨by rw [e, List.length_append]; have := h.len; have := g.len; omega, fun c hc => ?_⟩
  rw [e] at hc
  exact (List.mem_append.mp hc).elim (h.ok c) (g.ok c)
theorem Wo.cut {x : Str} {n : Nat} (h : Wo x n) (lo hi : Option Int) : Wo (L2.cutS x lo hi) n := by
  unfold L2.cutS
  refine ⟨?_, fun c hc => ?_⟩
  · rw [List.toList_toArray, List.length_take, List.length_drop]
    have := h.len
    omega
  · rw [List.toList_toArray] at hc
    exact h.ok c (List.mem_of_mem_drop (List.mem_of_mem_take hc))
theorem joinL_nil : ∀ l : List (List Nat), TL.joinL [] l = l.flatten
  | [] => rfl
  | [p] => by simp [TL.joinL]
  | p :: q :: r => by
    show p ++ ([] ++ TL.joinL [] (q :: r)) = _
    rw [joinL_nil (q :: r)]
    rfl
abbrev SIG : Str := "abcdefghijklmnopqrstuvwxyz0123456789"
theorem sig_len : SIG.cps.toList.length = 36 := by decide +kernel
theorem sig_ok : ∀ c ∈ SIG.cps.toList, c < 0x110000 := by
  have h : (SIG.cps.toList.all fun c => decide (c < 0x110000)) = true := by decide +kernel
  exact fun c hc => of_decide_eq_true (List.all_eq_true.mp h c hc)
def sgn (i : Int) : Nat := SIG.cps.toList.getD i.toNat 0
theorem sgn_in (i : Int) (h0 : 0 ≤ i) (h1 : i < 36) : sgn i ∈ SIG.cps.toList ∧ oIx (.str SIG) (.int i) = some (.str ⟨#[sgn i]⟩) := by
  obtain ⟨j, rfl⟩ := Int.eq_ofNat_of_zero_le h0
  have hj : j < SIG.cps.toList.length := by rw [sig_len]; omega
  have e : sgn (j : Int) = SIG.cps.toList[j] := by
    unfold sgn
    rw [Int.toNat_natCast, List.getD_eq_getElem?_getD, List.getElem?_eq_getElem hj]
    rfl
  refine ⟨by rw [e]; exact List.getElem_mem hj, ?_⟩
  have hz : SIG.length ≤ 16777216 := by decide +kernel
  show (if SIG.length ≤ 16777216 then (atI SIG.cps.toList (j : Int)).map fun c => PyData.str ⟨#[c]⟩ else none) = _
  rw [if_pos hz, atI_nat (List.getElem?_eq_getElem hj), e]
  rfl
theorem strs_of {A : Type} (f : A → Str) : ∀ l : List A, (l.map fun a => PyData.str (f a)).mapM asStr = some (l.map f)
  | [] => rfl
  | a :: l => by
    rw [List.map_cons, List.mapM_cons, strs_of f l]
    rfl
theorem sum_ones : ∀ l : List Str, (∀ x ∈ l, x.cps.toList.length = 1) → (l.map (·.length)).sum = l.length
  | [], _ => rfl
  | x :: l, h => by
    have h1 := h x List.mem_cons_self
    rw [size_len] at h1
    rw [List.map_cons, List.sum_cons, sum_ones l fun y hy => h y (List.mem_cons_of_mem _ hy), h1, List.length_cons]
    omega
/-- ''.join of single signs -/
theorem join_ones {A : Type} (f : A → Nat) (l : List A) (hl : l.length ≤ 9) (hf : ∀ a ∈ l, f a < 0x110000) : ∃ W, oJoin "" (.list (l.map fun a => .str ⟨#[f a]⟩)) = some (.str W) ∧ Wo W 9 := by
  refine ⟨Txt.join "" (l.map fun a => ⟨#[f a]⟩), ?_, ?_⟩
  · show ((l.map fun a => PyData.str ⟨#[f a]⟩).mapM asStr).bind _ = _
    rw [strs_of fun a => (⟨#[f a]⟩ : Str)]
    show (if ((l.map fun a => (⟨#[f a]⟩ : Str)).map (·.length)).sum + (l.map fun a => (⟨#[f a]⟩ : Str)).length * ("" : Str).length ≤ 16777216 then _ else _) = _
    have e0 : ("" : Str).length = 0 := by decide +kernel
    rw [sum_ones _ (fun x hx => by obtain ⟨a, _, rfl⟩ := List.mem_map.mp hx; rfl), e0, if_pos (by rw [List.length_map]; omega)]
  · have e : (Txt.join "" (l.map fun a => (⟨#[f a]⟩ : Str))).cps.toList = l.map f := by
      rw [TL.join_eq]
      have z := TL.tl_join "" (l.map fun a => (⟨#[f a]⟩ : Str))
      rw [show TL.tl "" = [] from by decide +kernel, joinL_nil, List.map_map] at z
      refine z.trans ?_
      clear z hl hf
      induction l with
      | nil => rfl
      | cons a l ih =>
        rw [List.map_cons, List.flatten_cons, ih, List.map_cons]
        rfl
    refine ⟨by rw [e, List.length_map]; exact hl, fun c hc => ?_⟩
    rw [e] at hc
    obtain ⟨a, ha, rfl⟩ := List.mem_map.mp hc
    exact hf a ha
theorem mulS_at (x : Str) (j : Nat) (h : ((2 : Int) ≤ (j : Int) ∧ (j : Int) ≤ 16777216 ∧ 1 ≤ x.length ∧ x.length * (j : Int).toNat ≤ 16777216 ∧ (repS x (j : Int).toNat).length ≤ 16777216)) : oMul (.str x) (.int j) = some (.str (repS x j)) := by
  unfold oMul
  dsimp only
  rw [if_pos h]
  rfl
/-- a good word, as data -/
def WoD (n : Nat) (d : D) : Prop := ∃ x, d = .str x ∧ Wo x n
theorem wo_lit {x : Str} {n : Nat} (h : (decide (x.cps.toList.length ≤ n) && x.cps.toList.all fun c => decide (c < 0x110000)) = true) : Wo x n := by
  rw [Bool.and_eq_true] at h
  exact ⟨of_decide_eq_true h.1, fun c hc => of_decide_eq_true (List.all_eq_true.mp h.2 c hc)⟩
theorem word_f (n m : Int) (S : List Cell) : ∃ x, fn_u_law_word [.d (.int n), .d (.int m)] S = .ok (.d (.str x)) S ∧ Wo x 30 := by
  let N : Option Val := some (.d (.int n))
  let M' : Option Val := some (.d (.int m))
  let G : Option Val := some (.d (.str SIG))
  have m10 := fmod_in n 10 (by decide)
  -- word
  let ix : D → Int := fun d => match d with
    | .int j => (n.fdiv 10 + m.fdiv 36 * j * j + 7 * j).fmod 36
    | _ => 0
  let js : List D := (List.range (n.fmod 10).toNat).map fun i : Nat => .int (0 + i)
  have c1 : dLc (itRng (dBin oMod (dVar 0) (dC (.int 10)))) (toName 7) (fun l => kTest (fun _ => M.ret true) (kPush l (dBin oIx (dVar 2) (dBin oMod (dBin oAdd (dBin oAdd (dBin oDiv (dVar 0) (dC (.int 10))) (dBin oMul (dBin oMul (dBin oDiv (dVar 1) (dC (.int 36))) (dVar 7)) (dVar 7))) (dBin oMul (dC (.int 7)) (dVar 7))) (dC (.int 36)))))) [7]
      [N, M', G, none, none, none, none, none] S = .ok (.d (.list (js.map fun d => .str ⟨#[sgn (ix d)]⟩))) S := by
    have it := itRng_at (f := dBin oMod (dVar 0) (dC (.int 10))) (ρ := [N, M', G, none, none, none, none, none]) (S := S) (S1 := S) (j := n.fmod 10) (dBin_at rfl rfl rfl rfl (mod_at _ _ (by decide))) ⟨by omega, by omega⟩
    rw [dLc_pure (ρ1 := fun d => [N, M', G, none, none, none, none, some (.d d)]) (p := fun _ => true) (v := fun d => .str ⟨#[sgn (ix d)]⟩) it (by simp; omega) (fun d _ => rfl) (fun d _ R => rfl) fun d hd _ R => ?_]
    · rw [filter_yes]
    · obtain ⟨i, hi, rfl⟩ := List.mem_map.mp hd
      have hi' := List.mem_range.mp hi
      have lj : lowI (0 + (i : Int)) = true := low_of (by omega) (by omega)
      have f36 := fmod_in (n.fdiv 10 + m.fdiv 36 * (0 + (i : Int)) * (0 + (i : Int)) + 7 * (0 + (i : Int))) 36 (by decide)
      exact dBin_at rfl (dBin_at (dBin_at (dBin_at (dBin_at rfl rfl rfl rfl (div_at _ _ (by decide) (by decide))) (dBin_at (dBin_at (dBin_at rfl rfl rfl rfl (div_at _ _ (by decide) (by decide))) rfl rfl rfl (mul_at _ _ (by rw [lj, Bool.or_true]))) rfl rfl rfl (mul_at _ _ (by rw [lj, Bool.or_true]))) rfl rfl (add_at _ _)) (dBin_at rfl rfl rfl rfl (mul_at _ _ (by rw [lj, Bool.or_true]))) rfl rfl (add_at _ _)) rfl rfl rfl (mod_at _ _ (by decide))) rfl rfl (sgn_in _ f36.1 f36.2).2
  obtain ⟨W, eW, wW⟩ := join_ones (fun d => sgn (ix d)) js (by simp [js]; omega) (fun d hd => by
    obtain ⟨i, hi, rfl⟩ := List.mem_map.mp hd
    have f36 := fmod_in (n.fdiv 10 + m.fdiv 36 * (0 + (i : Int)) * (0 + (i : Int)) + 7 * (0 + (i : Int))) 36 (by decide)
    exact sig_ok _ (sgn_in _ f36.1 f36.2).1)
  have wl : W.length ≤ 16777216 := by have := wW.len; rw [size_len] at this; omega
  have wl9 : W.length ≤ 9 := by have := wW.len; rw [size_len] at this; exact this
  have s1 : sSet 2 (dC (.str SIG)) [N, M', none, none, none, none, none, none] S = .nx [N, M', G, none, none, none, none, none] S := rfl
  have s2 : sSet 3 (dJoin (dC (.str "")) (dLc (itRng (dBin oMod (dVar 0) (dC (.int 10)))) (toName 7) (fun l => kTest (fun _ => M.ret true) (kPush l (dBin oIx (dVar 2) (dBin oMod (dBin oAdd (dBin oAdd (dBin oDiv (dVar 0) (dC (.int 10))) (dBin oMul (dBin oMul (dBin oDiv (dVar 1) (dC (.int 36))) (dVar 7)) (dVar 7))) (dBin oMul (dC (.int 7)) (dVar 7))) (dC (.int 36)))))) [7]))
      [N, M', G, none, none, none, none, none] S = .nx [N, M', G, some (.d (.str W)), none, none, none, none] S := by
    refine sSet_at (v := .d (.str W)) ?_
    show (dLc _ _ _ _ _ S).bind (on1 (oJoin "")) = _
    rw [c1]
    show on1 (oJoin "") (.d (.list _)) S = _
    exact on1_d _ _ _ _ eW
  let at_ : Int := m.fmod (W.length + 1)
  have fat := fmod_in m (W.length + 1) (by omega)
  let st : List D := [.str "A", .str " ", .str "_", .str "-", .str "\n", .str "\"", .str "'", .str "", .str "z", .str "0", .str ".", .str ":"]
  have s3 : sPar 4 5 (dCons (dBin oMod (dVar 1) (dBin oAdd (dFn1 oLen (dVar 3)) (dC (.int 1)))) (dCons (dLst (dCons (dC (.str "A")) (dCons (dC (.str " ")) (dCons (dC (.str "_")) (dCons (dC (.str "-")) (dCons (dC (.str "\n")) (dCons (dC (.str "\"")) (dCons (dC (.str "'")) (dCons (dC (.str "")) (dCons (dC (.str "z")) (dCons (dC (.str "0")) (dCons (dC (.str ".")) (dCons (dC (.str ":")) dNil))))))))))))) dNil))
      [N, M', G, some (.d (.str W)), none, none, none, none] S = .nx [N, M', G, some (.d (.str W)), some (.d (.int at_)), some (.d (.list st)), none, none] S := by
    have e1 : dCons (dBin oMod (dVar 1) (dBin oAdd (dFn1 oLen (dVar 3)) (dC (.int 1)))) (dCons (dLst (dCons (dC (.str "A")) (dCons (dC (.str " ")) (dCons (dC (.str "_")) (dCons (dC (.str "-")) (dCons (dC (.str "\n")) (dCons (dC (.str "\"")) (dCons (dC (.str "'")) (dCons (dC (.str "")) (dCons (dC (.str "z")) (dCons (dC (.str "0")) (dCons (dC (.str ".")) (dCons (dC (.str ":")) dNil))))))))))))) dNil) [N, M', G, some (.d (.str W)), none, none, none, none] S = .ok [.d (.int at_), .d (.list st)] S :=
      dCons_at (dBin_at rfl (dBin_at (dFn1_at rfl rfl (show oLen (.str W) = some (.int W.length) by show (if W.length ≤ 16777216 then _ else _) = _; rw [if_pos wl])) rfl rfl rfl (add_at _ _)) rfl rfl (mod_at _ _ (by omega))) (dCons_at (dLst_at rfl rfl (by decide)) rfl)
    show (dCons _ _ _ S).then_ _ _ = _
    rw [e1]
    rfl
  let ρ : Env' := [N, M', G, some (.d (.str W)), some (.d (.int at_)), some (.d (.list st)), none, none]
  have f12 := fmod_in (m.fdiv 10) 12 (by decide)
  obtain ⟨sd, hsd, esd⟩ := atI_in st ((m.fdiv 10).fmod 12) f12.1 (by simpa [st] using f12.2)
  obtain ⟨sx, rfl, wsx⟩ : WoD 1 sd := by
    simp only [st, List.mem_cons, List.not_mem_nil, or_false] at hsd
    rcases hsd with rfl | rfl | rfl | rfl | rfl | rfl | rfl | rfl | rfl | rfl | rfl | rfl <;> exact ⟨_, rfl, wo_lit (by decide +kernel)⟩
  let B : Str := L2.cutS W none (some at_) ++ sx ++ L2.cutS W (some at_) none
  have wB : Wo B 19 := ((wW.cut none (some at_)).app wsx).app (wW.cut (some at_) none)
  have ln : ∀ {x : Str} {k : Nat}, Wo x k → x.length ≤ k := fun {x k} h => by have := h.len; rw [size_len] at this; exact this
  have eB : dBin oAdd (dBin oAdd (dSl (dVar 3) pNone (pSome (dVar 4))) (dBin oIx (dVar 5) (dBin oMod (dBin oDiv (dVar 1) (dC (.int 10))) (dC (.int 12))))) (dSl (dVar 3) (pSome (dVar 4)) pNone) ρ S = .ok (.d (.str B)) S := by
    have w1 := ln (wW.cut none (some at_))
    have w2 := ln wsx
    have w3 := ln (wW.cut (some at_) none)
    have w4 := ln ((wW.cut none (some at_)).app wsx)
    have sl1 : dSl (dVar 3) pNone (pSome (dVar 4)) ρ S = .ok (.d (.str (L2.cutS W none (some at_)))) S := by
      show (match oSl (.str W) none (some at_) with | some c => Res.ok (Val.d c) S | none => Res.st) = _
      have z : oSl (.str W) none (some at_) = some (.str (L2.cutS W none (some at_))) := by show (if W.length ≤ 16777216 then _ else _) = _; rw [if_pos wl]
      rw [z]
    have sl2 : dSl (dVar 3) (pSome (dVar 4)) pNone ρ S = .ok (.d (.str (L2.cutS W (some at_) none))) S := by
      show (match oSl (.str W) (some at_) none with | some c => Res.ok (Val.d c) S | none => Res.st) = _
      have z : oSl (.str W) (some at_) none = some (.str (L2.cutS W (some at_) none)) := by show (if W.length ≤ 16777216 then _ else _) = _; rw [if_pos wl]
      rw [z]
    refine dBin_at (dBin_at sl1 (dBin_at rfl (dBin_at (dBin_at rfl rfl rfl rfl (div_at _ _ (by decide) (by decide))) rfl rfl rfl (mod_at _ _ (by decide))) rfl rfl esd) rfl rfl (c := .str (L2.cutS W none (some at_) ++ sx)) ?_) sl2 rfl rfl ?_
    · show (if _ + _ ≤ 16777216 then _ else _) = _
      rw [if_pos (by omega)]
    · show (if _ + _ ≤ 16777216 then _ else _) = _
      rw [if_pos (by omega)]
  let sm : List D := [.str W, .str B, .str "yes", .str "no", .str "yess", .str "num", .str "a", .str (repS "a" 8), .str (repS "a" 9)]
  have r8 : oMul (.str "a") (.int 8) = some (.str (repS "a" 8)) := mulS_at "a" 8 (by decide +kernel)
  have r9 : oMul (.str "a") (.int 9) = some (.str (repS "a" 9)) := mulS_at "a" 9 (by decide +kernel)
  have s4 : sSet 6 (dLst (dCons (dVar 3) (dCons (dBin oAdd (dBin oAdd (dSl (dVar 3) pNone (pSome (dVar 4))) (dBin oIx (dVar 5) (dBin oMod (dBin oDiv (dVar 1) (dC (.int 10))) (dC (.int 12))))) (dSl (dVar 3) (pSome (dVar 4)) pNone)) (dCons (dC (.str "yes")) (dCons (dC (.str "no")) (dCons (dC (.str "yess")) (dCons (dC (.str "num")) (dCons (dC (.str "a")) (dCons (dBin oMul (dC (.str "a")) (dC (.int 8))) (dCons (dBin oMul (dC (.str "a")) (dC (.int 9))) dNil)))))))))) ρ S
      = .nx (ρ.set 6 (some (.d (.list sm)))) S :=
    sSet_at (dLst_at (dCons_at rfl (dCons_at eB (dCons_at rfl (dCons_at rfl (dCons_at rfl (dCons_at rfl (dCons_at rfl (dCons_at (dBin_at rfl rfl rfl rfl r8) (dCons_at (dBin_at rfl rfl rfl rfl r9) rfl))))))))) (frzs_d sm S) (by show 9 ≤ 16777216; decide))
  have f120 := fmod_in (m.fdiv 120) 12 (by decide)
  let il : List D := [.int 0, .int 0, .int 0, .int 1, .int 1, .int 2, .int 3, .int 4, .int 5, .int 6, .int 7, .int 8]
  obtain ⟨ii, hii, eii⟩ := atI_in il ((m.fdiv 120).fmod 12) f120.1 (by simpa [il] using f120.2)
  obtain ⟨i, rfl, hi0, hi9⟩ : ∃ i : Int, ii = .int i ∧ 0 ≤ i ∧ i < 9 := by
    simp only [il, List.mem_cons, List.not_mem_nil, or_false] at hii
    rcases hii with rfl | rfl | rfl | rfl | rfl | rfl | rfl | rfl | rfl | rfl | rfl | rfl <;> exact ⟨_, rfl, by decide, by decide⟩
  obtain ⟨rd_, hrd, erd⟩ := atI_in sm i hi0 (by simpa [sm] using hi9)
  obtain ⟨x, rfl, wx⟩ : WoD 30 rd_ := by
    simp only [sm, List.mem_cons, List.not_mem_nil, or_false] at hrd
    rcases hrd with rfl | rfl | rfl | rfl | rfl | rfl | rfl | rfl | rfl
    · exact ⟨_, rfl, wW.le (by decide)⟩
    · exact ⟨_, rfl, wB.le (by decide)⟩
    all_goals exact ⟨_, rfl, wo_lit (by decide +kernel)⟩
  refine ⟨x, ?_, wx⟩
  have s5 : body_u_law_word [N, M', none, none, none, none, none, none] S = .rt (.d (.str x)) S := by
    unfold body_u_law_word
    rw [sSeq_nx s1, sSeq_nx s2, sSeq_nx s3, sSeq_nx s4]
    exact sRet_at (dBin_at rfl (dBin_at (dLst_at rfl rfl (by decide)) (dBin_at (dBin_at rfl rfl rfl rfl (div_at _ _ (by decide) (by decide))) rfl rfl rfl (mod_at _ _ (by decide))) rfl rfl eii) rfl rfl erd)
  have z := body_rt (np := 2) (nl := 8) (b := body_u_law_word) (as := [.d (.int n), .d (.int m)]) (S := S) rfl s5
  rw [show fn_u_law_word = bodyFn 2 8 body_u_law_word from rfl, z, List.take_length]
end K01
set_option maxRecDepth 100000
set_option maxHeartbeats 1000000
namespace K01
open PySem PySem.Spec PyProof.Rows L2 Zz
/-! ### rows -/
theorem sFor_at' {it : Env' → M (List D)} {g : Tg} {b : SD} {ρ : Env'} {S S1 : List Cell} {ds : List D} (h : it ρ S = .ok ds S1) : sFor it g b ρ S = forGo g b ds ρ S1 := by
  show (it ρ S).then_ ρ _ = _
  rw [h]
  rfl
def RowOk (d : D) : Prop := ∃ h ws, d = .tuple [.str h, .tuple ws] ∧ Wo h 5 ∧ ws.length ≤ 5 ∧ ∀ w ∈ ws, WoD 5 w
abbrev W17 : List D := [.str "a", .str "b", .str "c", .str "d", .str "e1", .str "e2", .str "e3", .str "e4", .str "x", .str "jobs", .str "set", .str "one", .str "some", .str "map", .str "yes1", .str "no2", .str "z9"]
abbrev W18 : List D := W17 ++ [.str "q"]
theorem w18_ok : ∀ d ∈ W18, WoD 5 d := fun d hd => by
  simp only [W18, W17, List.cons_append, List.nil_append, List.mem_cons, List.not_mem_nil, or_false] at hd
  rcases hd with rfl | rfl | rfl | rfl | rfl | rfl | rfl | rfl | rfl | rfl | rfl | rfl | rfl | rfl | rfl | rfl | rfl | rfl <;> exact ⟨_, rfl, wo_lit (by decide +kernel)⟩
def wd (i : Int) : D := W18.getD i.toNat .none
theorem wd_at (i : Int) (h0 : 0 ≤ i) (h1 : i < 18) : oIx (.list W18) (.int i) = some (wd i) ∧ WoD 5 (wd i) := by
  obtain ⟨j, rfl⟩ := Int.eq_ofNat_of_zero_le h0
  have hj : j < W18.length := by show j < 18; omega
  have e : wd (j : Int) = W18[j] := by
    unfold wd
    rw [Int.toNat_natCast, List.getD_eq_getElem?_getD, List.getElem?_eq_getElem hj]
    rfl
  refine ⟨?_, by rw [e]; exact w18_ok _ (List.getElem_mem hj)⟩
  show atI W18 (j : Int) = _
  rw [atI_nat (List.getElem?_eq_getElem hj), e]
abbrev cellC : Env' → M Val := dCall fn_u_law_cell (dCons (dVar 0) (dCons (dVar 1) dNil))
abbrev lcOwn : Env' → M Val := dLc (itRng (dBin oIx (dLst (dCons (dC (.int 1)) (dCons (dC (.int 2)) (dCons (dC (.int 3)) (dCons (dC (.int 4)) (dCons (dC (.int 5)) (dCons (dC (.int 0)) (dCons (dC (.int 2)) (dCons (dC (.int 2)) dNil))))))))) (dBin oMod (dBin oDiv (dVar 6) (dC (.int 18))) (dC (.int 8))))) (toName 8) (fun l => kTest (fun _ => M.ret true) (kPush l (dBin oIx (dVar 4) (dBin oMod (dBin oAdd (dBin oAdd (dVar 6) (dBin oMul (dC (.int 5)) (dVar 8))) (dBin oMul (dC (.int 7)) (dVar 5))) (dC (.int 18)))))) [8]
abbrev apRow : Env' → M Val := dApp (dVar 3) (dTup (dCons (dBin oIx (dVar 4) (dBin oMod (dBin oAdd (dBin oDiv (dVar 6) (dC (.int 144))) (dVar 5)) (dC (.int 18)))) (dCons (dFn1 oTuple (dVar 7)) dNil)))
abbrev rowTurn : SD := (sSeq (sSet 6 cellC) (sSeq (sSet 7 lcOwn) (sExpr apRow)))
theorem dApp_at {f g : Env' → M Val} {ρ : Env'} {S S1 S2 T : List Cell} {l : Nat} {d : D} (hf : f ρ S = .ok (.c l) S1) (hi : isLst S1 (.c l) = true) (hg : g ρ S1 = .ok (.d d) S2) (hp : push l d S2 = some T) : dApp f g ρ S = .ok (.d .none) T := by
  show (f ρ S).bind _ = _
  rw [hf]
  show (if isLst S1 (.c l) = true then (g ρ S1).bind (fun y => appM (.c l) y) else .st) = _
  rw [if_pos hi, hg]
  show (match push l d S2 with | some T => Res.ok (Val.d .none) T | none => Res.st) = _
  rw [hp]
theorem row_turn (ns : List Int) (h63 : ns.length ≤ 63) (n o6 o7 o8 : Option Val) (i : Nat) (hi : i < 5) (k0 : Int) (hk0 : 0 ≤ k0) (hk1 : k0 < 1000000) (acc : List D) (ha : acc.length ≤ 1000) :
    ∃ a6 a7 r, rowTurn [some (.d (.list (intsD ns))), some (.c 0), n, some (.c 1), some (.c 2), some (.d (.int (0 + (i : Int)))), o6, o7, o8] [.lst [.int k0], .lst acc, .lst W18]
      = .nx [some (.d (.list (intsD ns))), some (.c 0), n, some (.c 1), some (.c 2), some (.d (.int (0 + (i : Int)))), a6, a7, o8] [.lst [.int (k0 + 1)], .lst (acc ++ [r]), .lst W18] ∧ RowOk r := by
  obtain ⟨m, em⟩ := cell_f ns h63 k0 hk0 hk1 [.lst acc, .lst W18]
  let S : List Cell := [.lst [.int (k0 + 1)], .lst acc, .lst W18]
  let C0 : Option Val := some (.d (.list (intsD ns)))
  let I : Option Val := some (.d (.int (0 + (i : Int))))
  let M' : Option Val := some (.d (.int m))
  have s1 : sSet 6 cellC [C0, some (.c 0), n, some (.c 1), some (.c 2), I, o6, o7, o8] [.lst [.int k0], .lst acc, .lst W18] = .nx [C0, some (.c 0), n, some (.c 1), some (.c 2), I, M', o7, o8] S :=
    sSet_at ((dCall_at (dCons_at rfl (dCons_at rfl rfl))).trans em)
  have li : lowI (0 + (i : Int)) = true := low_of (by omega) (by omega)
  have f8 := fmod_in (m.fdiv 18) 8 (by decide)
  let sz : List D := [.int 1, .int 2, .int 3, .int 4, .int 5, .int 0, .int 2, .int 2]
  obtain ⟨zz, hzz, ezz⟩ := atI_in sz ((m.fdiv 18).fmod 8) f8.1 (by simpa [sz] using f8.2)
  obtain ⟨q, rfl, hq0, hq5⟩ : ∃ q : Int, zz = .int q ∧ 0 ≤ q ∧ q ≤ 5 := by
    simp only [sz, List.mem_cons, List.not_mem_nil, or_false] at hzz
    rcases hzz with rfl | rfl | rfl | rfl | rfl | rfl | rfl | rfl <;> exact ⟨_, rfl, by decide, by decide⟩
  let ix : D → Int := fun d => match d with
    | .int j => (m + 5 * j + 7 * (0 + (i : Int))).fmod 18
    | _ => 0
  let js : List D := (List.range q.toNat).map fun i : Nat => .int (0 + i)
  have c1 : lcOwn [C0, some (.c 0), n, some (.c 1), some (.c 2), I, M', o7, o8] S = .ok (.d (.list (js.map fun d => wd (ix d)))) S := by
    have it := itRng_at (f := dBin oIx (dLst (dCons (dC (.int 1)) (dCons (dC (.int 2)) (dCons (dC (.int 3)) (dCons (dC (.int 4)) (dCons (dC (.int 5)) (dCons (dC (.int 0)) (dCons (dC (.int 2)) (dCons (dC (.int 2)) dNil))))))))) (dBin oMod (dBin oDiv (dVar 6) (dC (.int 18))) (dC (.int 8)))) (ρ := [C0, some (.c 0), n, some (.c 1), some (.c 2), I, M', o7, o8]) (S := S) (S1 := S) (j := q)
      (dBin_at (dLst_at rfl rfl (by decide)) (dBin_at (dBin_at rfl rfl rfl rfl (div_at _ _ (by decide) (by decide))) rfl rfl rfl (mod_at _ _ (by decide))) rfl rfl ezz) ⟨by omega, by omega⟩
    refine (dLc_pure (ρ1 := fun d => [C0, some (.c 0), n, some (.c 1), some (.c 2), I, M', o7, some (.d d)]) (p := fun _ => true) (v := fun d => wd (ix d)) it (by simp; omega) (fun d _ => rfl) (fun d _ R => rfl) fun d hd _ R => ?_).trans ?_
    · obtain ⟨j, hj, rfl⟩ := List.mem_map.mp hd
      have hj' := List.mem_range.mp hj
      have lj : lowI (0 + (j : Int)) = true := low_of (by omega) (by omega)
      have f18 := fmod_in (m + 5 * (0 + (j : Int)) + 7 * (0 + (i : Int))) 18 (by decide)
      exact dBin_at rfl (dBin_at (dBin_at (dBin_at rfl (dBin_at rfl rfl rfl rfl (mul_at _ _ (by rw [lj, Bool.or_true]))) rfl rfl (add_at _ _)) (dBin_at rfl rfl rfl rfl (mul_at _ _ (by rw [li, Bool.or_true]))) rfl rfl (add_at _ _)) rfl rfl rfl (mod_at _ _ (by decide))) rfl rfl (wd_at _ f18.1 f18.2).1
    · rw [filter_yes]
  let ws : List D := js.map fun d => wd (ix d)
  have f18 := fmod_in (m.fdiv 144 + (0 + (i : Int))) 18 (by decide)
  obtain ⟨hx, eh, wh⟩ := (wd_at _ f18.1 f18.2).2
  have e0 := (wd_at _ f18.1 f18.2).1
  rw [eh] at e0
  let r : D := .tuple [.str hx, .tuple ws]
  have s3 : sExpr apRow [C0, some (.c 0), n, some (.c 1), some (.c 2), I, M', some (.d (.list ws)), o8] S = .nx [C0, some (.c 0), n, some (.c 1), some (.c 2), I, M', some (.d (.list ws)), o8] [.lst [.int (k0 + 1)], .lst (acc ++ [r]), .lst W18] := by
    refine sExpr_at (dApp_at (l := 1) (d := r) (S1 := S) (S2 := S) rfl rfl (dTup_at (dCons_at (dBin_at rfl (dBin_at (dBin_at (dBin_at rfl rfl rfl rfl (div_at _ _ (by decide) (by decide))) rfl rfl rfl (add_at _ _)) rfl rfl rfl (mod_at _ _ (by decide))) rfl rfl e0) (dCons_at (dFn1_at rfl rfl rfl) rfl)) rfl (by show 2 ≤ 16777216; decide)) ?_)
    show (if acc.length < 16777216 then some _ else none) = _
    rw [if_pos (by omega)]
    rfl
  refine ⟨_, _, r, (sSeq_nx s1).trans ((sSeq_nx (sSet_at c1)).trans s3), hx, ws, rfl, wh, ?_, fun w hw => ?_⟩
  · simp [ws, js]; omega
  · obtain ⟨d, hd, rfl⟩ := List.mem_map.mp hw
    obtain ⟨j, hj, rfl⟩ := List.mem_map.mp hd
    have f18 := fmod_in (m + 5 * (0 + (j : Int)) + 7 * (0 + (i : Int))) 18 (by decide)
    exact (wd_at _ f18.1 f18.2).2
theorem row_loop (ns : List Int) (h63 : ns.length ≤ 63) (n o8 : Option Val) : ∀ (is : List Nat), (∀ i ∈ is, i < 5) → ∀ (o5 o6 o7 : Option Val) (k0 : Int), 0 ≤ k0 → k0 + is.length < 1000000 → ∀ acc : List D, acc.length + is.length ≤ 1000 →
    ∃ a5 a6 a7 rs, forGo (toName 5) rowTurn (is.map fun i : Nat => .int (0 + i)) [some (.d (.list (intsD ns))), some (.c 0), n, some (.c 1), some (.c 2), o5, o6, o7, o8] [.lst [.int k0], .lst acc, .lst W18]
      = .nx [some (.d (.list (intsD ns))), some (.c 0), n, some (.c 1), some (.c 2), a5, a6, a7, o8] [.lst [.int (k0 + is.length)], .lst (acc ++ rs), .lst W18] ∧ rs.length = is.length ∧ ∀ r ∈ rs, RowOk r
  | [], _, o5, o6, o7, k0, _, _, acc, _ => ⟨o5, o6, o7, [], by simp [forGo, sNil], rfl, by simp⟩
  | i :: is, hi, o5, o6, o7, k0, h0, h1, acc, ha => by
    rw [List.length_cons] at h1 ha
    obtain ⟨a6, a7, r, e, hr⟩ := row_turn ns h63 n o6 o7 o8 i (hi i List.mem_cons_self) k0 h0 (by omega) acc (by omega)
    obtain ⟨b5, b6, b7, rs, e2, hl, hrs⟩ := row_loop ns h63 n o8 is (fun j hj => hi j (List.mem_cons_of_mem _ hj)) (some (.d (.int (0 + (i : Int))))) a6 a7 (k0 + 1) (by omega) (by omega) (acc ++ [r]) (by rw [List.length_append, List.length_singleton]; omega)
    refine ⟨b5, b6, b7, r :: rs, ?_, by rw [List.length_cons, List.length_cons, hl], fun x hx => ?_⟩
    · show (match rowTurn [some (.d (.list (intsD ns))), some (.c 0), n, some (.c 1), some (.c 2), some (.d (.int (0 + (i : Int)))), o6, o7, o8] [.lst [.int k0], .lst acc, .lst W18] with | .nx ρ2 S2 => forGo (toName 5) rowTurn (is.map fun i : Nat => .int (0 + i)) ρ2 S2 | .ct ρ2 S2 => forGo (toName 5) rowTurn (is.map fun i : Nat => .int (0 + i)) ρ2 S2 | .bk ρ2 S2 => .nx ρ2 S2 | .rt v S2 => .rt v S2 | .ex x ρ2 S2 => .ex x ρ2 S2 | .st => .st) = _
      rw [e]
      refine e2.trans ?_
      rw [List.append_assoc, List.length_cons]
      have z : k0 + 1 + (is.length : Int) = k0 + ((is.length + 1 : Nat) : Int) := by omega
      rw [z]
      rfl
    · rcases List.mem_cons.mp hx with rfl | hx
      · exact hr
      · exact hrs x hx
theorem rows_f (ns : List Int) (h63 : ns.length ≤ 63) (k0 : Int) (hk0 : 0 ≤ k0) (hk1 : k0 < 900000) : ∃ rows k1, fn_u_law_rows [.d (.list (intsD ns)), .c 0] [.lst [.int k0]] = .ok (.d (.tuple rows)) [.lst [.int k1]] ∧ k0 ≤ k1 ∧ k1 ≤ k0 + 6 ∧ rows.length ≤ 4 ∧ ∀ r ∈ rows, RowOk r := by
  obtain ⟨n, en⟩ := cell_f ns h63 k0 hk0 (by omega) []
  let C0 : Option Val := some (.d (.list (intsD ns)))
  let N : Option Val := some (.d (.int n))
  have f5 := fmod_in n 5 (by decide)
  have s1 : sPar 2 3 (dCons cellC (dCons (dLstC dNil) dNil)) [C0, some (.c 0), none, none, none, none, none, none, none] [.lst [.int k0]] = .nx [C0, some (.c 0), N, some (.c 1), none, none, none, none, none] [.lst [.int (k0 + 1)], .lst []] := by
    have e1 : dCons cellC (dCons (dLstC dNil) dNil) [C0, some (.c 0), none, none, none, none, none, none, none] [.lst [.int k0]] = .ok [.d (.int n), .c 1] [.lst [.int (k0 + 1)], .lst []] :=
      dCons_at ((dCall_at (dCons_at rfl (dCons_at rfl rfl))).trans en) rfl
    show (dCons _ _ _ _).then_ _ _ = _
    rw [e1]
    rfl
  have s2 : sSet 4 (dLstC (dCons (dC (.str "a")) (dCons (dC (.str "b")) (dCons (dC (.str "c")) (dCons (dC (.str "d")) (dCons (dC (.str "e1")) (dCons (dC (.str "e2")) (dCons (dC (.str "e3")) (dCons (dC (.str "e4")) (dCons (dC (.str "x")) (dCons (dC (.str "jobs")) (dCons (dC (.str "set")) (dCons (dC (.str "one")) (dCons (dC (.str "some")) (dCons (dC (.str "map")) (dCons (dC (.str "yes1")) (dCons (dC (.str "no2")) (dCons (dC (.str "z9")) dNil))))))))))))))))))
      [C0, some (.c 0), N, some (.c 1), none, none, none, none, none] [.lst [.int (k0 + 1)], .lst []] = .nx [C0, some (.c 0), N, some (.c 1), some (.c 2), none, none, none, none] [.lst [.int (k0 + 1)], .lst [], .lst W17] := rfl
  have s3 : sExpr (dApp (dVar 4) (dC (.str "q"))) [C0, some (.c 0), N, some (.c 1), some (.c 2), none, none, none, none] [.lst [.int (k0 + 1)], .lst [], .lst W17] = .nx [C0, some (.c 0), N, some (.c 1), some (.c 2), none, none, none, none] [.lst [.int (k0 + 1)], .lst [], .lst W18] :=
    sExpr_at (dApp_at (l := 2) (d := .str "q") rfl rfl rfl rfl)
  obtain ⟨a5, a6, a7, rs, el, hl, hr⟩ := row_loop ns h63 N none (List.range (n.fmod 5).toNat) (fun i hi => by have := List.mem_range.mp hi; omega) none none none (k0 + 1) (by omega) (by rw [List.length_range]; omega) [] (by rw [List.length_nil, List.length_range]; omega)
  rw [List.length_range] at el hl
  have s4 : sFor (itRng (dBin oMod (dVar 2) (dC (.int 5)))) (toName 5) rowTurn [C0, some (.c 0), N, some (.c 1), some (.c 2), none, none, none, none] [.lst [.int (k0 + 1)], .lst [], .lst W18] = .nx [C0, some (.c 0), N, some (.c 1), some (.c 2), a5, a6, a7, none] [.lst [.int (k0 + 1 + (n.fmod 5).toNat)], .lst rs, .lst W18] := by
    refine (sFor_at' (itRng_at (j := n.fmod 5) (dBin_at rfl rfl rfl rfl (mod_at _ _ (by decide))) ⟨by omega, by omega⟩)).trans ?_
    exact el
  have key : body_u_law_rows [C0, some (.c 0), none, none, none, none, none, none, none] [.lst [.int k0]] = .rt (.d (.tuple rs)) [.lst [.int (k0 + 1 + (n.fmod 5).toNat)], .lst rs, .lst W18] := by
    unfold body_u_law_rows
    rw [sSeq_nx s1, sSeq_nx s2, sSeq_nx s3, sSeq_nx s4]
    exact sRet_at (dFn1_at rfl rfl rfl)
  refine ⟨rs, k0 + 1 + (n.fmod 5).toNat, ?_, by omega, by omega, by omega, hr⟩
  have z := body_rt (np := 2) (nl := 9) (b := body_u_law_rows) (as := [.d (.list (intsD ns)), .c 0]) (S := [.lst [.int k0]]) rfl key
  rw [show fn_u_law_rows = bodyFn 2 9 body_u_law_rows from rfl, z]
  rfl
end K01
set_option maxRecDepth 100000
set_option maxHeartbeats 1000000
namespace K01
open PySem PySem.Spec PyProof.Rows L2 Zz
/-! ### small data -/
def Tid0 (d : D) : Prop := d = .none ∨ (∃ b, d = .bool b) ∨ d = .int 5 ∨ ∃ x : Str, d = .str x ∧ x.cps.toList.length ≤ 30 ∧ ∀ c ∈ x.cps.toList, c < 0x110000
def Tidy : Nat → D → Prop
  | 0, d => Tid0 d
  | n + 1, d => Tid0 d ∨ ∃ l : List D, (d = .list l ∨ d = .tuple l) ∧ l.length ≤ 10 ∧ ∀ x ∈ l, Tidy n x
theorem Tidy.of0 {d : D} (h : Tid0 d) : ∀ n, Tidy n d
  | 0 => h
  | _ + 1 => .inl h
theorem Tidy.up : ∀ {n : Nat} {d : D}, Tidy n d → Tidy (n + 1) d
  | 0, _, h => .inl h
  | _ + 1, _, .inl h => .inl h
  | _ + 1, _, .inr ⟨l, e, hl, h⟩ => .inr ⟨l, e, hl, fun x hx => Tidy.up (h x hx)⟩
theorem Tidy.le {n : Nat} {d : D} (h : Tidy n d) : ∀ {m : Nat}, n ≤ m → Tidy m d := fun {m} q => by
  induction m with
  | zero => cases Nat.le_zero.mp q; exact h
  | succ m ih =>
    rcases Nat.lt_or_ge n (m + 1) with z | z
    · exact (ih (by omega)).up
    · have : n = m + 1 := by omega
      rw [← this]; exact h
theorem Tidy.tup {n : Nat} {l : List D} (hl : l.length ≤ 10) (h : ∀ x ∈ l, Tidy n x) : Tidy (n + 1) (.tuple l) := .inr ⟨l, .inr rfl, hl, h⟩
theorem Tidy.lst {n : Nat} {l : List D} (hl : l.length ≤ 10) (h : ∀ x ∈ l, Tidy n x) : Tidy (n + 1) (.list l) := .inr ⟨l, .inl rfl, hl, h⟩
def Bd : Nat → Nat
  | 0 => 320
  | n + 1 => 10 * Bd n + 30
/-- what the pieces ask, all at once -/
structure Fit (n : Nat) (d : D) : Prop where
  fine : fineB d = true
  lay : d.canLay0 = true
  dep : d.depth ≤ n
  shw : d.showable = true
  nod : d.hasDict = false
  len : d.shown.length ≤ Bd n
theorem fineAll_of : ∀ {l : List D}, (∀ x ∈ l, fineB x = true) → fineAll l = true
  | [], _ => rfl
  | x :: l, h => by
    rw [fineAll, h x List.mem_cons_self, fineAll_of fun y hy => h y (List.mem_cons_of_mem _ hy)]
    rfl
theorem showAll_of : ∀ {l : List D}, (∀ x ∈ l, x.showable = true) → PyData.showableAll l = true
  | [], _ => rfl
  | x :: l, h => by
    rw [PyData.showableAll, h x List.mem_cons_self, showAll_of fun y hy => h y (List.mem_cons_of_mem _ hy)]
    rfl
theorem dictAll_of : ∀ {l : List D}, (∀ x ∈ l, x.hasDict = false) → PyData.hasDictAll l = false
  | [], _ => rfl
  | x :: l, h => by
    rw [PyData.hasDictAll, h x List.mem_cons_self, dictAll_of fun y hy => h y (List.mem_cons_of_mem _ hy)]
    rfl
theorem lens_of {b : Nat} : ∀ {l : List D}, (∀ x ∈ l, x.shown.length ≤ b) → ((PyData.shownAll l).map (·.length)).sum ≤ b * l.length ∧ (PyData.shownAll l).length = l.length
  | [], _ => by rw [PyData.shownAll]; exact ⟨Nat.zero_le _, rfl⟩
  | x :: l, h => by
    have h1 := h x List.mem_cons_self
    obtain ⟨h2, h3⟩ := lens_of fun y hy => h y (List.mem_cons_of_mem _ hy)
    rw [PyData.shownAll, List.map_cons, List.sum_cons, List.length_cons, List.length_cons, h3]
    refine ⟨?_, rfl⟩
    rw [Nat.mul_succ]
    omega
theorem fit0 {d : D} (h : Tid0 d) (n : Nat) : Fit n d := by
  have mono : ∀ n, 320 ≤ Bd n := fun n => by induction n with | zero => exact Nat.le_refl _ | succ n ih => show _ ≤ 10 * Bd n + 30; omega
  have bn := mono n
  rcases h with rfl | ⟨b, rfl⟩ | rfl | ⟨x, rfl, h1, h2⟩
  · exact ⟨rfl, rfl, Nat.zero_le _, rfl, rfl, Nat.le_trans (by decide +kernel) bn⟩
  · exact ⟨rfl, rfl, Nat.zero_le _, rfl, rfl, Nat.le_trans (by cases b <;> decide +kernel) bn⟩
  · exact ⟨rfl, rfl, Nat.zero_le _, by decide +kernel, rfl, Nat.le_trans (by decide +kernel) bn⟩
  · have hl : x.length ≤ 30 := by rw [← size_len]; exact h1
    have ok : PyData.strOk x = true := by
      unfold PyData.strOk
      rw [← Array.all_toList]
      exact List.all_eq_true.mpr fun c hc => decide_eq_true (h2 c hc)
    refine ⟨?_, ?_, Nat.zero_le _, rfl, rfl, ?_⟩
    · rw [fineB, ok, decide_eq_true (by omega)]; rfl
    · rw [PyData.canLay0]; exact ok
    · rw [PyData.shown]
      have z := StrLaws.reprText_len x fun c hc => Nat.lt_trans (h2 c hc) (by decide)
      omega
theorem fit_of : ∀ {n : Nat} {d : D}, Tidy n d → Fit n d
  | 0, _, h => fit0 h 0
  | n + 1, _, .inl h => fit0 h _
  | n + 1, _, .inr ⟨l, e, hl, h⟩ => by
    have f : ∀ x ∈ l, Fit n x := fun x hx => fit_of (h x hx)
    have f1 := fineAll_of fun x hx => (f x hx).fine
    have f2 := lay_of fun x hx => (f x hx).lay
    have f3 := depth_of (n := n) fun x hx => (f x hx).dep
    have f4 := showAll_of fun x hx => (f x hx).shw
    have f5 := dictAll_of fun x hx => (f x hx).nod
    obtain ⟨f6, f7⟩ := lens_of fun x hx => (f x hx).len
    have f8 : Bd n * l.length ≤ Bd n * 10 := Nat.mul_le_mul_left _ hl
    rcases e with rfl | rfl
    · refine ⟨by rw [fineB]; exact f1, by rw [PyData.canLay0]; exact f2, by rw [PyData.depth]; omega, by rw [PyData.showable]; exact f4, by rw [PyData.hasDict]; exact f5, ?_⟩
      rw [PyData.shown]
      have z := listText_len_le (PyData.shownAll l)
      show _ ≤ 10 * Bd n + 30
      omega
    · refine ⟨by rw [fineB]; exact f1, by rw [PyData.canLay0]; exact f2, by rw [PyData.depth]; omega, by rw [PyData.showable]; exact f4, by rw [PyData.hasDict]; exact f5, ?_⟩
      rw [PyData.shown]
      have z := tupleText_len_le (PyData.shownAll l)
      show _ ≤ 10 * Bd n + 30
      omega
theorem Fit.repr {n : Nat} {d : D} (h : Fit n d) (hn : n ≤ 4) : oRepr d = some (.str d.shown) := by
  have hb : Bd n ≤ 16777216 := by
    have : ∀ n, n ≤ 4 → Bd n ≤ 16777216 := by decide
    exact this n hn
  have hl := h.len
  have hd := h.dep
  unfold oRepr
  rw [if_pos]
  rw [h.shw, h.nod, decide_eq_true (by omega), decide_eq_true (by omega)]
  rfl
end K01
set_option maxRecDepth 100000
set_option maxHeartbeats 1000000
namespace K01
open PySem PySem.Spec PyProof.Rows L2 Zz
/-! ### bent carriers -/
theorem tid_str {x : Str} {n : Nat} (h : Wo x n) (hn : n ≤ 30) : Tid0 (.str x) := .inr (.inr (.inr ⟨x, rfl, Nat.le_trans h.len hn, h.ok⟩))
theorem tid_wod {d : D} {n : Nat} (h : WoD n d) (hn : n ≤ 30) : Tid0 d := by
  obtain ⟨x, rfl, hx⟩ := h
  exact tid_str hx hn
theorem row_tidy {d : D} (h : RowOk d) : Tidy 2 d := by
  obtain ⟨x, ws, rfl, hx, hl, hw⟩ := h
  refine Tidy.tup (by simp) fun e he => ?_
  simp only [List.mem_cons, List.not_mem_nil, or_false] at he
  rcases he with rfl | rfl
  · exact Tidy.of0 (tid_str hx (by decide)) 1
  · exact Tidy.tup (by omega) fun w hw' => tid_wod (hw w hw') (by decide)
theorem cutD_sub (xs : List D) (lo hi : Option Int) : (Zz.cutD xs lo hi).length ≤ xs.length ∧ ∀ x ∈ Zz.cutD xs lo hi, x ∈ xs := by
  unfold Zz.cutD
  refine ⟨?_, fun x hx => List.mem_of_mem_drop (List.mem_of_mem_take hx)⟩
  rw [List.length_take, List.length_drop]
  omega
theorem lit0 {x : Str} (h : (decide (x.cps.toList.length ≤ 30) && x.cps.toList.all fun c => decide (c < 0x110000)) = true) : Tid0 (.str x) := tid_str (wo_lit (n := 30) h) (Nat.le_refl _)
def Itm (d : D) : Prop := Tidy 4 d ∨ d = .dict []
abbrev oddL : List D := [.none, .int 5, .bool true, .str "", .str "A", .tuple [], .list [], .str "a", .str "yes", .tuple [.str "a"]]
theorem odd_ok : ∀ d ∈ oddL, Tidy 1 d := fun d hd => by
  simp only [oddL, List.mem_cons, List.not_mem_nil, or_false] at hd
  rcases hd with rfl | rfl | rfl | rfl | rfl | rfl | rfl | rfl | rfl | rfl
  · exact Tidy.of0 (.inl rfl) 1
  · exact Tidy.of0 (.inr (.inr (.inl rfl))) 1
  · exact Tidy.of0 (.inr (.inl ⟨_, rfl⟩)) 1
  · exact Tidy.of0 (lit0 (by decide +kernel)) 1
  · exact Tidy.of0 (lit0 (by decide +kernel)) 1
  · exact Tidy.tup (by simp) (by simp)
  · exact Tidy.lst (by simp) (by simp)
  · exact Tidy.of0 (lit0 (by decide +kernel)) 1
  · exact Tidy.of0 (lit0 (by decide +kernel)) 1
  · exact Tidy.tup (by simp) (by simp; exact lit0 (by decide +kernel))
theorem tA : Tid0 (.str "a") := lit0 (by decide +kernel)
theorem addT (x y : List D) (h : x.length + y.length ≤ 16777216) : oAdd (.tuple x) (.tuple y) = some (.tuple (x ++ y)) := by
  unfold oAdd
  dsimp only
  rw [if_pos h]
theorem bent_f (n : Int) (rows : List D) (hl : rows.length ≤ 4) (hr : ∀ r ∈ rows, RowOk r) (c : Cell) : ∃ d, fn_u_law_bent [.d (.int n), .d (.tuple rows)] [c] = .ok (.d d) [c] ∧ Itm d := by
  have tr : Tidy 3 (.tuple rows) := Tidy.tup (by omega) fun r h => row_tidy (hr r h)
  have fr := fit_of tr
  let N : Option Val := some (.d (.int n))
  let Ro : Option Val := some (.d (.tuple rows))
  have f10 := fmod_in n 10 (by decide)
  obtain ⟨odd, ho, eo⟩ := atI_in oddL (n.fmod 10) f10.1 (by simpa [oddL] using f10.2)
  have to := odd_ok odd ho
  have s1 : sSet 2 (dBin oIx (dLst (dCons (dC (.none)) (dCons (dC (.int 5)) (dCons (dC (.bool true)) (dCons (dC (.str "")) (dCons (dC (.str "A")) (dCons (dTup dNil) (dCons (dLst dNil) (dCons (dC (.str "a")) (dCons (dC (.str "yes")) (dCons (dTup (dCons (dC (.str "a")) dNil)) dNil))))))))))) (dBin oMod (dVar 0) (dC (.int 10)))) [N, Ro, none, none, none, none, none, none] [c] = .nx [N, Ro, some (.d odd), none, none, none, none, none] [c] :=
    sSet_at (dBin_at (x := .list oddL) rfl (dBin_at rfl rfl rfl rfl (mod_at _ _ (by decide))) rfl rfl eo)
  have eqe : oEq (.tuple rows) (.tuple []) = some (.bool rows.isEmpty) := by
    have h1 : SeqAt.shaped (.tuple rows) = true := by
      unfold SeqAt.shaped
      have := fr.dep
      rw [fr.lay, decide_eq_true (by omega)]; rfl
    have h2 : SeqAt.shaped (.tuple []) = true := by decide +kernel
    unfold oEq eqD
    simp [flatD, h1, h2]
    cases rows <;> rfl
  have t1 : toB (dBin oEq (dVar 1) (dTup dNil)) [N, Ro, some (.d odd), none, none, none, none, none] [c] = .ok rows.isEmpty [c] := toB_at (dBin_at rfl rfl rfl rfl eqe)
  have fin : ∀ {d : D} {T : List Cell}, body_u_law_bent [N, Ro, none, none, none, none, none, none] [c] = .rt (.d d) (c :: T) → fn_u_law_bent [.d (.int n), .d (.tuple rows)] [c] = .ok (.d d) [c] := fun {d T} h => by
    have z := body_rt (np := 2) (nl := 8) (b := body_u_law_bent) (as := [.d (.int n), .d (.tuple rows)]) (S := [c]) rfl h
    rw [show fn_u_law_bent = bodyFn 2 8 body_u_law_bent from rfl, z]
    rfl
  cases he : rows.isEmpty with
  | true =>
    rw [he] at t1
    let ol : List D := [.tuple [], .list [], .none, .tuple [odd], .tuple [.tuple [odd, .tuple [.str "a"]]], .dict []]
    have f6 := fmod_in (n.fdiv 10) 6 (by decide)
    obtain ⟨d, hd, ed⟩ := atI_in ol ((n.fdiv 10).fmod 6) f6.1 (by simpa [ol] using f6.2)
    refine ⟨d, fin (T := []) ?_, ?_⟩
    · unfold body_u_law_bent
      rw [sSeq_nx s1]
      refine sSeq_rt ((sIf_t t1).trans ?_)
      exact sRet_at (dBin_at (x := .list ol) rfl (dBin_at (dBin_at rfl rfl rfl rfl (div_at _ _ (by decide) (by decide))) rfl rfl rfl (mod_at _ _ (by decide))) rfl rfl ed)
    · simp only [ol, List.mem_cons, List.not_mem_nil, or_false] at hd
      rcases hd with rfl | rfl | rfl | rfl | rfl | rfl
      · exact .inl (Tidy.tup (by simp) (by simp))
      · exact .inl (Tidy.lst (by simp) (by simp))
      · exact .inl (Tidy.of0 (.inl rfl) 4)
      · exact .inl ((Tidy.tup (n := 1) (by simp) (by simpa using to)).le (by decide))
      · refine .inl ((Tidy.tup (n := 2) (by simp) fun e he => ?_).le (by decide))
        simp only [List.mem_cons, List.not_mem_nil, or_false] at he
        subst he
        refine Tidy.tup (n := 1) (by simp) fun e he => ?_
        simp only [List.mem_cons, List.not_mem_nil, or_false] at he
        rcases he with rfl | rfl
        · exact to
        · exact Tidy.tup (n := 0) (by simp) (by simpa using (show Tidy 0 (.str "a") from tA))
      · exact .inr rfl
  | false =>
    rw [he] at t1
    have hpos : 0 < rows.length := by cases rows with | nil => cases he | cons a b => exact Nat.succ_pos _
    have fL := fmod_in (n.fdiv 10) rows.length (by omega)
    let at_ : Int := (n.fdiv 10).fmod rows.length
    obtain ⟨rw_, hrw, erw⟩ := atI_in rows at_ fL.1 fL.2
    obtain ⟨h, ws, rfl, wh, wl, ww⟩ := hr _ hrw
    have tws : Tidy 1 (.tuple ws) := Tidy.tup (by omega) fun w hw' => tid_wod (ww w hw') (by decide)
    have th : Tid0 (.str h) := tid_str wh (by decide)
    let cut : List D := Zz.cutD ws (some 1) none
    have hcut := cutD_sub ws (some 1) none
    have hc1 : cut.length ≤ ws.length := hcut.1
    let e8 : D := .tuple [.str h, .tuple ([odd] ++ cut)]
    let sl : List D := [.tuple [odd, .tuple ws], .tuple [.str h, odd], .tuple [.str h, .list ws], .tuple [.str h], .tuple [.str h, .tuple ws, .tuple []], .list [.str h, .tuple ws], odd]
    let ρ1 : Env' := [N, Ro, some (.d odd), some (.d (.int at_)), some (.d (.str h)), some (.d (.tuple ws)), none, none]
    have s2 : sSet 3 (dBin oMod (dBin oDiv (dVar 0) (dC (.int 10))) (dFn1 oLen (dVar 1))) [N, Ro, some (.d odd), none, none, none, none, none] [c] = .nx [N, Ro, some (.d odd), some (.d (.int at_)), none, none, none, none] [c] :=
      sSet_at (dBin_at (dBin_at rfl rfl rfl rfl (div_at _ _ (by decide) (by decide))) (dFn1_at rfl rfl rfl) rfl rfl (mod_at _ _ (by omega)))
    have s3 : sAsg (toTup (toCons (toName 4) (toCons (toName 5) toNil))) (dBin oIx (dVar 1) (dVar 3)) [N, Ro, some (.d odd), some (.d (.int at_)), none, none, none, none] [c] = .nx ρ1 [c] := by
      have e1 : dBin oIx (dVar 1) (dVar 3) [N, Ro, some (.d odd), some (.d (.int at_)), none, none, none, none] [c] = .ok (.d (.tuple [.str h, .tuple ws])) [c] := dBin_at rfl rfl rfl rfl erw
      unfold sAsg
      rw [e1]
      rfl
    have s4 : sSet 6 (dLstC (dCons (dTup (dCons (dVar 2) (dCons (dVar 5) dNil))) (dCons (dTup (dCons (dVar 4) (dCons (dVar 2) dNil))) (dCons (dTup (dCons (dVar 4) (dCons (dFn1 oList (dVar 5)) dNil))) (dCons (dTup (dCons (dVar 4) dNil)) (dCons (dTup (dCons (dVar 4) (dCons (dVar 5) (dCons (dTup dNil) dNil)))) (dCons (dLst (dCons (dVar 4) (dCons (dVar 5) dNil))) (dCons (dVar 2) dNil)))))))) ρ1 [c]
        = .nx [N, Ro, some (.d odd), some (.d (.int at_)), some (.d (.str h)), some (.d (.tuple ws)), some (.c 1), none] [c, .lst sl] := rfl
    have s5 : sExpr (dApp (dVar 6) (dTup (dCons (dVar 4) (dCons (dBin oAdd (dTup (dCons (dVar 2) dNil)) (dSl (dVar 5) (pSome (dC (.int 1))) pNone)) dNil)))) [N, Ro, some (.d odd), some (.d (.int at_)), some (.d (.str h)), some (.d (.tuple ws)), some (.c 1), none] [c, .lst sl]
        = .nx [N, Ro, some (.d odd), some (.d (.int at_)), some (.d (.str h)), some (.d (.tuple ws)), some (.c 1), none] [c, .lst (sl ++ [e8])] :=
      sExpr_at (dApp_at (l := 1) (d := e8) rfl rfl (dTup_at (dCons_at rfl (dCons_at (dBin_at rfl rfl rfl rfl (addT [odd] cut (by show 1 + cut.length ≤ _; omega))) rfl)) rfl (by show 2 ≤ 16777216; decide)) rfl)
    have te8 : Tidy 3 e8 := by
      refine Tidy.tup (n := 2) (by simp) fun e he => ?_
      simp only [List.mem_cons, List.not_mem_nil, or_false] at he
      rcases he with rfl | rfl
      · exact Tidy.of0 th 2
      · refine Tidy.tup (n := 1) (by rw [List.length_append, List.length_singleton]; omega) fun e he => ?_
        rcases List.mem_append.mp he with he | he
        · simp only [List.mem_cons, List.not_mem_nil, or_false] at he
          rw [he]; exact to
        · exact Tidy.of0 (tid_wod (ww e (hcut.2 e he)) (by decide)) 1
    have f8 := fmod_in (n.fdiv 100) 8 (by decide)
    obtain ⟨bent, hb, eb⟩ := atI_in (sl ++ [e8]) ((n.fdiv 100).fmod 8) f8.1 (by simpa [sl] using f8.2)
    have two : ∀ {a b : D} {k : Nat}, Tidy k a → Tidy k b → ∀ x ∈ [a, b], Tidy k x := fun {a b k} ha hb x hx => by
      simp only [List.mem_cons, List.not_mem_nil, or_false] at hx
      rcases hx with rfl | rfl
      · exact ha
      · exact hb
    have tb : Tidy 3 bent := by
      simp only [sl, List.cons_append, List.nil_append, List.mem_cons, List.not_mem_nil, or_false] at hb
      have tl : Tidy 1 (.list ws) := Tidy.lst (by omega) fun w hw' => tid_wod (ww w hw') (by decide)
      have h1 := Tidy.of0 th 1
      rcases hb with rfl | rfl | rfl | rfl | rfl | rfl | rfl | rfl
      · exact (Tidy.tup (n := 1) (by simp) (two to tws)).le (by decide)
      · exact (Tidy.tup (n := 1) (by simp) (two h1 to)).le (by decide)
      · exact (Tidy.tup (n := 1) (by simp) (two h1 tl)).le (by decide)
      · exact (Tidy.tup (n := 1) (by simp) (by simpa using h1)).le (by decide)
      · refine (Tidy.tup (n := 1) (by simp) fun x hx => ?_).le (by decide)
        simp only [List.mem_cons, List.not_mem_nil, or_false] at hx
        rcases hx with rfl | rfl | rfl
        · exact h1
        · exact tws
        · exact Tidy.tup (by simp) (by simp)
      · exact (Tidy.lst (n := 1) (by simp) (two h1 tws)).le (by decide)
      · exact to.le (by decide)
      · exact te8
    have s6 : sSet 7 (dBin oIx (dVar 6) (dBin oMod (dBin oDiv (dVar 0) (dC (.int 100))) (dC (.int 8)))) [N, Ro, some (.d odd), some (.d (.int at_)), some (.d (.str h)), some (.d (.tuple ws)), some (.c 1), none] [c, .lst (sl ++ [e8])] = .nx [N, Ro, some (.d odd), some (.d (.int at_)), some (.d (.str h)), some (.d (.tuple ws)), some (.c 1), some (.d bent)] [c, .lst (sl ++ [e8])] :=
      sSet_at (dBin_at rfl (dBin_at (dBin_at rfl rfl rfl rfl (div_at _ _ (by decide) (by decide))) rfl rfl rfl (mod_at _ _ (by decide))) rfl rfl eb)
    let ρ2 : Env' := [N, Ro, some (.d odd), some (.d (.int at_)), some (.d (.str h)), some (.d (.tuple ws)), some (.c 1), some (.d bent)]
    let c1 : List D := Zz.cutD rows none (some at_)
    let c2 : List D := Zz.cutD rows (some (at_ + 1)) none
    let c3 : List D := Zz.cutD rows none (some 1)
    have h1 : c1.length ≤ rows.length := (cutD_sub rows none (some at_)).1
    have h2 : c2.length ≤ rows.length := (cutD_sub rows (some (at_ + 1)) none).1
    have h3 : c3.length ≤ rows.length := (cutD_sub rows none (some 1)).1
    let fl : List D := [.tuple (c1 ++ [bent] ++ c2), .list rows, .tuple (rows ++ c3), .tuple (c1 ++ [bent])]
    have f4 := fmod_in (n.fdiv 800) 4 (by decide)
    obtain ⟨d, hd, ed⟩ := atI_in fl ((n.fdiv 800).fmod 4) f4.1 (by simpa [fl] using f4.2)
    have b1 : oAdd (.tuple c1) (.tuple [bent]) = some (.tuple (c1 ++ [bent])) := addT _ _ (by rw [List.length_singleton]; omega)
    have b2 : oAdd (.tuple (c1 ++ [bent])) (.tuple c2) = some (.tuple (c1 ++ [bent] ++ c2)) := addT _ _ (by rw [List.length_append, List.length_singleton]; omega)
    have b3 : oAdd (.tuple rows) (.tuple c3) = some (.tuple (rows ++ c3)) := addT _ _ (by omega)
    refine ⟨d, fin (T := [.lst (sl ++ [e8])]) ?_, ?_⟩
    · unfold body_u_law_bent
      rw [sSeq_nx s1, sSeq_nx (sIf_skip t1), sSeq_nx s2, sSeq_nx s3, sSeq_nx s4, sSeq_nx s5, sSeq_nx s6]
      have g1 : dBin oAdd (dSl (dVar 1) pNone (pSome (dVar 3))) (dTup (dCons (dVar 7) dNil)) ρ2 [c, .lst (sl ++ [e8])] = .ok (.d (.tuple (c1 ++ [bent]))) [c, .lst (sl ++ [e8])] := dBin_at rfl rfl rfl rfl b1
      have g2 : dBin oAdd (dBin oAdd (dSl (dVar 1) pNone (pSome (dVar 3))) (dTup (dCons (dVar 7) dNil))) (dSl (dVar 1) (pSome (dBin oAdd (dVar 3) (dC (.int 1)))) pNone) ρ2 [c, .lst (sl ++ [e8])] = .ok (.d (.tuple (c1 ++ [bent] ++ c2))) [c, .lst (sl ++ [e8])] := dBin_at g1 rfl rfl rfl b2
      have g3 : dBin oAdd (dVar 1) (dSl (dVar 1) pNone (pSome (dC (.int 1)))) ρ2 [c, .lst (sl ++ [e8])] = .ok (.d (.tuple (rows ++ c3))) [c, .lst (sl ++ [e8])] := dBin_at rfl rfl rfl rfl b3
      exact sRet_at (dBin_at (x := .list fl) (dLst_at (dCons_at g2 (dCons_at rfl (dCons_at g3 (dCons_at g1 rfl)))) rfl (by show 4 ≤ 16777216; decide)) (dBin_at (dBin_at rfl rfl rfl rfl (div_at _ _ (by decide) (by decide))) rfl rfl rfl (mod_at _ _ (by decide))) rfl rfl ed)
    · have r3 : ∀ r ∈ rows, Tidy 3 r := fun r hr' => (row_tidy (hr r hr')).up
      have k1 : ∀ x ∈ c1, Tidy 3 x := fun x hx => r3 x ((cutD_sub rows none (some at_)).2 x hx)
      have k2 : ∀ x ∈ c2, Tidy 3 x := fun x hx => r3 x ((cutD_sub rows (some (at_ + 1)) none).2 x hx)
      have k3 : ∀ x ∈ c3, Tidy 3 x := fun x hx => r3 x ((cutD_sub rows none (some 1)).2 x hx)
      have k4 : ∀ x ∈ c1 ++ [bent], Tidy 3 x := fun x hx => by
        rcases List.mem_append.mp hx with hx | hx
        · exact k1 x hx
        · simp only [List.mem_cons, List.not_mem_nil, or_false] at hx
          rw [hx]; exact tb
      refine .inl ?_
      simp only [fl, List.mem_cons, List.not_mem_nil, or_false] at hd
      rcases hd with rfl | rfl | rfl | rfl
      · refine Tidy.tup (by rw [List.length_append, List.length_append, List.length_singleton]; omega) fun x hx => ?_
        rcases List.mem_append.mp hx with hx | hx
        · exact k4 x hx
        · exact k2 x hx
      · exact Tidy.lst (by omega) r3
      · refine Tidy.tup (by rw [List.length_append]; omega) fun x hx => ?_
        rcases List.mem_append.mp hx with hx | hx
        · exact r3 x hx
        · exact k3 x hx
      · exact Tidy.tup (by rw [List.length_append, List.length_singleton]; omega) k4
end K01
set_option maxRecDepth 100000
set_option maxHeartbeats 1000000
namespace K01
open PySem PySem.Spec PyProof.Rows L2 Zz
/-! ### the law -/
theorem tuple_len : ∀ {n : Nat} {l : List D}, Tidy n (.tuple l) → l.length ≤ 10 ∧ ∀ x ∈ l, Tidy (n - 1) x
  | 0, l, h => by rcases h with h | ⟨_, h⟩ | h | ⟨_, h, _⟩ <;> cases h
  | n + 1, l, .inl h => by rcases h with h | ⟨_, h⟩ | h | ⟨_, h, _⟩ <;> cases h
  | n + 1, l, .inr ⟨l', e, hl, h⟩ => by
    rcases e with e | e
    · cases e
    · cases e; exact ⟨hl, h⟩
theorem itm_it3 {d : D} (h : Itm d) : It3 d := by
  rcases h with h | rfl
  · have f := fit_of h
    refine ⟨f.fine, fun ds e => ⟨f.lay, by have := f.dep; omega⟩, fun ds e x hx es ex ms hm => ?_⟩
    subst e
    have t1 := (tuple_len h).2 x hx
    subst ex
    have t2 := (tuple_len t1).2 _ hm
    have := (tuple_len t2).1
    omega
  · exact ⟨rfl, fun ds e => (by cases e), fun ds e => (by cases e)⟩
theorem itm_repr {d : D} (h : Itm d) : ∃ r, oRepr d = some (.str r) := by
  rcases h with h | rfl
  · exact ⟨_, (fit_of h).repr (by decide)⟩
  · refine ⟨PyData.shown (.dict []), ?_⟩
    unfold oRepr
    rw [if_pos (by decide +kernel)]
theorem ne_str (x : Str) : oNe (.str x) (.str x) = some (.bool false) := by
  unfold oNe eqD
  simp [flatD, PyData.eqv]
theorem repr_bool (b : Bool) : ∃ r, oRepr (.bool b) = some (.str r) := ⟨_, (fit0 (.inr (.inl ⟨b, rfl⟩)) 0).repr (by decide)⟩
abbrev nameTurn : SD := (sIf (toB (dBin oNe (dFn1 oRepr (dCall fn_is_name (dCons (dVar 5) dNil))) (dFn1 oRepr (dCall fn_u_law_is_name (dCons (dVar 5) dNil))))) (sRet (dC (.bool false))) sNil)
theorem name_loop (a0 a1 a2 a3 a4 a6 a7 a8 a9 b0 b1 : Option Val) (S : List Cell) : ∀ (ds : List D), (∀ d ∈ ds, fineB d = true) → ∀ o5, ∃ o5', forGo (toName 5) nameTurn ds [a0, a1, a2, a3, a4, o5, a6, a7, a8, a9, b0, b1] S = .nx [a0, a1, a2, a3, a4, o5', a6, a7, a8, a9, b0, b1] S
  | [], _, o5 => ⟨o5, rfl⟩
  | d :: ds, h, o5 => by
    obtain ⟨o5', e⟩ := name_loop a0 a1 a2 a3 a4 a6 a7 a8 a9 b0 b1 S ds (fun x hx => h x (List.mem_cons_of_mem _ hx)) (some (.d d))
    refine ⟨o5', ?_⟩
    have hd := h d List.mem_cons_self
    obtain ⟨r, er⟩ := repr_bool (nmD d)
    have g1 : dCall fn_is_name (dCons (dVar 5) dNil) [a0, a1, a2, a3, a4, some (.d d), a6, a7, a8, a9, b0, b1] S = .ok (.d (.bool (nmD d))) S := (dCall_at (dCons_at rfl rfl)).trans (is_name_f d hd S)
    have g2 : dCall fn_u_law_is_name (dCons (dVar 5) dNil) [a0, a1, a2, a3, a4, some (.d d), a6, a7, a8, a9, b0, b1] S = .ok (.d (.bool (nmD d))) S := (dCall_at (dCons_at rfl rfl)).trans (law_name_f d hd S)
    have k : nameTurn [a0, a1, a2, a3, a4, some (.d d), a6, a7, a8, a9, b0, b1] S = .nx [a0, a1, a2, a3, a4, some (.d d), a6, a7, a8, a9, b0, b1] S :=
      sIf_skip (toB_at (dBin_at (dFn1_at g1 rfl er) (dFn1_at g2 rfl er) rfl rfl (ne_str r)))
    show (match nameTurn [a0, a1, a2, a3, a4, some (.d d), a6, a7, a8, a9, b0, b1] S with | .nx ρ2 S2 => forGo (toName 5) nameTurn ds ρ2 S2 | .ct ρ2 S2 => forGo (toName 5) nameTurn ds ρ2 S2 | .bk ρ2 S2 => .nx ρ2 S2 | .rt v S2 => .rt v S2 | .ex x ρ2 S2 => .ex x ρ2 S2 | .st => .st) = _
    rw [k]
    exact e
abbrev carTurn : SD := (sSeq (sPar 7 8 (dCons (dFn1 oRepr (dVar 5)) (dCons (dCall fn_u_law_is_good (dCons (dVar 5) dNil)) dNil))) (sIf (tOrD (toB (dBin oNe (dFn1 oRepr (dLst (dCons (dCall fn_is_carriers (dCons (dVar 5) dNil)) (dCons (dCall fn_u_law_told (dCons (dVar 5) dNil)) dNil)))) (dFn1 oRepr (dLst (dCons (dVar 8) (dCons (dVar 8) dNil)))))) (toB (dBin oNe (dFn1 oRepr (dVar 5)) (dVar 7)))) (sRet (dC (.bool false))) sNil))
theorem car_loop (a0 a1 a2 a3 a4 a6 a9 b0 b1 : Option Val) (S : List Cell) : ∀ (ds : List D), (∀ d ∈ ds, Itm d) → ∀ o5 o7 o8, ∃ o5' o7' o8', forGo (toName 5) carTurn ds [a0, a1, a2, a3, a4, o5, a6, o7, o8, a9, b0, b1] S = .nx [a0, a1, a2, a3, a4, o5', a6, o7', o8', a9, b0, b1] S
  | [], _, o5, o7, o8 => ⟨o5, o7, o8, rfl⟩
  | d :: ds, h, o5, o7, o8 => by
    have hd := h d List.mem_cons_self
    have i3 := itm_it3 hd
    obtain ⟨r, er⟩ := itm_repr hd
    let k : D := .bool (carsD d)
    obtain ⟨o5', o7', o8', e⟩ := car_loop a0 a1 a2 a3 a4 a6 a9 b0 b1 S ds (fun x hx => h x (List.mem_cons_of_mem _ hx)) (some (.d d)) (some (.d (.str r))) (some (.d k))
    refine ⟨o5', o7', o8', ?_⟩
    have tb : Tid0 k := .inr (.inl ⟨_, rfl⟩)
    have e2 := (fit_of (Tidy.lst (n := 0) (l := [k, k]) (by simp) (by simpa using (show Tidy 0 k from tb)))).repr (by decide)
    let ρ0 : Env' := [a0, a1, a2, a3, a4, some (.d d), a6, o7, o8, a9, b0, b1]
    let ρ1 : Env' := [a0, a1, a2, a3, a4, some (.d d), a6, some (.d (.str r)), some (.d k), a9, b0, b1]
    have s1 : sPar 7 8 (dCons (dFn1 oRepr (dVar 5)) (dCons (dCall fn_u_law_is_good (dCons (dVar 5) dNil)) dNil)) ρ0 S = .nx ρ1 S := by
      have z : dCons (dFn1 oRepr (dVar 5)) (dCons (dCall fn_u_law_is_good (dCons (dVar 5) dNil)) dNil) ρ0 S = .ok [.d (.str r), .d k] S := dCons_at (dFn1_at rfl rfl er) (dCons_at ((dCall_at (dCons_at rfl rfl)).trans (good_f d i3 S)) rfl)
      show (dCons _ _ ρ0 S).then_ _ _ = _
      rw [z]
      rfl
    have g1 : dCall fn_is_carriers (dCons (dVar 5) dNil) ρ1 S = .ok (.d k) S := (dCall_at (dCons_at rfl rfl)).trans (is_carriers_f d i3 S)
    have g2 : dCall fn_u_law_told (dCons (dVar 5) dNil) ρ1 S = .ok (.d k) S := (dCall_at (dCons_at rfl rfl)).trans (told_f d i3 S)
    have s2 : sIf (tOrD (toB (dBin oNe (dFn1 oRepr (dLst (dCons (dCall fn_is_carriers (dCons (dVar 5) dNil)) (dCons (dCall fn_u_law_told (dCons (dVar 5) dNil)) dNil)))) (dFn1 oRepr (dLst (dCons (dVar 8) (dCons (dVar 8) dNil)))))) (toB (dBin oNe (dFn1 oRepr (dVar 5)) (dVar 7)))) (sRet (dC (.bool false))) sNil ρ1 S = .nx ρ1 S :=
      sIf_skip (tOrD_f (toB_at (dBin_at (dFn1_at (dLst_at (dCons_at g1 (dCons_at g2 rfl)) rfl (by show 2 ≤ 16777216; decide)) rfl e2) (dFn1_at (dLst_at (dCons_at rfl (dCons_at rfl rfl)) rfl (by show 2 ≤ 16777216; decide)) rfl e2) rfl rfl (ne_str _)))
        (toB_at (dBin_at (dFn1_at rfl rfl er) rfl rfl rfl (ne_str r))))
    have kk : carTurn ρ0 S = .nx ρ1 S := (sSeq_nx s1).trans s2
    show (match carTurn ρ0 S with | .nx ρ2 S2 => forGo (toName 5) carTurn ds ρ2 S2 | .ct ρ2 S2 => forGo (toName 5) carTurn ds ρ2 S2 | .bk ρ2 S2 => .nx ρ2 S2 | .rt v S2 => .rt v S2 | .ex x ρ2 S2 => .ex x ρ2 S2 | .st => .st) = _
    rw [kk]
    exact e
theorem eqvAll_refl : ∀ {l : List D}, (∀ x ∈ l, PyData.eqv x x = true) → PyData.eqvAll l l = true
  | [], _ => rfl
  | x :: l, h => by
    rw [PyData.eqvAll, h x List.mem_cons_self, eqvAll_refl fun y hy => h y (List.mem_cons_of_mem _ hy)]
    rfl
theorem eqv_refl : ∀ {n : Nat} {d : D}, Tidy n d → PyData.eqv d d = true
  | 0, d, h => by rcases h with rfl | ⟨b, rfl⟩ | rfl | ⟨x, rfl, _⟩ <;> simp [PyData.eqv]
  | n + 1, d, .inl h => by rcases h with rfl | ⟨b, rfl⟩ | rfl | ⟨x, rfl, _⟩ <;> simp [PyData.eqv]
  | n + 1, d, .inr ⟨l, e, _, h⟩ => by
    have z := eqvAll_refl fun x hx => eqv_refl (h x hx)
    rcases e with rfl | rfl <;> (rw [PyData.eqv]; exact z)
theorem ne_same {n : Nat} {l : List D} (h : Tidy n (.list l)) (hn : n ≤ 4) : oNe (.list l) (.list l) = some (.bool false) := by
  have f := fit_of h
  have hs : SeqAt.shaped (.list l) = true := by
    unfold SeqAt.shaped
    have := f.dep
    rw [f.lay, decide_eq_true (by omega)]; rfl
  unfold oNe eqD
  simp [flatD, hs, eqv_refl h]
theorem cut_pre (l : List D) (k : Nat) : Zz.cutD l none (some (k : Int)) = l.take k := by
  unfold Zz.cutD
  rw [HT.sIx_none, HT.sIx_nat, List.drop_zero, Nat.sub_zero]
  rcases Nat.le_total k l.length with h | h
  · rw [Nat.min_eq_left h]
  · rw [Nat.min_eq_right h, List.take_length, List.take_of_length_le h]
def mem2 : D → D
  | .tuple [_, b] => b
  | _ => .none
abbrev hrTg : Tg := (toTup (toCons (toName 10) (toCons (toName 11) toNil)))
abbrev toldE : Env' → M Val := (dIf (toT (dCall fn_u_law_is_good (dCons (dVar 6) dNil))) (dLc (itAny (dVar 6)) hrTg (fun l => kTest (fun _ => M.ret true) (kPush l (dCall fn_elements_of (dCons (dVar 6) (dCons (dVar 10) dNil))))) [10, 11]) (dLst dNil))
abbrev lastT : SD := (sIf (toB (dBin oNe (dVar 9) (dSl (dLc (itAny (dVar 6)) hrTg (fun l => kTest (fun _ => M.ret true) (kPush l (dVar 11))) [10, 11]) pNone (pSome (dFn1 oLen (dVar 9)))))) (sRet (dC (.bool false))) sNil)
theorem told_part (a0 a1 a2 a3 a4 a5 a7 a8 a9 b0 b1 : Option Val) (S : List Cell) (rows : List D) (hl : rows.length ≤ 4) (hr : ∀ r ∈ rows, RowOk r) : ∃ a9', sSeq (sSet 9 toldE) lastT [a0, a1, a2, a3, a4, a5, some (.d (.tuple rows)), a7, a8, a9, b0, b1] S = .nx [a0, a1, a2, a3, a4, a5, some (.d (.tuple rows)), a7, a8, a9', b0, b1] S := by
  have tr : Tidy 3 (.tuple rows) := Tidy.tup (by omega) fun r h => row_tidy (hr r h)
  have i3 := itm_it3 (.inl (tr.le (by decide)))
  have shape : ∀ d ∈ rows, ∃ h ws, d = .tuple [.str h, .tuple ws] := fun d hd => by
    obtain ⟨h, ws, e, _⟩ := hr d hd
    exact ⟨h, ws, e⟩
  have mt : ∀ x ∈ rows.map mem2, Tidy 1 x := fun x hx => by
    obtain ⟨d, hd, rfl⟩ := List.mem_map.mp hx
    obtain ⟨h, ws, rfl, _, wl, ww⟩ := hr d hd
    exact Tidy.tup (n := 0) (by omega) fun w hw => tid_wod (ww w hw) (by decide)
  -- all the rows, one after the other
  have rowsL : ∀ o9, dLc (itAny (dVar 6)) hrTg (fun l => kTest (fun _ => M.ret true) (kPush l (dVar 11))) [10, 11] [a0, a1, a2, a3, a4, a5, some (.d (.tuple rows)), a7, a8, o9, b0, b1] S = .ok (.d (.list (rows.map mem2))) S := fun o9 => by
    have hit : itAny (dVar 6) [a0, a1, a2, a3, a4, a5, some (.d (.tuple rows)), a7, a8, o9, b0, b1] S = .ok rows S := itAny_at (d := .tuple rows) rfl rfl
    refine (dLc_pure (ρ1 := fun d => match d with | .tuple [x, y] => [a0, a1, a2, a3, a4, a5, some (.d (.tuple rows)), a7, a8, o9, some (.d x), some (.d y)] | _ => []) (p := fun _ => true) (v := mem2) hit (by omega) (fun d hd => ?_) (fun d _ R => rfl) fun d hd _ R => ?_).trans ?_
    · obtain ⟨h, ws, rfl⟩ := shape d hd
      rfl
    · obtain ⟨h, ws, rfl⟩ := shape d hd
      rfl
    · rw [filter_yes]
  have fin : ∀ (tl : List D), toldE [a0, a1, a2, a3, a4, a5, some (.d (.tuple rows)), a7, a8, a9, b0, b1] S = .ok (.d (.list tl)) S → Zz.cutD (rows.map mem2) none (some tl.length) = tl → (∀ x ∈ tl, Tidy 1 x) → tl.length ≤ 10 →
      ∃ a9', sSeq (sSet 9 toldE) lastT [a0, a1, a2, a3, a4, a5, some (.d (.tuple rows)), a7, a8, a9, b0, b1] S = .nx [a0, a1, a2, a3, a4, a5, some (.d (.tuple rows)), a7, a8, a9', b0, b1] S := fun tl e1 e2 tt hz => by
    refine ⟨some (.d (.list tl)), (sSeq_nx (sSet_at e1)).trans ?_⟩
    have sl : dSl (dLc (itAny (dVar 6)) hrTg (fun l => kTest (fun _ => M.ret true) (kPush l (dVar 11))) [10, 11]) pNone (pSome (dFn1 oLen (dVar 9))) [a0, a1, a2, a3, a4, a5, some (.d (.tuple rows)), a7, a8, some (.d (.list tl)), b0, b1] S = .ok (.d (.list tl)) S := by
      show (dLc _ _ _ _ _ S).bind _ = _
      rw [rowsL]
      show Res.ok (Val.d (.list (Zz.cutD (rows.map mem2) none (some tl.length)))) S = _
      rw [e2]
    exact sIf_skip (toB_at (dBin_at rfl sl rfl rfl (ne_same (n := 2) (Tidy.lst (n := 1) hz tt) (by decide))))
  have gd : dCall fn_u_law_is_good (dCons (dVar 6) dNil) [a0, a1, a2, a3, a4, a5, some (.d (.tuple rows)), a7, a8, a9, b0, b1] S = .ok (.d (.bool (carsD (.tuple rows)))) S := (dCall_at (dCons_at rfl rfl)).trans (good_f _ i3 S)
  cases hc : carsD (.tuple rows) with
  | false =>
    rw [hc] at gd
    refine fin [] ((dIf_f (toT_at gd rfl rfl)).trans rfl) ?_ (by simp) (by simp)
    exact cut_pre _ 0
  | true =>
    rw [hc] at gd
    refine fin (rows.map mem2) ((dIf_t (toT_at gd rfl rfl)).trans ?_) ?_ mt (by rw [List.length_map]; omega)
    · have hit : itAny (dVar 6) [a0, a1, a2, a3, a4, a5, some (.d (.tuple rows)), a7, a8, a9, b0, b1] S = .ok rows S := itAny_at (d := .tuple rows) rfl rfl
      refine (dLc_pure (ρ1 := fun d => match d with | .tuple [x, y] => [a0, a1, a2, a3, a4, a5, some (.d (.tuple rows)), a7, a8, a9, some (.d x), some (.d y)] | _ => []) (p := fun _ => true) (v := mem2) hit (by omega) (fun d hd => ?_) (fun d _ R => rfl) fun d hd _ R => ?_).trans ?_
      · obtain ⟨h, ws, rfl⟩ := shape d hd
        rfl
      · obtain ⟨h, ws, rfl⟩ := shape d hd
        exact (dCall_at (dCons_at rfl (dCons_at rfl rfl))).trans (elements_f rows hc h ws hd (S ++ R))
      · rw [filter_yes]
    · rw [cut_pre, List.take_length]
/-! ### a turn, and all -/
abbrev turnB : SD := (sSeq (sPar 3 4 (dCons cellC (dCons cellC dNil))) (sSeq (sFor (itAny (dTup (dCons (dCall fn_u_law_word (dCons (dVar 3) (dCons (dVar 4) dNil))) (dCons (dC (.none)) (dCons (dC (.int 5)) (dCons (dC (.bool true)) (dCons (dTup dNil) (dCons (dLst (dCons (dC (.str "a")) dNil)) (dCons (dTup (dCons (dC (.str "a")) dNil)) (dCons (dDict [((dC (.str "a")), (dC (.int 1)))]) (dCons (dC (.str "yes")) (dCons (dC (.str "no")) dNil)))))))))))) (toName 5) nameTurn) (sSeq (sSet 6 (dCall fn_u_law_rows (dCons (dVar 0) (dCons (dVar 1) dNil)))) (sSeq (sFor (itAny (dTup (dCons (dVar 6) (dCons (dCall fn_u_law_bent (dCons (dVar 3) (dCons (dVar 6) dNil))) (dCons (dCall fn_u_law_bent (dCons (dVar 4) (dCons (dVar 6) dNil))) (dCons (dC (.none)) (dCons (dC (.int 5)) (dCons (dC (.str "a")) (dCons dDict0 (dCons (dTup (dCons (dTup dNil) dNil)) (dCons (dBin oMul (dTup (dCons (dTup (dCons (dC (.str "a")) (dCons (dTup (dCons (dC (.str "b")) dNil)) dNil))) dNil)) (dC (.int 2))) dNil))))))))))) (toName 5) carTurn) (sSeq (sSet 9 toldE) lastT)))))
theorem turn_f (ns : List Int) (h63 : ns.length ≤ 63) (a2 a3 a4 a5 a6 a7 a8 a9 b0 b1 : Option Val) (k0 : Int) (h0 : 0 ≤ k0) (h1 : k0 < 800000) : ∃ c3 c4 c5 c6 c7 c8 c9 k1, turnB [some (.d (.list (intsD ns))), some (.c 0), a2, a3, a4, a5, a6, a7, a8, a9, b0, b1] [.lst [.int k0]]
    = .nx [some (.d (.list (intsD ns))), some (.c 0), a2, c3, c4, c5, c6, c7, c8, c9, b0, b1] [.lst [.int k1]] ∧ k0 ≤ k1 ∧ k1 ≤ k0 + 8 := by
  let C0 : Option Val := some (.d (.list (intsD ns)))
  obtain ⟨n, en⟩ := cell_f ns h63 k0 h0 (by omega) []
  obtain ⟨m, em⟩ := cell_f ns h63 (k0 + 1) (by omega) (by omega) []
  let N : Option Val := some (.d (.int n))
  let M' : Option Val := some (.d (.int m))
  have s1 : sPar 3 4 (dCons cellC (dCons cellC dNil)) [C0, some (.c 0), a2, a3, a4, a5, a6, a7, a8, a9, b0, b1] [.lst [.int k0]] = .nx [C0, some (.c 0), a2, N, M', a5, a6, a7, a8, a9, b0, b1] [.lst [.int (k0 + 1 + 1)]] := by
    have z : dCons cellC (dCons cellC dNil) [C0, some (.c 0), a2, a3, a4, a5, a6, a7, a8, a9, b0, b1] [.lst [.int k0]] = .ok [.d (.int n), .d (.int m)] [.lst [.int (k0 + 1 + 1)]] :=
      dCons_at ((dCall_at (dCons_at rfl (dCons_at rfl rfl))).trans en) (dCons_at ((dCall_at (dCons_at rfl (dCons_at rfl rfl))).trans em) rfl)
    show (dCons _ _ _ _).then_ _ _ = _
    rw [z]
    rfl
  let S : List Cell := [.lst [.int (k0 + 1 + 1)]]
  obtain ⟨w, ew, ww⟩ := word_f n m S
  let it1 : List D := [.str w, .none, .int 5, .bool true, .tuple [], .list [.str "a"], .tuple [.str "a"], .dict [(.str "a", .int 1)], .str "yes", .str "no"]
  have f1 : ∀ d ∈ it1, fineB d = true := fun d hd => by
    simp only [it1, List.mem_cons, List.not_mem_nil, or_false] at hd
    rcases hd with rfl | rfl | rfl | rfl | rfl | rfl | rfl | rfl | rfl | rfl
    · exact (fit0 (tid_str ww (by decide)) 0).fine
    all_goals decide +kernel
  obtain ⟨c5, e2⟩ := name_loop C0 (some (.c 0)) a2 N M' a6 a7 a8 a9 b0 b1 S it1 f1 a5
  have s2 : sFor (itAny (dTup (dCons (dCall fn_u_law_word (dCons (dVar 3) (dCons (dVar 4) dNil))) (dCons (dC (.none)) (dCons (dC (.int 5)) (dCons (dC (.bool true)) (dCons (dTup dNil) (dCons (dLst (dCons (dC (.str "a")) dNil)) (dCons (dTup (dCons (dC (.str "a")) dNil)) (dCons (dDict [((dC (.str "a")), (dC (.int 1)))]) (dCons (dC (.str "yes")) (dCons (dC (.str "no")) dNil)))))))))))) (toName 5) nameTurn [C0, some (.c 0), a2, N, M', a5, a6, a7, a8, a9, b0, b1] S = .nx [C0, some (.c 0), a2, N, M', c5, a6, a7, a8, a9, b0, b1] S := by
    have dd : dDict [((dC (.str "a")), (dC (.int 1)))] [C0, some (.c 0), a2, N, M', a5, a6, a7, a8, a9, b0, b1] S = .ok (.d (.dict [(.str "a", .int 1)])) S := rfl
    have t : dTup (dCons (dCall fn_u_law_word (dCons (dVar 3) (dCons (dVar 4) dNil))) (dCons (dC (.none)) (dCons (dC (.int 5)) (dCons (dC (.bool true)) (dCons (dTup dNil) (dCons (dLst (dCons (dC (.str "a")) dNil)) (dCons (dTup (dCons (dC (.str "a")) dNil)) (dCons (dDict [((dC (.str "a")), (dC (.int 1)))]) (dCons (dC (.str "yes")) (dCons (dC (.str "no")) dNil)))))))))) [C0, some (.c 0), a2, N, M', a5, a6, a7, a8, a9, b0, b1] S = .ok (.d (.tuple it1)) S :=
      dTup_at (dCons_at ((dCall_at (dCons_at rfl (dCons_at rfl rfl))).trans ew) (dCons_at rfl (dCons_at rfl (dCons_at rfl (dCons_at rfl (dCons_at rfl (dCons_at rfl (dCons_at dd (dCons_at rfl (dCons_at rfl rfl)))))))))) (frzs_d it1 S) (by show 10 ≤ 16777216; decide)
    exact (sFor_at (itAny_at (d := .tuple it1) t rfl)).trans e2
  obtain ⟨rows, k1, er, hk1, hk2, hl, hr⟩ := rows_f ns h63 (k0 + 1 + 1) (by omega) (by omega)
  let Ro : Option Val := some (.d (.tuple rows))
  let S2 : List Cell := [.lst [.int k1]]
  have s3 : sSet 6 (dCall fn_u_law_rows (dCons (dVar 0) (dCons (dVar 1) dNil))) [C0, some (.c 0), a2, N, M', c5, a6, a7, a8, a9, b0, b1] S = .nx [C0, some (.c 0), a2, N, M', c5, Ro, a7, a8, a9, b0, b1] S2 :=
    sSet_at ((dCall_at (dCons_at rfl (dCons_at rfl rfl))).trans er)
  obtain ⟨x1, ex1, ix1⟩ := bent_f n rows hl hr (.lst [.int k1])
  obtain ⟨x2, ex2, ix2⟩ := bent_f m rows hl hr (.lst [.int k1])
  have tr : Tidy 3 (.tuple rows) := Tidy.tup (by omega) fun r h => row_tidy (hr r h)
  let ab : D := .tuple [.str "a", .tuple [.str "b"]]
  let it2 : List D := [.tuple rows, x1, x2, .none, .int 5, .str "a", .dict [], .tuple [.tuple []], .tuple [ab, ab]]
  have tB : Tid0 (.str "b") := lit0 (by decide +kernel)
  have tab : Tidy 2 ab := Tidy.tup (n := 1) (by simp) fun e he => by
    simp only [List.mem_cons, List.not_mem_nil, or_false] at he
    rcases he with rfl | rfl
    · exact Tidy.of0 tA 1
    · exact Tidy.tup (n := 0) (by simp) (by simpa using (show Tidy 0 (.str "b") from tB))
  have f2 : ∀ d ∈ it2, Itm d := fun d hd => by
    simp only [it2, List.mem_cons, List.not_mem_nil, or_false] at hd
    rcases hd with rfl | rfl | rfl | rfl | rfl | rfl | rfl | rfl | rfl
    · exact .inl (tr.le (by decide))
    · exact ix1
    · exact ix2
    · exact .inl (Tidy.of0 (.inl rfl) 4)
    · exact .inl (Tidy.of0 (.inr (.inr (.inl rfl))) 4)
    · exact .inl (Tidy.of0 tA 4)
    · exact .inr rfl
    · exact .inl ((Tidy.tup (n := 1) (by simp) (by simpa using (Tidy.tup (n := 0) (l := []) (by simp) (by simp)))).le (by decide))
    · exact .inl ((Tidy.tup (n := 2) (by simp) (by simpa using tab)).le (by decide))
  obtain ⟨d5, d7, d8, e4⟩ := car_loop C0 (some (.c 0)) a2 N M' Ro a9 b0 b1 S2 it2 f2 c5 a7 a8
  have mu : oMul (.tuple [ab]) (.int 2) = some (.tuple [ab, ab]) := rfl
  have s4 : sFor (itAny (dTup (dCons (dVar 6) (dCons (dCall fn_u_law_bent (dCons (dVar 3) (dCons (dVar 6) dNil))) (dCons (dCall fn_u_law_bent (dCons (dVar 4) (dCons (dVar 6) dNil))) (dCons (dC (.none)) (dCons (dC (.int 5)) (dCons (dC (.str "a")) (dCons dDict0 (dCons (dTup (dCons (dTup dNil) dNil)) (dCons (dBin oMul (dTup (dCons (dTup (dCons (dC (.str "a")) (dCons (dTup (dCons (dC (.str "b")) dNil)) dNil))) dNil)) (dC (.int 2))) dNil))))))))))) (toName 5) carTurn [C0, some (.c 0), a2, N, M', c5, Ro, a7, a8, a9, b0, b1] S2 = .nx [C0, some (.c 0), a2, N, M', d5, Ro, d7, d8, a9, b0, b1] S2 := by
    have t : dTup (dCons (dVar 6) (dCons (dCall fn_u_law_bent (dCons (dVar 3) (dCons (dVar 6) dNil))) (dCons (dCall fn_u_law_bent (dCons (dVar 4) (dCons (dVar 6) dNil))) (dCons (dC (.none)) (dCons (dC (.int 5)) (dCons (dC (.str "a")) (dCons dDict0 (dCons (dTup (dCons (dTup dNil) dNil)) (dCons (dBin oMul (dTup (dCons (dTup (dCons (dC (.str "a")) (dCons (dTup (dCons (dC (.str "b")) dNil)) dNil))) dNil)) (dC (.int 2))) dNil))))))))) [C0, some (.c 0), a2, N, M', c5, Ro, a7, a8, a9, b0, b1] S2 = .ok (.d (.tuple it2)) S2 :=
      dTup_at (dCons_at rfl (dCons_at ((dCall_at (dCons_at rfl (dCons_at rfl rfl))).trans ex1) (dCons_at ((dCall_at (dCons_at rfl (dCons_at rfl rfl))).trans ex2) (dCons_at rfl (dCons_at rfl (dCons_at rfl (dCons_at rfl (dCons_at rfl (dCons_at (dBin_at rfl rfl rfl rfl mu) rfl))))))))) (frzs_d it2 S2) (by show 9 ≤ 16777216; decide)
    exact (sFor_at (itAny_at (d := .tuple it2) t rfl)).trans e4
  obtain ⟨d9, e5⟩ := told_part C0 (some (.c 0)) a2 N M' d5 d7 d8 a9 b0 b1 S2 rows hl hr
  exact ⟨N, M', d5, Ro, d7, d8, d9, k1, (sSeq_nx s1).trans ((sSeq_nx s2).trans ((sSeq_nx s3).trans ((sSeq_nx s4).trans e5))), by omega, by omega⟩
theorem turns_f (ns : List Int) (h63 : ns.length ≤ 63) (b0 b1 : Option Val) : ∀ (ds : List D) (a2 a3 a4 a5 a6 a7 a8 a9 : Option Val) (k0 : Int), 0 ≤ k0 → k0 + 8 * ds.length < 800000 → ∃ ρ' S', ρ'.length = 12 ∧ forGo (toName 2) turnB ds [some (.d (.list (intsD ns))), some (.c 0), a2, a3, a4, a5, a6, a7, a8, a9, b0, b1] [.lst [.int k0]] = .nx ρ' S'
  | [], a2, a3, a4, a5, a6, a7, a8, a9, k0, _, _ => ⟨_, _, rfl, rfl⟩
  | d :: ds, a2, a3, a4, a5, a6, a7, a8, a9, k0, h0, h1 => by
    rw [List.length_cons] at h1
    obtain ⟨c3, c4, c5, c6, c7, c8, c9, k1, e, hk1, hk2⟩ := turn_f ns h63 (some (.d d)) a3 a4 a5 a6 a7 a8 a9 b0 b1 k0 h0 (by omega)
    obtain ⟨ρ', S', hl, e2⟩ := turns_f ns h63 b0 b1 ds (some (.d d)) c3 c4 c5 c6 c7 c8 c9 k1 (by omega) (by omega)
    refine ⟨ρ', S', hl, ?_⟩
    show (match turnB [some (.d (.list (intsD ns))), some (.c 0), some (.d d), a3, a4, a5, a6, a7, a8, a9, b0, b1] [.lst [.int k0]] with | .nx ρ2 S2 => forGo (toName 2) turnB ds ρ2 S2 | .ct ρ2 S2 => forGo (toName 2) turnB ds ρ2 S2 | .bk ρ2 S2 => .nx ρ2 S2 | .rt v S2 => .rt v S2 | .ex x ρ2 S2 => .ex x ρ2 S2 | .st => .st) = _
    rw [e]
    exact e2
end K01
set_option maxRecDepth 100000
set_option maxHeartbeats 1000000
namespace K01
open PySem PySem.Spec PyProof.Rows L2 Zz
theorem dArgs_at {g : {T : Type} → List T → List T} {f : Env' → M (List Val)} {ρ : Env'} {S S1 : List Cell} {xs : List Val} (h : f ρ S = .ok xs S1) : dArgs g f ρ S = .ok (g xs) S1 := by
  show (f ρ S).bind _ = _
  rw [h]
  rfl
theorem eq_same {n : Nat} {l : List D} (h : Tidy n (.tuple l)) (hn : n ≤ 4) : oEq (.tuple l) (.tuple l) = some (.bool true) := by
  have f := fit_of h
  have hs : SeqAt.shaped (.tuple l) = true := by
    unfold SeqAt.shaped
    have := f.dep
    rw [f.lay, decide_eq_true (by omega)]; rfl
  unfold oEq eqD
  simp [flatD, hs, eqv_refl h]
theorem told (ns : List Int) (h1 : ns.length ≤ 63) (_ : ∀ z ∈ ns, Builtin.Int.intBits z ≤ 1048576) : ∃ S, fn_law [.d (.list (intsD ns))] [] = .ok (.d (.bool true)) S := by
  let C0 : Option Val := some (.d (.list (intsD ns)))
  have s1 : sSet 1 (dLstC (dCons (dC (.int 0)) dNil)) [C0, none, none, none, none, none, none, none, none, none, none, none] [] = .nx [C0, some (.c 0), none, none, none, none, none, none, none, none, none, none] [.lst [.int 0]] := rfl
  let k : Int := 6 + (if (ns.length : Int) < 30 then (ns.length : Int) else 30)
  have hk : 0 ≤ k ∧ k ≤ 36 := by
    show 0 ≤ 6 + (if (ns.length : Int) < 30 then (ns.length : Int) else 30) ∧ 6 + (if (ns.length : Int) < 30 then (ns.length : Int) else 30) ≤ 36
    split <;> omega
  obtain ⟨ρ', S', _, e2⟩ := turns_f ns h1 none none ((List.range k.toNat).map fun i : Nat => .int (0 + i)) none none none none none none none none 0 (by decide) (by rw [List.length_map, List.length_range]; omega)
  have s2 : sFor (itRng (dBin oAdd (dC (.int 6)) (dBin oMin (dC (.int 30)) (dFn1 oLen (dVar 0))))) (toName 2) turnB [C0, some (.c 0), none, none, none, none, none, none, none, none, none, none] [.lst [.int 0]] = .nx ρ' S' := by
    refine (sFor_at (itRng_at (j := k) (dBin_at rfl (dBin_at rfl (dFn1_at rfl rfl (show oLen (.list (intsD ns)) = some (.int ns.length) by show some (PyData.int (intsD ns).length) = _; simp [intsD])) rfl rfl rfl) rfl rfl (add_at _ _)) ⟨by omega, by omega⟩)).trans e2
  have c1 : nmD (.str "a1") = true := by decide +kernel
  have te : Tidy 1 (.tuple []) := Tidy.tup (by simp) (by simp)
  have c2 : carsD (.tuple []) = true := by decide +kernel
  have i0 := itm_it3 (.inl (te.le (by decide)))
  have g1 : dCall fn_is_name (dArgs same2 (dCons (dC (.str "a1")) dNil)) ρ' S' = .ok (.d (.bool true)) S' := by
    have z := is_name_f (.str "a1") (by decide +kernel) S'
    rw [c1] at z
    exact (dCall_at (dArgs_at (dCons_at rfl rfl))).trans z
  have g2 : dCall fn_is_carriers (dArgs same2 (dCons (dTup dNil) dNil)) ρ' S' = .ok (.d (.bool true)) S' := by
    have z := is_carriers_f (.tuple []) i0 S'
    rw [c2] at z
    exact (dCall_at (dArgs_at (dCons_at rfl rfl))).trans z
  have g3 : dCall fn_need_carriers (dArgs same2 (dCons (dTup dNil) dNil)) ρ' S' = .ok (.d .none) S' := by
    have z := need_f (.tuple []) i0 S'
    rw [c2, if_pos rfl] at z
    exact (dCall_at (dArgs_at (dCons_at rfl rfl))).trans z
  have tl : Tidy 1 (.list [.bool true, .bool true, .none]) := Tidy.lst (n := 0) (by simp) fun x hx => by
    simp only [List.mem_cons, List.not_mem_nil, or_false] at hx
    rcases hx with rfl | rfl | rfl
    · exact (.inr (.inl ⟨_, rfl⟩) : Tid0 _)
    · exact (.inr (.inl ⟨_, rfl⟩) : Tid0 _)
    · exact (.inl rfl : Tid0 _)
  have s3 : toB (dBin oNe (dLst (dCons (dCall fn_is_name (dArgs same2 (dCons (dC (.str "a1")) dNil))) (dCons (dCall fn_is_carriers (dArgs same2 (dCons (dTup dNil) dNil))) (dCons (dCall fn_need_carriers (dArgs same2 (dCons (dTup dNil) dNil))) dNil)))) (dLst (dCons (dC (.bool true)) (dCons (dC (.bool true)) (dCons (dC (.none)) dNil))))) ρ' S' = .ok false S' :=
    toB_at (dBin_at (dLst_at (dCons_at g1 (dCons_at g2 (dCons_at g3 rfl))) rfl (by show 3 ≤ 16777216; decide)) (dLst_at rfl rfl (by show 3 ≤ 16777216; decide)) rfl rfl (ne_same tl (by decide)))
  let xy : List D := [.str "x", .str "y"]
  let ds : List D := [.tuple [.str "s", .tuple xy]]
  have c4 : carsD (.tuple ds) = true := by decide +kernel
  have e4 := elements_f ds c4 "s" xy (by simp [ds]) S'
  have txy : Tidy 1 (.tuple xy) := Tidy.tup (n := 0) (by simp [xy]) fun x hx => by
    simp only [xy, List.mem_cons, List.not_mem_nil, or_false] at hx
    rcases hx with rfl | rfl
    · exact lit0 (by decide +kernel)
    · exact lit0 (by decide +kernel)
  have key : body_law [C0, none, none, none, none, none, none, none, none, none, none, none] [] = .rt (.d (.bool true)) S' := by
    unfold body_law
    rw [sSeq_nx s1, sSeq_nx s2, sSeq_nx (sIf_skip s3)]
    have g4 : dCons (dC (.str "s")) (dCons (dTup (dCons (dTup (dCons (dC (.str "s")) (dCons (dTup (dCons (dC (.str "x")) (dCons (dC (.str "y")) dNil))) dNil))) dNil)) dNil) ρ' S' = .ok [.d (.str "s"), .d (.tuple ds)] S' := rfl
    exact sRet_at (dBin_at ((dCall_at (dArgs_at g4)).trans e4) rfl rfl rfl (eq_same txy (by decide)))
  have z := body_rt (np := 1) (nl := 12) (b := body_law) (as := [.d (.list (intsD ns))]) (S := []) rfl key
  exact ⟨_, by rw [show fn_law = bodyFn 1 12 body_law from rfl, z]⟩
end K01
set_option maxRecDepth 100000
open PySem PySem.W PyProof.Rows
set_option maxHeartbeats 0 in
theorem PySem.Challenge.cw_stairwright_k01_names_and_carriers_holds : PySem.Challenge.rw_stairwright_k01_names_and_carriers.Holds := by
  w_on; o_law; k_head; (case hw => w_witness2)
  k_fill
  refine Zz.walkG (l := PySem.Challenge.rw_stairwright_k01_names_and_carriers) (n := 63) (k := 6) (x := "script") (F := K01.fn_law) rfl (by decide) rfl ⟨rfl, by decide, by decide⟩ (fun w h Y => PySem.W.kIn_of Y) ?F fun ns h1 h2 => K01.told ns h1 h2
  case F =>
    intro w mg fa h KX G hmg
    refine' K01.all_mk KX G hmg ?h0 ?h1 ?h2 ?h3 ?h4 ?h5 ?h6 ?h7 ?h8 ?h9 ?h10 ?h11 ?h12 ?h13 ?h14 ?h15 ?h16 ?h17 ?h18 ?h19 ?h20 ?h21 ?h22 ?h23 ?h24 ?h25 ?h26 ?h27 ?h28 ?h29 ?h30 ?h31 ?h32 ?h33 ?h34 ?h35 ?h36 ?h37 ?h38 ?h39 ?h40 ?h41 ?h42 ?h43 ?h44 ?h45 ?h46 ?h47 ?h48 ?h49 ?h50 ?h51 ?h52 ?h53 ?h54 ?h55 ?h56 ?h57 ?h58 ?h59 ?h60 ?h61 ?h62 ?h63 ?h64 ?h65 ?h66 ?h67 ?h68 ?h69 ?h70 ?h71 ?h72 ?h73 ?h74 ?h75 ?h76 ?h77 ?h78 ?h79 ?h80 ?h81 ?h82 ?h83 ?h84 ?h85 ?h86 ?h87 ?h88 ?h89 ?h90 ?h91 ?h92 ?h93 ?h94 ?h95 ?h96 ?h97 ?h98 ?h99 ?h100 ?h101 ?h102 ?h103 ?h104 ?h105 ?h106 ?h107 ?h108 ?h109 ?h110 ?h111 ?h112 ?h113 ?h114 ?h115 ?h116 ?h117 ?h118 ?h119 ?h120 ?h121 ?h122 ?h123 ?h124 ?h125 ?h126 ?h127 ?h128 ?h129 ?h130 ?h131 ?h132 ?h133 ?h134 ?h135 ?h136 ?h137 ?h138 ?h139 ?h140 ?h141 ?h142 ?h143 ?h144 ?h145 ?h146 ?h147
    (case h0 => k_is)
    (case h1 => k_is)
    (case h2 => k_is)
    (case h3 => k_is)
    (case h4 => k_is)
    (case h5 => k_is)
    (case h6 => k_is)
    (case h7 => k_is)
    (case h8 => k_exc)
    (case h9 => k_is)
    (case h10 => k_is)
    (case h11 => k_is)
    (case h12 => k_exc)
    (case h13 => k_is)
    (case h14 => k_is)
    (case h15 => k_is)
    (case h16 => k_is)
    (case h17 => k_is)
    (case h18 => k_is)
    (case h19 => k_is)
    (case h20 => k_is)
    (case h21 => k_is)
    (case h22 => k_is)
    (case h23 => k_is)
    (case h24 => k_is)
    (case h25 => k_is)
    (case h26 => k_is)
    (case h27 => k_is)
    (case h28 => k_is)
    (case h29 => k_is)
    (case h30 => k_is)
    (case h31 => decide)
    (case h32 => decide)
    (case h33 => k_is)
    (case h34 => decide)
    (case h35 => k_is)
    (case h36 => k_is)
    (case h37 => k_is)
    (case h38 => decide)
    (case h39 => k_is)
    (case h40 => k_is)
    (case h41 => k_is)
    (case h42 => decide)
    (case h43 => k_is)
    (case h44 => k_is)
    (case h45 => k_is)
    (case h46 => k_is)
    (case h47 => k_is)
    (case h48 => k_is)
    (case h49 => k_is)
    (case h50 => k_is)
    (case h51 => k_is)
    (case h52 => decide)
    (case h53 => decide)
    (case h54 => k_is)
    (case h55 => decide)
    (case h56 => k_is)
    (case h57 => decide)
    (case h58 => k_is)
    (case h59 => decide)
    (case h60 => k_is)
    (case h61 => decide)
    (case h62 => k_is)
    (case h63 => k_is)
    (case h64 => k_is)
    (case h65 => k_is)
    (case h66 => k_is)
    (case h67 => k_is)
    (case h68 => decide)
    (case h69 => k_is)
    (case h70 => k_is)
    (case h71 => k_is)
    (case h72 => k_is)
    (case h73 => k_is)
    (case h74 => k_is)
    (case h75 => k_is)
    (case h76 => k_is)
    (case h77 => k_is)
    (case h78 => k_is)
    (case h79 => k_is)
    (case h80 => k_is)
    (case h81 => k_is)
    (case h82 => k_is)
    (case h83 => k_is)
    (case h84 => k_is)
    (case h85 => k_is)
    (case h86 => k_is)
    (case h87 => k_is)
    (case h88 => k_is)
    (case h89 => k_is)
    (case h90 => k_is)
    (case h91 => k_is)
    (case h92 => k_is)
    (case h93 => k_is)
    (case h94 => k_is)
    (case h95 => k_is)
    (case h96 => k_is)
    (case h97 => k_is)
    (case h98 => k_is)
    (case h99 => k_is)
    (case h100 => k_is)
    (case h101 => k_is)
    (case h102 => k_is)
    (case h103 => k_is)
    (case h104 => k_is)
    (case h105 => k_is)
    (case h106 => k_is)
    (case h107 => k_is)
    (case h108 => k_is)
    (case h109 => k_is)
    (case h110 => k_is)
    (case h111 => k_is)
    (case h112 => k_is)
    (case h113 => k_is)
    (case h114 => k_is)
    (case h115 => k_is)
    (case h116 => k_is)
    (case h117 => k_is)
    (case h118 => k_is)
    (case h119 => k_is)
    (case h120 => k_is)
    (case h121 => k_is)
    (case h122 => k_is)
    (case h123 => k_is)
    (case h124 => k_is)
    (case h125 => k_is)
    (case h126 => k_is)
    (case h127 => k_is)
    (case h128 => k_is)
    (case h129 => k_is)
    (case h130 => k_is)
    (case h131 => k_is)
    (case h132 => k_is)
    (case h133 => k_is)
    (case h134 => k_is)
    (case h135 => k_is)
    (case h136 => k_is)
    (case h137 => k_is)
    (case h138 => k_is)
    (case h139 => exact ⟨_, rfl⟩)
    (case h140 => k_is)
    (case h141 => exact ⟨_, rfl⟩)
    (case h142 => k_is)
    (case h143 => exact ⟨_, rfl⟩)
    (case h144 => k_is)
    (case h145 => exact ⟨_, rfl⟩)
    (case h146 => k_is)
    (case h147 => exact ⟨_, rfl⟩)
