import PyProof.Rows.All
import Wide.All
import OpenK.AllK
import Wide.FinOn
import HandS.ForMost
import HandS.ForExc
import HandS.Wide
import HandS.WideBits
import HandS.WideMore
import HandS.Gcd
import HandS.IsInst
import HandS.Lambda
import HandS.TryMany
import HandS.Conv
import HandS.Deep
import HandS.Zip
import HandS.TupAny
import HandS.More
import HandS.Flow
import HandS.Codes
import KE.KMathG
import KE.KMathGC
import Flt.RightSqrt
import HandS.TupMul
import HandS.SetFor
import HandS.TupSets
import PyProof.ZipIter
import PyProof.CallType
import PyProof.Walk
import PyProof.WalkLemmas
import PyProof.RangeIter
import PyProof.RulesTry
import HandS.Sort
import HandS.RaiseMore
import HandS.HeadHook1
import KE.KDflt
import HandS.HeadHook2
import HandS.HeadEnd
import HandS.HeadWalk
import HandS.EndTab
import HandS.EndBits
import HandS.Head0
import HandS.Head1
import HandS.Head2
import HandS.Head3
import KE.KStateDown
import PySem.Challenge.RW_treespace_k12_whole_texts
section
set_option Elab.async false
set_option linter.all false
set_option maxRecDepth 100000
set_option maxHeartbeats 4000000
/-! what a text does, told over data (PyData) and mutable lists and dicts beside it; over the hand layer -/
namespace DX
open PySem PySem.Spec PyProof.Rows L2
set_option autoImplicit false


/-! ### the weakest readings -/
def wE (X : Cx) (e : Expr) : TE := fun σ H Q => ∀ pins s, Inv X pins σ H s → wpAny (model X.prog X.w) X.A (eval e X.env) (EP X pins σ Q) X.xe s
def wT (X : Cx) (e : Expr) : TT := fun σ H Q => ∀ pins s, Inv X pins σ H s → wpAny (model X.prog X.w) X.A (isTrue e X.env (eval e X.env)) (TP X pins σ Q) X.xe s
def wW (X : Cx) (e : Expr) : TT := fun σ H Q => ∀ whole pins s, Inv X pins σ H s → wpAny (model X.prog X.w) X.A (isTrue e X.env whole) (TP X pins σ Q) X.xe s
def wA (X : Cx) (es : List Expr) : TA := fun σ H Q => ∀ pos pins s, Inv X pins σ H s → wpAny (model X.prog X.w) X.A (spliced (backTo pos (starEach es X.env))) (AP X pins σ Q) X.xe s
def wS (X : Cx) (st : List Stmt) : TS := fun D σ H => ∀ pins s, Inv X pins σ H s → wpAny (model X.prog X.w) X.A (execs st X.env) (SP X pins D) X.xe s
section
variable {X : Cx}
theorem peW (e : Expr) : PE X e (wE X e) := ⟨fun pins s _ _ _ I h => h pins s I⟩
theorem ptW (e : Expr) : PT X e (wT X e) := ⟨fun pins s _ _ _ I h => h pins s I⟩
theorem pwW (e : Expr) : PW X e (wW X e) := ⟨fun wh pins s _ _ _ I h => h wh pins s I⟩
theorem paW (es : List Expr) : PA X es (wA X es) := ⟨fun pos pins s _ _ _ I h => h pos pins s I⟩
theorem pssW (st : List Stmt) : PSs X st (wS X st) := ⟨fun pins s _ _ _ I h => h pins s I⟩
theorem wE_of {e : Expr} {t : TE} (h : PE X e t) {σ : List (Option V)} {H : Hp} {Q : VK} (q : t σ H Q) : wE X e σ H Q := fun pins s I => h.run pins s σ H Q I q
theorem wT_of {e : Expr} {t : TT} (h : PT X e t) {σ : List (Option V)} {H : Hp} {Q : Bool → Hp → Prop} (q : t σ H Q) : wT X e σ H Q := fun pins s I => h.run pins s σ H Q I q
theorem wW_of {e : Expr} {t : TT} (h : PW X e t) {σ : List (Option V)} {H : Hp} {Q : Bool → Hp → Prop} (q : t σ H Q) : wW X e σ H Q := fun wh pins s I => h.run wh pins s σ H Q I q
theorem wA_of {es : List Expr} {t : TA} (h : PA X es t) {σ : List (Option V)} {H : Hp} {Q : List V → Hp → Prop} (q : t σ H Q) : wA X es σ H Q := fun pos pins s I => h.run pos pins s σ H Q I q
theorem wS_of {st : List Stmt} {t : TS} (h : PSs X st t) {D : Ends} {σ : List (Option V)} {H : Hp} (q : t D σ H) : wS X st D σ H := fun pins s I => h.run pins s σ H D I q
end

/-! ### data states -/
/-- what a slot holds: data, a mutable thing at an address, or what is not told -/
inductive DV
  | d (x : PyData)
  | m (a : Addr)
  | no
/-- what stands at a mutable address -/
inductive MO
  | lst (ds : List PyData)
  | dct (kvs : List (Key × PyData))
  | tab (q : Str)
structure DS where
  g : List DV
  m : List (Addr × MO)
def DS.as (S : DS) : List Addr := S.m.map (·.1)
def hide (A : List Addr) (H : Hp) : Hp := fun a => if a ∈ A then none else H a
theorem hide_in {A : List Addr} {H : Hp} {a : Addr} (h : a ∈ A) : hide A H a = none := if_pos h
theorem hide_out {A : List Addr} {H : Hp} {a : Addr} (h : a ∉ A) : hide A H a = H a := if_neg h
theorem hide_some {A : List Addr} {H : Hp} {a : Addr} {o : HO} (h : hide A H a = some o) : H a = some o ∧ a ∉ A := by
  by_cases e : a ∈ A
  · rw [hide_in e] at h; cases h
  · rw [hide_out e] at h; exact ⟨h, e⟩
theorem hide_nil (H : Hp) : hide [] H = H := funext fun a => hide_out (by simp)
def Ex (H H' : Hp) : Prop := ∀ a o, H a = some o → H' a = some o
theorem Ex.refl (H : Hp) : Ex H H := fun _ _ h => h
theorem Ex.trans {H H1 H2 : Hp} (a : Ex H H1) (b : Ex H1 H2) : Ex H H2 := fun x o h => b x o (a x o h)
theorem Ex.new {H : Hp} {p : Addr} {o : HO} (h : H p = none) : Ex H (upd H p o) := fun a u e => by
  rw [upd_ne (ne_of_none e h)]
  exact e
theorem ex_rd {H H' : Hp} {a : Addr} {u : HO} (e : Ex H H') (h : Rd H a u) : Rd H' a u := by
  rcases h with h | ⟨o, h⟩
  · exact Or.inl (e a _ h)
  · exact Or.inr ⟨o, e a _ h⟩
theorem ex_l {K : PySem.W.Frag} {H H' : Hp} {a : Addr} {xs : List V} (e : Ex H H') (h : SqL K H a xs) : SqL K H' a xs := by
  rcases h with h | h
  · exact Or.inl (ex_rd e h)
  · exact Or.inr h
theorem ex_t {K : PySem.W.Frag} {H H' : Hp} {a : Addr} {xs : List V} (e : Ex H H') (h : SqT K H a xs) : SqT K H' a xs := by
  rcases h with h | h
  · exact Or.inl (ex_rd e h)
  · exact Or.inr h
mutual
theorem Dp.ex {K : PySem.W.Frag} {H H' : Hp} (e : Ex H H') : ∀ {v : V} {d : PyData}, Dp K H v d → Dp K H' v d
  | _, _, .non => .non
  | _, _, .bl b => .bl b
  | _, _, .int i => .int i
  | _, _, .str x => .str x
  | _, _, .lst h hs => .lst (ex_l e h) (DpAll.ex e hs)
  | _, _, .tup h hs => .tup (ex_t e h) (DpAll.ex e hs)
theorem DpAll.ex {K : PySem.W.Frag} {H H' : Hp} (e : Ex H H') : ∀ {vs : List V} {ds : List PyData}, DpAll K H vs ds → DpAll K H' vs ds
  | _, _, .nil => .nil
  | _, _, .cons h hs => .cons (Dp.ex e h) (DpAll.ex e hs)
end
theorem hide_ex {A : List Addr} {H : Hp} : Ex (hide A H) H := fun _ _ h => (hide_some h).1
theorem hide_sub {A B : List Addr} {H : Hp} (h : ∀ c ∈ B, c ∈ A) : Ex (hide A H) (hide B H) := fun a o e => by
  obtain ⟨e1, e2⟩ := hide_some e
  rw [hide_out fun q => e2 (h a q)]
  exact e1
theorem hide_mono {A B : List Addr} {H : Hp} (h : ∀ a ∈ B, a ∈ A ∨ H a = none) : Ex (hide A H) (hide B H) := fun a o e => by
  obtain ⟨e1, e2⟩ := hide_some e
  rw [hide_out]
  · exact e1
  · intro q
    rcases h a q with k | k
    · exact e2 k
    · rw [e1] at k; cases k
theorem DpAll.len {K : PySem.W.Frag} {H : Hp} : ∀ {vs : List V} {ds : List PyData}, DpAll K H vs ds → vs.length = ds.length
  | _, _, .nil => rfl
  | _, _, .cons _ hs => by rw [List.length_cons, List.length_cons, DpAll.len hs]
theorem dpAll_get {K : PySem.W.Frag} {H : Hp} {vs : List V} {ds : List PyData} (h : DpAll K H vs ds) : ∀ {i : Nat} {d : PyData}, ds[i]? = some d → ∃ v, vs[i]? = some v ∧ Dp K H v d := by
  intro i
  induction i generalizing vs ds with
  | zero =>
    intro d e
    cases h with
    | nil => simp at e
    | cons h hs => exact ⟨_, rfl, by cases (Option.some.inj e); exact h⟩
  | succ i ih =>
    intro d e
    cases h with
    | nil => simp at e
    | cons h hs => exact ih hs e
theorem dpAll_getV {K : PySem.W.Frag} {H : Hp} {vs : List V} {ds : List PyData} (h : DpAll K H vs ds) : ∀ {i : Nat} {v : V}, vs[i]? = some v → ∃ d, ds[i]? = some d ∧ Dp K H v d := by
  intro i
  induction i generalizing vs ds with
  | zero =>
    intro d e
    cases h with
    | nil => simp at e
    | cons h hs => exact ⟨_, rfl, by cases (Option.some.inj e); exact h⟩
  | succ i ih =>
    intro d e
    cases h with
    | nil => simp at e
    | cons h hs => exact ih hs e
theorem DpAll.append {K : PySem.W.Frag} {H : Hp} : ∀ {vs ws : List V} {ds es : List PyData}, DpAll K H vs ds → DpAll K H ws es → DpAll K H (vs ++ ws) (ds ++ es)
  | _, _, _, _, .nil, h => h
  | _, _, _, _, .cons h hs, g => .cons h (DpAll.append hs g)
theorem DpAll.ints {K : PySem.W.Frag} {H : Hp} : ∀ ns : List Int, DpAll K H (ns.map V.int) (ns.map PyData.int)
  | [] => .nil
  | n :: ns => .cons (.int n) (DpAll.ints ns)
def VOk (K : PySem.W.Frag) (A : List Addr) (H : Hp) (v : V) : DV → Prop
  | .d x => Dp K (hide A H) v x
  | .m a => v = .ref a ∧ a ∈ A
  | .no => True
inductive KvAll (K : PySem.W.Frag) (H : Hp) : List (Key × V) → List (Key × PyData) → Prop
  | nil : KvAll K H [] []
  | cons {k : Key} {v : V} {d : PyData} {us : List (Key × V)} {kvs : List (Key × PyData)} : Dp K H v d → KvAll K H us kvs → KvAll K H ((k, v) :: us) ((k, d) :: kvs)
theorem KvAll.ex {K : PySem.W.Frag} {H H' : Hp} (e : Ex H H') {us : List (Key × V)} {kvs : List (Key × PyData)} (h : KvAll K H us kvs) : KvAll K H' us kvs := by
  induction h with
  | nil => exact .nil
  | cons h _ ih => exact .cons (Dp.ex e h) ih
def MOk (K : PySem.W.Frag) (A : List Addr) (H : Hp) (a : Addr) : MO → Prop
  | .lst ds => ∃ vs, H a = some (.lst vs) ∧ DpAll K (hide A H) vs ds
  | .dct kvs => ∃ us, H a = some (.dK us) ∧ KvAll K (hide A H) us kvs
  | .tab q => LamX.TabS H a q
/-- a def's frame: what stood at its entry stands but for the things that it was given to change (fx); hd: what its callers may change -/
structure Bs where
  K : PySem.W.Frag
  B : Hp
  fx : List Addr
  hd : List Addr
  hdt : ∀ a ∈ hd, B a ≠ none ∧ a ∉ fx
def Hd (b : Bs) (S : DS) : List Addr := b.hd ++ S.as
structure RelM (b : Bs) (S : DS) (H : Hp) : Prop where
  mem : ∀ p ∈ S.m, MOk b.K (Hd b S) H p.1 p.2
  nd : S.as.Nodup
  fr : ∀ a ∈ S.as, b.B a = none ∨ a ∈ b.fx
  ext : ∀ a o, b.B a = some o → a ∉ b.fx → H a = some o
  fxs : ∀ a ∈ b.fx, a ∈ S.as
structure Rel (b : Bs) (S : DS) (σ : List (Option V)) (H : Hp) : Prop where
  len : σ.length = S.g.length
  slot : ∀ (i : Nat) (x : DV), S.g[i]? = some x → x = .no ∨ ∃ v, σ[i]? = some (some v) ∧ VOk b.K (Hd b S) H v x
  rm : RelM b S H
theorem RelM.tracked {b : Bs} {S : DS} {H : Hp} (r : RelM b S H) : ∀ a ∈ Hd b S, H a ≠ none := fun a h => by
  rcases List.mem_append.mp h with q | q
  · obtain ⟨h1, h2⟩ := b.hdt a q
    cases e : b.B a with
    | none => exact (h1 e).elim
    | some o => rw [r.ext a o e h2]; exact fun z => nomatch z
  · obtain ⟨t, ht, e⟩ := List.mem_map.mp q
    have := r.mem t ht
    obtain ⟨a', mo⟩ := t
    subst e
    cases mo with
    | lst ds => obtain ⟨vs, q, _⟩ := this; rw [q]; exact fun z => nomatch z
    | dct ds => obtain ⟨vs, q, _⟩ := this; rw [q]; exact fun z => nomatch z
    | tab q => obtain ⟨vs, q, _⟩ := this; rw [q]; exact fun z => nomatch z
inductive VAll (K : PySem.W.Frag) (A : List Addr) (H : Hp) : List V → List DV → Prop
  | nil : VAll K A H [] []
  | cons {v : V} {x : DV} {vs : List V} {xs : List DV} : VOk K A H v x → VAll K A H vs xs → VAll K A H (v :: vs) (x :: xs)
theorem VOk.ex {K : PySem.W.Frag} {A A' : List Addr} {H H' : Hp} {v : V} {x : DV} (e : Ex (hide A H) (hide A' H')) (ha : ∀ a ∈ A, a ∈ A') (h : VOk K A H v x) : VOk K A' H' v x := by
  cases x with
  | d x => exact Dp.ex e h
  | m a => exact ⟨h.1, ha a h.2⟩
  | no => trivial
/-- the heap grows, or changes where nothing mutable stands -/
theorem RelM.grow {b : Bs} {S : DS} {H H' : Hp} (r : RelM b S H) (e : Ex H H') : RelM b S H' ∧ Ex (hide (Hd b S) H) (hide (Hd b S) H') := by
  have x : Ex (hide (Hd b S) H) (hide (Hd b S) H') := fun a u h => by
    obtain ⟨h1, h2⟩ := hide_some h
    rw [hide_out h2]
    exact e a u h1
  refine ⟨⟨fun t ht => ?_, r.nd, r.fr, fun a o' h1 h2 => e a o' (r.ext a o' h1 h2), r.fxs⟩, x⟩
  have := r.mem t ht
  obtain ⟨a, mo⟩ := t
  cases mo with
  | lst ds => obtain ⟨vs, q1, q2⟩ := this; exact ⟨vs, e _ _ q1, DpAll.ex x q2⟩
  | dct ds => obtain ⟨vs, q1, q2⟩ := this; exact ⟨vs, e _ _ q1, KvAll.ex x q2⟩
  | tab q => exact LamX.TabS.ext this e
theorem Rel.grow {b : Bs} {S : DS} {σ : List (Option V)} {H H' : Hp} (r : Rel b S σ H) (e : Ex H H') : Rel b S σ H' ∧ Ex (hide (Hd b S) H) (hide (Hd b S) H') := by
  obtain ⟨h1, h2⟩ := r.rm.grow e
  refine ⟨⟨r.len, fun i x h => ?_, h1⟩, h2⟩
  rcases r.slot i x h with q | ⟨v, q, k⟩
  · exact .inl q
  · exact .inr ⟨v, q, k.ex h2 fun _ h => h⟩
theorem RelM.fresh {b : Bs} {S : DS} {H : Hp} {p : Addr} (r : RelM b S H) (hp : H p = none) : p ∉ Hd b S := fun q => r.tracked p q hp

/-! ### the judgements -/
section
variable (X : Cx) (b : Bs)
/-- an expression gives x and leaves the state S' -/
def EV (e : Expr) (S : DS) (x : DV) (S' : DS) : Prop := ∀ σ H, Rel b S σ H → ∀ Q : VK, (∀ v H', VOk b.K (Hd b S') H' v x → Rel b S' σ H' → Ex (hide (Hd b S) H) (hide (Hd b S') H') → (∀ a ∈ Hd b S, a ∈ Hd b S') → Q v H') → wE X e σ H Q
def EA (es : List Expr) (S : DS) (xs : List DV) (S' : DS) : Prop := ∀ σ H, Rel b S σ H → ∀ Q : List V → Hp → Prop, (∀ vs H', VAll b.K (Hd b S') H' vs xs → Rel b S' σ H' → Ex (hide (Hd b S) H) (hide (Hd b S') H') → (∀ a ∈ Hd b S, a ∈ Hd b S') → Q vs H') → wA X es σ H Q
def ET (e : Expr) (S : DS) (c : Bool) (S' : DS) : Prop := ∀ σ H, Rel b S σ H → ∀ Q : Bool → Hp → Prop, (∀ H', Rel b S' σ H' → Ex (hide (Hd b S) H) (hide (Hd b S') H') → (∀ a ∈ Hd b S, a ∈ Hd b S') → Q c H') → wT X e σ H Q
def EW (e : Expr) (S : DS) (c : Bool) (S' : DS) : Prop := ∀ σ H, Rel b S σ H → ∀ Q : Bool → Hp → Prop, (∀ H', Rel b S' σ H' → Ex (hide (Hd b S) H) (hide (Hd b S') H') → (∀ a ∈ Hd b S, a ∈ Hd b S') → Q c H') → wW X e σ H Q
/-- what is wanted behind statements -/
structure DE where
  nx : DS → Prop
  rt : DV → DS → Prop
  bk : DS → Prop := fun _ => False
  ct : DS → Prop := fun _ => False
/-- the ends over heaps: X1 is where one began -/
structure EndsOk (b : Bs) (S : DS) (H : Hp) (D : DE) (E : Ends) : Prop where
  nx : ∀ S' σ' H', D.nx S' → Rel b S' σ' H' → Ex (hide (Hd b S) H) (hide (Hd b S') H') → E.nx σ' H'
  rt : ∀ x S' v H', D.rt x S' → VOk b.K (Hd b S') H' v x → RelM b S' H' → Ex (hide (Hd b S) H) (hide (Hd b S') H') → E.rt v H'
  bk : ∀ S' σ' H', D.bk S' → Rel b S' σ' H' → Ex (hide (Hd b S) H) (hide (Hd b S') H') → E.bk σ' H'
  ct : ∀ S' σ' H', D.ct S' → Rel b S' σ' H' → Ex (hide (Hd b S) H) (hide (Hd b S') H') → E.ct σ' H'
def w1 (X : Cx) (st : Stmt) : TS := fun D σ H => ∀ pins s, Inv X pins σ H s → wpAny (model X.prog X.w) X.A (exec st X.env) (SP X pins D) X.xe s
def SX (st : List Stmt) (S : DS) (D : DE) : Prop := ∀ σ H, Rel b S σ H → ∀ E : Ends, EndsOk b S H D E → wS X st E σ H
def SY (st : Stmt) (S : DS) (D : DE) : Prop := ∀ σ H, Rel b S σ H → ∀ E : Ends, EndsOk b S H D E → w1 X st E σ H
end
/-- by values: an operation of two things -/
def RV (b : Bs) (r : R2) (x y : DV) (S : DS) (z : DV) : Prop := ∀ H u v, RelM b S H → VOk b.K (Hd b S) H u x → VOk b.K (Hd b S) H v y → ∀ Q : VK, (∀ w H', VOk b.K (Hd b S) H' w z → (∀ σ, Rel b S σ H → Rel b S σ H') → Ex (hide (Hd b S) H) (hide (Hd b S) H') → Q w H') → r u v H Q
section
variable {X : Cx} {b : Bs} {S S1 S2 S3 S' : DS} {x y z : DV} {pos : Pos}
theorem ev_name {i : Nat} {nm : Str} (hN : X.N[i]? = some nm) (hv : Vis X.env.scope nm) (h : S.g[i]? = some x) (hx : x ≠ .no) (hd : (nm == ("__debug__" : Str)) = false) (hcd : (nm == ("__classdict__" : Str)) = false) : EV X b (.Name nm pos) S x S := by
  intro σ H r Q q
  refine wE_of (pe_var hN hv hd hcd) ?_
  rcases r.slot i x h with k | ⟨v, k1, k2⟩
  · exact (hx k).elim
  · exact ⟨v, k1, q v H k2 r (Ex.refl _) fun _ h => h⟩
theorem ev_int {i : Int} {j} : EV X b (.Constant (.int i) j pos) S (.d (.int i)) S := fun σ H r Q q => wE_of pe_int (q _ H (.int i) r (Ex.refl _) fun _ h => h)
theorem ev_bl {c : Bool} {j} : EV X b (.Constant (.bool c) j pos) S (.d (.bool c)) S := fun σ H r Q q => wE_of pe_bl (q _ H (.bl c) r (Ex.refl _) fun _ h => h)
theorem ev_non {j} : EV X b (.Constant .none j pos) S (.d .none) S := fun σ H r Q q => wE_of pe_non (q _ H .non r (Ex.refl _) fun _ h => h)
theorem ev_str {c : Str} {j} : EV X b (.Constant (.str c) j pos) S (.d (.str c)) S := fun σ H r Q q => wE_of pe_str (q _ H (.str c) r (Ex.refl _) fun _ h => h)
theorem ev_gint {nm : Str} {i : Int} {t : Tok} (hg : Gl X nm) (hm : X.mg nm = some (.int i t)) (hd : (nm == ("__debug__" : Str)) = false) : EV X b (.Name nm pos) S (.d (.int i)) S := fun σ H r Q q => wE_of (pe_glob (v := .int i) hg hm ⟨t, rfl⟩ hd) (q _ H (.int i) r (Ex.refl _) fun _ h => h)
theorem ev_op {e1 e2 : Expr} {op : Operator} {r2 : R2} (ho : OpR X (binaryOp op) r2) (h1 : EV X b e1 S x S1) (h2 : EV X b e2 S1 y S2) (hr : RV b r2 x y S2 z) : EV X b (.BinOp e1 op e2 pos) S z S2 := by
  intro σ H r Q q
  refine wE_of (pe_op ho (peW _) (peW _)) ?_
  refine h1 σ H r _ fun u H1 k1 r1 x1 a1 => ?_
  refine h2 σ H1 r1 _ fun v H2 k2 r2' x2 a2 => ?_
  exact hr H2 u v r2'.rm (k1.ex x2 a2) k2 Q fun w H3 k3 r3 x3 => q w H3 k3 (r3 σ r2') ((x1.trans x2).trans x3) fun a ha => a2 a (a1 a ha)
/-- a value of two ints that stays -/
theorem rv_I {C : Int → Int → Prop} {g : Int → Int → V} {i j : Int} {d : PyData} (hc : C i j) (hg : ∀ H, Dp b.K H (g i j) d) : RV b (rI C g) (.d (.int i)) (.d (.int j)) S (.d d) := by
  intro H u v rm hu hv Q q
  cases hu; cases hv
  exact ⟨i, j, rfl, rfl, hc, q _ H (hg _) (fun _ h => h) (Ex.refl _)⟩
theorem rv_I0 {g : Int → Int → V} {i j : Int} {d : PyData} (hg : ∀ H, Dp b.K H (g i j) d) : RV b (rI0 g) (.d (.int i)) (.d (.int j)) S (.d d) := by
  intro H u v rm hu hv Q q
  cases hu; cases hv
  exact ⟨i, j, rfl, rfl, q _ H (hg _) (fun _ h => h) (Ex.refl _)⟩
theorem ev_add {e1 e2 : Expr} {i j : Int} (h1 : EV X b e1 S (.d (.int i)) S1) (h2 : EV X b e2 S1 (.d (.int j)) S2) : EV X b (.BinOp e1 .Add e2 pos) S (.d (.int (i + j))) S2 := ev_op op_add h1 h2 (rv_I0 fun _ => .int _)
theorem ev_sub {e1 e2 : Expr} {i j : Int} (h1 : EV X b e1 S (.d (.int i)) S1) (h2 : EV X b e2 S1 (.d (.int j)) S2) : EV X b (.BinOp e1 .Sub e2 pos) S (.d (.int (i - j))) S2 := ev_op op_sub h1 h2 (rv_I0 fun _ => .int _)
theorem ev_mul {e1 e2 : Expr} {i j : Int} (h1 : EV X b e1 S (.d (.int i)) S1) (h2 : EV X b e2 S1 (.d (.int j)) S2) (hc : CMulX i j) : EV X b (.BinOp e1 .Mult e2 pos) S (.d (.int (i * j))) S2 := ev_op op_mulX h1 h2 (rv_I hc fun _ => .int _)
theorem ev_mod {e1 e2 : Expr} {i j : Int} (h1 : EV X b e1 S (.d (.int i)) S1) (h2 : EV X b e2 S1 (.d (.int j)) S2) (hc : 0 < j) : EV X b (.BinOp e1 .Mod e2 pos) S (.d (.int (i % j))) S2 := ev_op op_mod h1 h2 (rv_I hc fun _ => .int _)
theorem ev_fdiv {e1 e2 : Expr} {i j : Int} (h1 : EV X b e1 S (.d (.int i)) S1) (h2 : EV X b e2 S1 (.d (.int j)) S2) (hc : CDivW i j) : EV X b (.BinOp e1 .FloorDiv e2 pos) S (.d (.int (i / j))) S2 := ev_op op_fdivW h1 h2 (rv_I hc fun _ => .int _)
theorem ev_shl {e1 e2 : Expr} {i j : Int} (h1 : EV X b e1 S (.d (.int i)) S1) (h2 : EV X b e2 S1 (.d (.int j)) S2) (hc : CShl i j) : EV X b (.BinOp e1 .LShift e2 pos) S (.d (.int (i * 2 ^ j.toNat))) S2 := ev_op op_shlW h1 h2 (rv_I hc fun _ => .int _)
theorem ev_pow {e1 e2 : Expr} {i j : Int} (h1 : EV X b e1 S (.d (.int i)) S1) (h2 : EV X b e2 S1 (.d (.int j)) S2) (hc : CPow i j) : EV X b (.BinOp e1 .Pow e2 pos) S (.d (.int (i ^ j.toNat))) S2 := ev_op op_pow h1 h2 (rv_I hc fun _ => .int _)
/-! comparisons -/
theorem ev_cmp {e1 e2 : Expr} {op : CmpOp} {r2 : R2} (ho : OpR X (compareOp op) r2) (hm : behindInMarks op e2 = false) (h1 : EV X b e1 S x S1) (h2 : EV X b e2 S1 y S2) (hr : RV b r2 x y S2 z) : EV X b (.Compare e1 [op] [e2] pos) S z S2 := by
  intro σ H r Q q
  refine wE_of (pe_cmpR ho (peW _) (peW _) hm) ?_
  refine h1 σ H r _ fun u H1 k1 r1 x1 a1 => ?_
  refine h2 σ H1 r1 _ fun v H2 k2 r2' x2 a2 => ?_
  exact hr H2 u v r2'.rm (k1.ex x2 a2) k2 Q fun w H3 k3 r3 x3 => q w H3 k3 (r3 σ r2') ((x1.trans x2).trans x3) fun a ha => a2 a (a1 a ha)
theorem et_cmp {e1 e2 : Expr} {op : CmpOp} {r2 : R2} {c : Bool} (ho : OpR X (compareOp op) r2) (hm : behindInMarks op e2 = false) (h1 : EV X b e1 S x S1) (h2 : EV X b e2 S1 y S2) (hr : RV b r2 x y S2 (.d (.bool c))) : ET X b (.Compare e1 [op] [e2] pos) S c S2 := by
  intro σ H r Q q
  refine wT_of (pt_cmpR ho (peW _) (peW _) hm) ?_
  refine h1 σ H r _ fun u H1 k1 r1 x1 a1 => ?_
  refine h2 σ H1 r1 _ fun v H2 k2 r2' x2 a2 => ?_
  refine hr H2 u v r2'.rm (k1.ex x2 a2) k2 _ fun w H3 k3 r3 x3 => ?_
  cases k3
  exact ⟨c, rfl, q H3 (r3 σ r2') ((x1.trans x2).trans x3) fun a ha => a2 a (a1 a ha)⟩
end
end DX
end
section
set_option Elab.async false
set_option linter.all false
set_option maxRecDepth 100000
set_option maxHeartbeats 4000000
namespace DX
open PySem PySem.Spec PyProof.Rows L2
set_option autoImplicit false
section
variable {X : Cx} {b : Bs} {S S1 S2 S3 S' : DS} {x y z : DV} {pos : Pos}
/-! ints compared -/
theorem ev_lt {e1 e2 : Expr} {i j : Int} (h1 : EV X b e1 S (.d (.int i)) S1) (h2 : EV X b e2 S1 (.d (.int j)) S2) : EV X b (.Compare e1 [.Lt] [e2] pos) S (.d (.bool (decide (i < j)))) S2 := ev_cmp op_lt (nobehind _ (by decide) (by decide)) h1 h2 (rv_I0 fun _ => .bl _)
theorem ev_le {e1 e2 : Expr} {i j : Int} (h1 : EV X b e1 S (.d (.int i)) S1) (h2 : EV X b e2 S1 (.d (.int j)) S2) : EV X b (.Compare e1 [.LtE] [e2] pos) S (.d (.bool (decide (i ≤ j)))) S2 := ev_cmp op_le (nobehind _ (by decide) (by decide)) h1 h2 (rv_I0 fun _ => .bl _)
theorem ev_gt {e1 e2 : Expr} {i j : Int} (h1 : EV X b e1 S (.d (.int i)) S1) (h2 : EV X b e2 S1 (.d (.int j)) S2) : EV X b (.Compare e1 [.Gt] [e2] pos) S (.d (.bool (decide (j < i)))) S2 := ev_cmp op_gt (nobehind _ (by decide) (by decide)) h1 h2 (rv_I0 fun _ => .bl _)
theorem ev_ge {e1 e2 : Expr} {i j : Int} (h1 : EV X b e1 S (.d (.int i)) S1) (h2 : EV X b e2 S1 (.d (.int j)) S2) : EV X b (.Compare e1 [.GtE] [e2] pos) S (.d (.bool (decide (j ≤ i)))) S2 := ev_cmp op_ge (nobehind _ (by decide) (by decide)) h1 h2 (rv_I0 fun _ => .bl _)
theorem et_lt {e1 e2 : Expr} {i j : Int} (h1 : EV X b e1 S (.d (.int i)) S1) (h2 : EV X b e2 S1 (.d (.int j)) S2) : ET X b (.Compare e1 [.Lt] [e2] pos) S (decide (i < j)) S2 := et_cmp op_lt (nobehind _ (by decide) (by decide)) h1 h2 (rv_I0 fun _ => .bl _)
theorem et_le {e1 e2 : Expr} {i j : Int} (h1 : EV X b e1 S (.d (.int i)) S1) (h2 : EV X b e2 S1 (.d (.int j)) S2) : ET X b (.Compare e1 [.LtE] [e2] pos) S (decide (i ≤ j)) S2 := et_cmp op_le (nobehind _ (by decide) (by decide)) h1 h2 (rv_I0 fun _ => .bl _)
theorem et_gt {e1 e2 : Expr} {i j : Int} (h1 : EV X b e1 S (.d (.int i)) S1) (h2 : EV X b e2 S1 (.d (.int j)) S2) : ET X b (.Compare e1 [.Gt] [e2] pos) S (decide (j < i)) S2 := et_cmp op_gt (nobehind _ (by decide) (by decide)) h1 h2 (rv_I0 fun _ => .bl _)
theorem et_ge {e1 e2 : Expr} {i j : Int} (h1 : EV X b e1 S (.d (.int i)) S1) (h2 : EV X b e2 S1 (.d (.int j)) S2) : ET X b (.Compare e1 [.GtE] [e2] pos) S (decide (j ≤ i)) S2 := et_cmp op_ge (nobehind _ (by decide) (by decide)) h1 h2 (rv_I0 fun _ => .bl _)
/-- == by data -/
theorem rv_eqD {d e : PyData} (h1 : SeqAt.shaped d = true) (h2 : SeqAt.shaped e = true) : RV b (rEqD b.K) (.d d) (.d e) S (.d (.bool (PyData.eqv d e))) := by
  intro H u v rm hu hv Q q
  exact ⟨d, e, Dp.ex hide_ex hu, Dp.ex hide_ex hv, h1, h2, q _ H (.bl _) (fun _ h => h) (Ex.refl _)⟩
theorem rv_neD {d e : PyData} (h1 : SeqAt.shaped d = true) (h2 : SeqAt.shaped e = true) : RV b (rNeD b.K) (.d d) (.d e) S (.d (.bool (!PyData.eqv d e))) := by
  intro H u v rm hu hv Q q
  exact ⟨d, e, Dp.ex hide_ex hu, Dp.ex hide_ex hv, h1, h2, q _ H (.bl _) (fun _ h => h) (Ex.refl _)⟩
theorem ev_eq {e1 e2 : Expr} {d e : PyData} (hK : X.K = b.K) (hu : X.A.units + 64 < cLine) (h1 : EV X b e1 S (.d d) S1) (h2 : EV X b e2 S1 (.d e) S2) (s1 : SeqAt.shaped d = true) (s2 : SeqAt.shaped e = true) : EV X b (.Compare e1 [.Eq] [e2] pos) S (.d (.bool (PyData.eqv d e))) S2 := ev_cmp (op_eqD hu) (nobehind _ (by decide) (by decide)) h1 h2 (by rw [hK]; exact rv_eqD s1 s2)
theorem et_eq {e1 e2 : Expr} {d e : PyData} (hK : X.K = b.K) (hu : X.A.units + 64 < cLine) (h1 : EV X b e1 S (.d d) S1) (h2 : EV X b e2 S1 (.d e) S2) (s1 : SeqAt.shaped d = true) (s2 : SeqAt.shaped e = true) : ET X b (.Compare e1 [.Eq] [e2] pos) S (PyData.eqv d e) S2 := et_cmp (op_eqD hu) (nobehind _ (by decide) (by decide)) h1 h2 (by rw [hK]; exact rv_eqD s1 s2)
theorem ev_ne {e1 e2 : Expr} {d e : PyData} (hK : X.K = b.K) (hu : X.A.units + 64 < cLine) (h1 : EV X b e1 S (.d d) S1) (h2 : EV X b e2 S1 (.d e) S2) (s1 : SeqAt.shaped d = true) (s2 : SeqAt.shaped e = true) : EV X b (.Compare e1 [.NotEq] [e2] pos) S (.d (.bool (!PyData.eqv d e))) S2 := ev_cmp (op_neD hu) (nobehind _ (by decide) (by decide)) h1 h2 (by rw [hK]; exact rv_neD s1 s2)
theorem et_ne {e1 e2 : Expr} {d e : PyData} (hK : X.K = b.K) (hu : X.A.units + 64 < cLine) (h1 : EV X b e1 S (.d d) S1) (h2 : EV X b e2 S1 (.d e) S2) (s1 : SeqAt.shaped d = true) (s2 : SeqAt.shaped e = true) : ET X b (.Compare e1 [.NotEq] [e2] pos) S (!PyData.eqv d e) S2 := et_cmp (op_neD hu) (nobehind _ (by decide) (by decide)) h1 h2 (by rw [hK]; exact rv_neD s1 s2)
/-- ints by == -/
theorem rv_eqI {i j : Int} : RV b rEq (.d (.int i)) (.d (.int j)) S (.d (.bool (decide (i = j)))) := by
  intro H u v rm hu hv Q q
  cases hu; cases hv
  refine ⟨rfl, q _ H ?_ (fun _ h => h) (Ex.refl _)⟩
  have : decide (V.int i = V.int j) = decide (i = j) := by
    by_cases h : i = j
    · subst h; simp
    · simp [h]
  rw [this]
  exact .bl _
theorem rv_neI {i j : Int} : RV b rNe (.d (.int i)) (.d (.int j)) S (.d (.bool (!decide (i = j)))) := by
  intro H u v rm hu hv Q q
  cases hu; cases hv
  refine ⟨rfl, q _ H ?_ (fun _ h => h) (Ex.refl _)⟩
  have : decide (V.int i = V.int j) = decide (i = j) := by
    by_cases h : i = j
    · subst h; simp
    · simp [h]
  rw [this]
  exact .bl _
theorem ev_eqI {e1 e2 : Expr} {i j : Int} (h1 : EV X b e1 S (.d (.int i)) S1) (h2 : EV X b e2 S1 (.d (.int j)) S2) : EV X b (.Compare e1 [.Eq] [e2] pos) S (.d (.bool (decide (i = j)))) S2 := ev_cmp op_eq (nobehind _ (by decide) (by decide)) h1 h2 rv_eqI
theorem et_eqI {e1 e2 : Expr} {i j : Int} (h1 : EV X b e1 S (.d (.int i)) S1) (h2 : EV X b e2 S1 (.d (.int j)) S2) : ET X b (.Compare e1 [.Eq] [e2] pos) S (decide (i = j)) S2 := et_cmp op_eq (nobehind _ (by decide) (by decide)) h1 h2 rv_eqI
theorem ev_neI {e1 e2 : Expr} {i j : Int} (h1 : EV X b e1 S (.d (.int i)) S1) (h2 : EV X b e2 S1 (.d (.int j)) S2) : EV X b (.Compare e1 [.NotEq] [e2] pos) S (.d (.bool (!decide (i = j)))) S2 := ev_cmp op_ne (nobehind _ (by decide) (by decide)) h1 h2 rv_neI
theorem et_neI {e1 e2 : Expr} {i j : Int} (h1 : EV X b e1 S (.d (.int i)) S1) (h2 : EV X b e2 S1 (.d (.int j)) S2) : ET X b (.Compare e1 [.NotEq] [e2] pos) S (!decide (i = j)) S2 := et_cmp op_ne (nobehind _ (by decide) (by decide)) h1 h2 rv_neI
/-- a chain of two -/
theorem et_chain {e1 e2 e3 : Expr} {op op' : CmpOp} {r r' : R2} {c c' : Bool} {u : DV} (ho : OpR X (compareOp op) r) (ho' : OpR X (compareOp op') r') (hl : lastMarks [op, op'] [e2, e3] = false) (h1 : EV X b e1 S x S) (h2 : EV X b e2 S y S) (h3 : EV X b e3 S u S)
    (hr : RV b r x y S (.d (.bool c))) (hr' : RV b r' y u S (.d (.bool c'))) : ET X b (.Compare e1 [op, op'] [e2, e3] pos) S (c && c') S := by
  intro σ H rl Q q
  refine wT_of (pt_chain ho ho' (peW _) (peW _) (peW _) hl) ?_
  refine h1 σ H rl _ fun v1 H1 k1 r1 x1 a1 => ?_
  refine h2 σ H1 r1 _ fun v2 H2 k2 r2 x2 a2 => ?_
  refine hr H2 v1 v2 r2.rm (k1.ex x2 a2) k2 _ fun w H3 k3 r3 x3 => ?_
  cases k3
  refine ⟨c, rfl, ?_⟩
  cases c with
  | true =>
    show wE X e3 σ H3 _
    refine h3 σ H3 (r3 σ r2) _ fun v3 H4 k4 r4 x4 a4 => ?_
    refine hr' H4 v2 v3 r4.rm (k2.ex (x3.trans x4) a4) k4 _ fun w' H5 k5 r5 x5 => ?_
    cases k5
    exact ⟨c', rfl, q H5 (r5 σ r4) ((((x1.trans x2).trans x3).trans x4).trans x5) fun _ h => h⟩
  | false => exact ⟨false, rfl, q H3 (r3 σ r2) ((x1.trans x2).trans x3) fun _ h => h⟩
theorem ev_chain {e1 e2 e3 : Expr} {op op' : CmpOp} {r r' : R2} {c c' : Bool} {u : DV} (ho : OpR X (compareOp op) r) (ho' : OpR X (compareOp op') r') (hl : lastMarks [op, op'] [e2, e3] = false) (h1 : EV X b e1 S x S) (h2 : EV X b e2 S y S) (h3 : EV X b e3 S u S)
    (hr : RV b r x y S (.d (.bool c))) (hr' : RV b r' y u S (.d (.bool c'))) : EV X b (.Compare e1 [op, op'] [e2, e3] pos) S (.d (.bool (c && c'))) S := by
  intro σ H rl Q q
  refine wE_of (pe_chain ho ho' (peW _) (peW _) (peW _) hl) ?_
  refine h1 σ H rl _ fun v1 H1 k1 r1 x1 a1 => ?_
  refine h2 σ H1 r1 _ fun v2 H2 k2 r2 x2 a2 => ?_
  refine hr H2 v1 v2 r2.rm (k1.ex x2 a2) k2 _ fun w H3 k3 r3 x3 => ?_
  cases k3
  refine ⟨c, rfl, ?_⟩
  cases c with
  | true =>
    show wE X e3 σ H3 _
    refine h3 σ H3 (r3 σ r2) _ fun v3 H4 k4 r4 x4 a4 => ?_
    refine hr' H4 v2 v3 r4.rm (k2.ex (x3.trans x4) a4) k4 _ fun w' H5 k5 r5 x5 => ?_
    cases k5
    exact q _ H5 (.bl _) (r5 σ r4) ((((x1.trans x2).trans x3).trans x4).trans x5) fun _ h => h
  | false => exact q _ H3 (.bl _) (r3 σ r2) ((x1.trans x2).trans x3) fun _ h => h
/-! and, or, not, truth -/
theorem et_val {e : Expr} {c : Bool} (h : EV X b e S (.d (.bool c)) S1) (he : ∀ whole, isTrue e X.env whole = (do let v ← whole; standAt e.pos; holding [v] (truthy v)) := by intro _; rfl) : ET X b e S c S1 := by
  intro σ H r Q q
  refine wT_of (pt_val (peW _) he) (h σ H r _ fun v H1 k1 r1 x1 a1 => ?_)
  cases k1
  exact ⟨c, rfl, q H1 r1 x1 a1⟩
theorem et_truth {e : Expr} {x : DV} {c : Bool} (h : EV X b e S x S1) (ht : ∀ v H, VOk b.K (Hd b S1) H v x → TruV X.K v H c) (he : ∀ whole, isTrue e X.env whole = (do let v ← whole; standAt e.pos; holding [v] (truthy v)) := by intro _; rfl) : ET X b e S c S1 := by
  intro σ H r Q q
  refine wT_of (pt_truth (peW _) he) (h σ H r _ fun v H1 k1 r1 x1 a1 => ?_)
  exact ⟨c, ht v H1 k1, q H1 r1 x1 a1⟩
theorem tru_tup {ds : List PyData} (hK : X.K = b.K) : ∀ v H, VOk b.K (Hd b S) H v (.d (.tuple ds)) → TruV X.K v H (!ds.isEmpty) := by
  intro v H h
  cases h with
  | tup hs ha =>
    rename_i a xs
    refine .inr (.inl ⟨xs, by rw [hK]; exact ex_t hide_ex hs, ?_⟩)
    have := DpAll.len ha
    cases ds <;> cases xs <;> simp_all
theorem et_and1 {a : Expr} {c : Bool} (h : ET X b a S c S1) : EW X b (.BoolOp .And [a] pos) S c S1 := fun σ H r Q q => wW_of (pw_and1 (ptW _)) (h σ H r Q q)
theorem et_or1 {a : Expr} {c : Bool} (h : ET X b a S c S1) : EW X b (.BoolOp .Or [a] pos) S c S1 := fun σ H r Q q => wW_of (pw_or1 (ptW _)) (h σ H r Q q)
theorem ew_and {a e : Expr} {rest : List Expr} {c d : Bool} (h1 : ET X b a S c S) (h2 : c = true → EW X b (.BoolOp .And (e :: rest) pos) S d S) : EW X b (.BoolOp .And (a :: e :: rest) pos) S (c && d) S := by
  intro σ H r Q q
  refine wW_of (pw_and (ptW _) (pwW _)) (h1 σ H r _ fun H1 r1 x1 a1 => ?_)
  cases c with
  | true => exact h2 rfl σ H1 r1 Q fun H2 r2 x2 a2 => q H2 r2 (x1.trans x2) a2
  | false => exact q H1 r1 x1 a1
theorem ew_or {a e : Expr} {rest : List Expr} {c d : Bool} (h1 : ET X b a S c S) (h2 : c = false → EW X b (.BoolOp .Or (e :: rest) pos) S d S) : EW X b (.BoolOp .Or (a :: e :: rest) pos) S (c || d) S := by
  intro σ H r Q q
  refine wW_of (pw_or (ptW _) (pwW _)) (h1 σ H r _ fun H1 r1 x1 a1 => ?_)
  cases c with
  | false => exact h2 rfl σ H1 r1 Q fun H2 r2 x2 a2 => q H2 r2 (x1.trans x2) a2
  | true => exact q H1 r1 x1 a1
theorem et_w {e : Expr} {c : Bool} (h : EW X b e S c S1) : ET X b e S c S1 := fun σ H r Q q => wT_of (pwW e).pt (h σ H r Q q)
theorem et_not {e : Expr} {c : Bool} (h : ET X b e S c S1) : ET X b (.UnaryOp .Not e pos) S (!c) S1 := fun σ H r Q q => wT_of (pt_not (ptW _)) (h σ H r _ fun H1 r1 x1 a1 => q H1 r1 x1 a1)
theorem ev_one {op} {e : Expr} (h : EV X b e S x S1) : EV X b (.BoolOp op [e] pos) S x S1 := fun σ H r Q q => wE_of (pe_one (peW _)) (h σ H r Q q)
theorem ev_and {a e : Expr} {rest : List Expr} {c d : Bool} (h1 : EV X b a S (.d (.bool c)) S) (h2 : c = true → EV X b (.BoolOp .And (e :: rest) pos) S (.d (.bool d)) S) : EV X b (.BoolOp .And (a :: e :: rest) pos) S (.d (.bool (c && d))) S := by
  intro σ H r Q q
  refine wE_of (pe_and (peW _) (peW _)) (h1 σ H r _ fun v H1 k1 r1 x1 a1 => ?_)
  cases k1
  refine ⟨c, rfl, ?_⟩
  cases c with
  | true => exact h2 rfl σ H1 r1 Q fun v H2 k2 r2 x2 a2 => q v H2 k2 r2 (x1.trans x2) a2
  | false => exact q _ H1 (.bl _) r1 x1 a1
theorem ev_or {a e : Expr} {rest : List Expr} {c d : Bool} (h1 : EV X b a S (.d (.bool c)) S) (h2 : c = false → EV X b (.BoolOp .Or (e :: rest) pos) S (.d (.bool d)) S) : EV X b (.BoolOp .Or (a :: e :: rest) pos) S (.d (.bool (c || d))) S := by
  intro σ H r Q q
  refine wE_of (pe_or (peW _) (peW _)) (h1 σ H r _ fun v H1 k1 r1 x1 a1 => ?_)
  cases k1
  refine ⟨c, rfl, ?_⟩
  cases c with
  | false => exact h2 rfl σ H1 r1 Q fun v H2 k2 r2 x2 a2 => q v H2 k2 r2 (x1.trans x2) a2
  | true => exact q _ H1 (.bl _) r1 x1 a1
theorem ev_not {e : Expr} {c : Bool} (h : EV X b e S (.d (.bool c)) S1) : EV X b (.UnaryOp .Not e pos) S (.d (.bool (!c))) S1 := by
  intro σ H r Q q
  refine wE_of (pe_not (peW _)) (h σ H r _ fun v H1 k1 r1 x1 a1 => ?_)
  cases k1
  exact ⟨c, rfl, q _ H1 (.bl _) r1 x1 a1⟩
theorem ev_if {c e1 e2 : Expr} {t : Bool} (h : ET X b c S t S) (h1 : t = true → EV X b e1 S x S') (h2 : t = false → EV X b e2 S x S') : EV X b (.IfExp c e1 e2 pos) S x S' := by
  intro σ H r Q q
  refine wE_of (pe_ifExp (ptW _) (peW _) (peW _)) (h σ H r _ fun H1 r1 x1 a1 => ?_)
  cases t with
  | true => exact h1 rfl σ H1 r1 Q fun v H2 k2 r2 x2 a2 => q v H2 k2 r2 (x1.trans x2) a2
  | false => exact h2 rfl σ H1 r1 Q fun v H2 k2 r2 x2 a2 => q v H2 k2 r2 (x1.trans x2) a2
/-! arguments -/
theorem ea_nil : EA X b [] S [] S := fun σ H r Q q => wA_of pa_nil (q [] H .nil r (Ex.refl _) fun _ h => h)
theorem ea_cons {e : Expr} {es : List Expr} {xs : List DV} (h1 : EV X b e S x S1) (h2 : EA X b es S1 xs S2) (he : starEach (e :: es) X.env = (false, eval e X.env) :: starEach es X.env := by rfl) : EA X b (e :: es) S (x :: xs) S2 := by
  intro σ H r Q q
  refine wA_of (pa_cons (peW _) (paW _) he) (h1 σ H r _ fun v H1 k1 r1 x1 a1 => ?_)
  exact h2 σ H1 r1 _ fun vs H2 k2 r2 x2 a2 => q _ H2 (.cons (k1.ex x2 a2) k2) r2 (x1.trans x2) fun a ha => a2 a (a1 a ha)
theorem vall_d {K : PySem.W.Frag} {A : List Addr} {H : Hp} : ∀ {vs : List V} {ds : List PyData}, VAll K A H vs (ds.map .d) → DpAll K (hide A H) vs ds
  | _, [], h => by cases h; exact .nil
  | _, d :: ds, h => by
    cases h with
    | cons h hs => exact .cons h (vall_d hs)
theorem hide_new {A : List Addr} {H : Hp} {p : Addr} {o : HO} (hA : p ∉ A) : hide A (upd H p o) p = some o := by
  rw [hide_out hA]
  exact upd_same
/-- a tuple, a list of data -/
theorem ev_tup {es : List Expr} {ds : List PyData} {k : Nat} (h : EA X b es S (ds.map .d) S1) (hz : ds.length ≤ 1000) : EV X b (.Tuple es k pos) S (.d (.tuple ds)) S1 := by
  intro σ H r Q q
  refine wE_of (pe_tup (paW _)) (h σ H r _ fun vs H1 k1 r1 x1 a1 => ?_)
  have hd := vall_d k1
  refine ⟨by rw [DpAll.len hd]; exact Nat.le_of_lt (small1000 hz), fun p hp => ?_⟩
  obtain ⟨r2, x2⟩ := r1.grow (Ex.new (o := .tup vs) hp)
  exact q _ _ (.tup (.inl (.inl (hide_new (r1.rm.fresh hp)))) (DpAll.ex x2 hd)) r2 (x1.trans x2) a1
theorem ev_lst {es : List Expr} {ds : List PyData} (h : EA X b es S (ds.map .d) S1) (hz : ds.length ≤ 1000) : EV X b (.List es pos) S (.d (.list ds)) S1 := by
  intro σ H r Q q
  refine wE_of (pe_lst (paW _)) (h σ H r _ fun vs H1 k1 r1 x1 a1 => ?_)
  have hd := vall_d k1
  refine ⟨by rw [DpAll.len hd]; exact Nat.le_of_lt (small1000 hz), fun p hp => ?_⟩
  obtain ⟨r2, x2⟩ := r1.grow (Ex.new (o := .lst vs) hp)
  exact q _ _ (.lst (.inl (.inl (hide_new (r1.rm.fresh hp)))) (DpAll.ex x2 hd)) r2 (x1.trans x2) a1
/-! subscripts -/
theorem atI_map {vs : List V} {ds : List PyData} {K : PySem.W.Frag} {H : Hp} {i : Int} {d : PyData} (h : DpAll K H vs ds) (e : atI ds i = some d) : ∃ v, atI vs i = some v ∧ Dp K H v d := by
  unfold atI at e ⊢
  rw [DpAll.len h]
  cases hx : ixN ds.length i with
  | none => rw [hx] at e; cases e
  | some j =>
    rw [hx] at e
    exact dpAll_get h e
theorem ev_ixT {e1 e2 : Expr} {ds : List PyData} {i : Int} {d : PyData} (hK : X.K = b.K) (h1 : EV X b e1 S (.d (.tuple ds)) S1) (h2 : EV X b e2 S1 (.d (.int i)) S2) (hi : atI ds i = some d) (hp : PlainIx e2 := by exact fun _ _ => rfl) : EV X b (.Subscript e1 e2 pos) S (.d d) S2 := by
  intro σ H r Q q
  refine wE_of (pe_ix ix_tup (peW _) (peW _) hp) (h1 σ H r _ fun u H1 k1 r1 x1 a1 => ?_)
  refine h2 σ H1 r1 _ fun v H2 k2 r2 x2 a2 => ?_
  have k1' := k1.ex x2 a2
  cases k2
  cases k1' with
  | tup hs ha =>
    obtain ⟨w, e1, e2⟩ := atI_map ha hi
    exact ⟨_, _, i, w, rfl, rfl, by rw [hK]; exact ex_t hide_ex hs, e1, q w H2 e2 r2 (x1.trans x2) fun a ha => a2 a (a1 a ha)⟩
theorem ev_ixL {e1 e2 : Expr} {ds : List PyData} {i : Int} {d : PyData} (hK : X.K = b.K) (h1 : EV X b e1 S (.d (.list ds)) S1) (h2 : EV X b e2 S1 (.d (.int i)) S2) (hi : atI ds i = some d) (hp : PlainIx e2 := by exact fun _ _ => rfl) : EV X b (.Subscript e1 e2 pos) S (.d d) S2 := by
  intro σ H r Q q
  refine wE_of (pe_ix ix_list (peW _) (peW _) hp) (h1 σ H r _ fun u H1 k1 r1 x1 a1 => ?_)
  refine h2 σ H1 r1 _ fun v H2 k2 r2 x2 a2 => ?_
  have k1' := k1.ex x2 a2
  cases k2
  cases k1' with
  | lst hs ha =>
    obtain ⟨w, e1, e2⟩ := atI_map ha hi
    exact ⟨_, _, i, w, rfl, rfl, by rw [hK]; exact ex_l hide_ex hs, e1, q w H2 e2 r2 (x1.trans x2) fun a ha => a2 a (a1 a ha)⟩
/-- an item of a mutable list -/
theorem ev_ixM {e1 e2 : Expr} {a : Addr} {ds : List PyData} {i : Int} {d : PyData} (hK : X.K = b.K) (h1 : EV X b e1 S (.m a) S1) (h2 : EV X b e2 S1 (.d (.int i)) S2) (hm : (a, MO.lst ds) ∈ S2.m) (hi : atI ds i = some d) (hp : PlainIx e2 := by exact fun _ _ => rfl) : EV X b (.Subscript e1 e2 pos) S (.d d) S2 := by
  intro σ H r Q q
  refine wE_of (pe_ix ix_list (peW _) (peW _) hp) (h1 σ H r _ fun u H1 k1 r1 x1 a1 => ?_)
  refine h2 σ H1 r1 _ fun v H2 k2 r2 x2 a2 => ?_
  obtain ⟨rfl, _⟩ := k1
  cases k2
  obtain ⟨vs, e1, e2⟩ := r2.rm.mem _ hm
  obtain ⟨w, e3, e4⟩ := atI_map e2 hi
  exact ⟨_, _, i, w, rfl, rfl, .inl (.inl e1), e3, q w H2 e4 r2 (x1.trans x2) fun a ha => a2 a (a1 a ha)⟩
/-! calls of the module's own defs that change nothing -/
def FP (K : PySem.W.Frag) (f : List PyData → PyData → Prop) : Sp := fun vs H Q _ => ∃ (A : List Addr) (ds : List PyData) (d : PyData), (∀ a ∈ A, H a ≠ none) ∧ DpAll K (hide A H) vs ds ∧ f ds d ∧ ∀ v H', Ex H H' → Dp K (hide A H') v d → Q v H'
theorem ev_call {k : Nat} {fa : Addr} {fd : FuncData} {ps : List Str} {f : List PyData → PyData → Prop} {nm : Str} {p : Pos} {e : Expr} {es : List Expr} {ds : List PyData} {d : PyData} {E : XK} {CX : CXT}
    (F : FnOk X.prog X.w X.K X.mg X.base CX k fa fd ps (FP X.K f)) (hK : X.K = b.K) (hr : Room k X.A) (hg : Gl X nm) (hm : X.mg nm = some (.ref fa)) (kp : PySem.W.keepIn X.K (.ref fa) = true) (hb : L2.Binds X.K fd ps []) (hx : Passes CX X E)
    (ha : EA X b (e :: es) S (ds.map .d) S1) (hf : f ds d) (hdb : (nm == ("__debug__" : Str)) = false := by decide)
    (he : starEach (e :: es) X.env = (false, eval e X.env) :: starEach es X.env := by rfl) (hpl : (backTo pos (starEach es X.env)).any (·.1) = false := by rfl) : EV X b (.Call (.Name nm p) (e :: es) [] pos) S (.d d) S1 := by
  intro σ H r Q q
  refine wE_of (pe_call F hr hg hm kp hb .nil hx (paW _) hdb he hpl) (ha σ H r _ fun vs H1 k1 r1 x1 a1 => ?_)
  show FP X.K f (vs ++ []) H1 Q E
  rw [List.append_nil, hK]
  refine ⟨Hd b S1, ds, d, r1.rm.tracked, vall_d k1, hf, fun v H2 x2 k2 => ?_⟩
  obtain ⟨r2, x3⟩ := r1.grow x2
  exact q v H2 k2 r2 (x1.trans x3) a1
end
end DX
end
section
set_option Elab.async false
set_option linter.all false
set_option maxRecDepth 100000
set_option maxHeartbeats 4000000
namespace DX
open PySem PySem.Spec PyProof.Rows L2
set_option autoImplicit false
section
variable {X : Cx} {b : Bs} {S S1 S2 S3 S' : DS} {x y z : DV} {pos : Pos} {D : DE} {rest : List Stmt}
theorem psW (st : Stmt) : PS X st (w1 X st) := ⟨fun pins s _ _ _ I h => h pins s I⟩
theorem w1_of {st : Stmt} {t : TS} (h : PS X st t) {E : Ends} {σ : List (Option V)} {H : Hp} (q : t E σ H) : w1 X st E σ H := fun pins s I => h.run pins s σ H E I q
/-- what was begun further back -/
theorem EndsOk.later {b : Bs} {S S1 : DS} {H H1 : Hp} {D : DE} {E : Ends} (k : EndsOk b S H D E) (x : Ex (hide (Hd b S) H) (hide (Hd b S1) H1)) : EndsOk b S1 H1 D E :=
  ⟨fun S' σ' H' d r e => k.nx S' σ' H' d r (x.trans e), fun y S' v H' d vo r e => k.rt y S' v H' d vo r (x.trans e), fun S' σ' H' d r e => k.bk S' σ' H' d r (x.trans e), fun S' σ' H' d r e => k.ct S' σ' H' d r (x.trans e)⟩
def DE.to (D : DE) (N : DS → Prop) : DE := { D with nx := N }
theorem sx_nil (h : D.nx S) : SX X b [] S D := fun σ H r E k => wS_of pss_nil (k.nx S σ H h r (Ex.refl _))
theorem sx_cons {st : Stmt} (h : SY X b st S (D.to fun S' => SX X b rest S' D)) : SX X b (st :: rest) S D := by
  intro σ H r E k
  refine wS_of (pss_cons (psW st) (pssW rest)) ?_
  refine h σ H r _ ⟨fun S' σ' H' d r' e => ?_, fun x S' v H' d vo r' e => k.rt x S' v H' d vo r' e, fun S' σ' H' d r' e => k.bk S' σ' H' d r' e, fun S' σ' H' d r' e => k.ct S' σ' H' d r' e⟩
  exact d σ' H' r' E (k.later e)
theorem sx_one {st : Stmt} (h : SY X b st S D) : SX X b [st] S D := fun σ H r E k => wS_of (pss_one (psW st)) (h σ H r E k)
/-- a slot is set -/
def DS.put (S : DS) (i : Nat) (x : DV) : DS := { S with g := S.g.set i x }
theorem Rel.put {σ : List (Option V)} {H : Hp} {v : V} {i : Nat} (r : Rel b S σ H) (hi : i < S.g.length) (k : VOk b.K (Hd b S) H v x) : Rel b (S.put i x) (σ.set i (some v)) H := by
  refine ⟨by rw [List.length_set]; show σ.length = (S.g.set i x).length; rw [List.length_set]; exact r.len, fun j y h => ?_, ⟨r.rm.mem, r.rm.nd, r.rm.fr, r.rm.ext, r.rm.fxs⟩⟩
  have h : (S.g.set i x)[j]? = some y := h
  by_cases e : i = j
  · subst e
    rw [List.getElem?_set_self hi] at h
    cases (Option.some.inj h)
    exact .inr ⟨v, List.getElem?_set_self (by rw [r.len]; exact hi), k⟩
  · rw [List.getElem?_set_ne e] at h
    rcases r.slot j y h with q | ⟨w, q, k'⟩
    · exact .inl q
    · exact .inr ⟨w, by rw [List.getElem?_set_ne e]; exact q, k'⟩
theorem sy_asg {nm : Str} {i : Nat} {e : Expr} {pos' : Pos} (h : EV X b e S x S1) (hN : X.N.Nodup) (hi : X.N[i]? = some nm) (hx : Loc X.env.scope nm) (hl : i < S1.g.length) (hd : D.nx (S1.put i x)) (hs : swapsWith e (some (.Name nm pos')) pos.line X.env = pure false := by rfl)
    (hf : X.fn nm = true ∨ X.env.scope.names.lookup nm = some .local := by first | exact .inl rfl | exact .inr rfl) : SY X b (.Assign [.Name nm pos'] e pos) S D := by
  intro σ H r E k
  refine w1_of (ps_set hN hi hx (peW _) hs hf) (h σ H r _ fun v H1 k1 r1 x1 a1 => ?_)
  exact k.nx _ _ _ hd (r1.put hl k1) x1
theorem sy_ret {e : Expr} (h : EV X b e S x S1) (hd : D.rt x S1) : SY X b (.Return (some e) pos) S D := by
  intro σ H r E k
  exact w1_of (ps_ret (peW _)) (h σ H r _ fun v H1 k1 r1 x1 a1 => k.rt _ _ _ _ hd k1 r1.rm x1)
theorem sy_if {c : Expr} {a e : List Stmt} {t : Bool} (h : ET X b c S t S1) (h1 : t = true → SX X b a S1 D) (h2 : t = false → SX X b e S1 D) : SY X b (.If c a e pos) S D := by
  intro σ H r E k
  refine w1_of (ps_if (ptW _) (pssW _) (pssW _)) (h σ H r _ fun H1 r1 x1 a1 => ?_)
  cases t with
  | true => exact h1 rfl σ H1 r1 E (k.later x1)
  | false => exact h2 rfl σ H1 r1 E (k.later x1)
theorem sy_expr {e : Expr} (h : EV X b e S x S1) (hd : D.nx S1) (hs : swapsWith e none pos.line X.env = pure false := by rfl) : SY X b (.Expr e pos) S D := by
  intro σ H r E k
  exact w1_of (ps_expr (peW _) hs) (h σ H r _ fun v H1 k1 r1 x1 a1 => k.nx _ _ _ hd r1 x1)
theorem sy_pass (hd : D.nx S) : SY X b (.Pass pos) S D := fun σ H r E k => w1_of ps_pass (k.nx _ _ _ hd r (Ex.refl _))
theorem sy_break (hd : D.bk S) : SY X b (.Break pos) S D := fun σ H r E k => w1_of ps_break (k.bk _ _ _ hd r (Ex.refl _))
theorem sy_continue (hd : D.ct S) : SY X b (.Continue pos) S D := fun σ H r E k => w1_of ps_continue (k.ct _ _ _ hd r (Ex.refl _))
/-- op= upon ints -/
theorem sy_aug {nm : Str} {i : Nat} {e : Expr} {op : Operator} {pos' : Pos} {f : Int → Int → Int} {C : Int → Int → Prop} {m n : Int} (ho : PIp X op fun x y H Q => ∃ i j, x = .int i ∧ y = .int j ∧ C i j ∧ Q (.int (f i j)) H) (h0 : S.g[i]? = some (.d (.int m))) (h : EV X b e S (.d (.int n)) S1) (hc : C m n) (hN : X.N.Nodup) (hi : X.N[i]? = some nm) (hx : Loc X.env.scope nm)
    (hl : i < S1.g.length) (hd : D.nx (S1.put i (.d (.int (f m n))))) (hf : X.fn nm = true ∨ X.env.scope.names.lookup nm = some .local := by first | exact .inl rfl | exact .inr rfl) : SY X b (.AugAssign (.Name nm pos') op e pos) S D := by
  intro σ H r E k
  refine w1_of (ps_aug hN hi hx (peW _) ho hf) ?_
  rcases r.slot i _ h0 with q | ⟨v, q, kv⟩
  · cases q
  · cases kv
    refine ⟨.int m, q, h σ H r _ fun w H1 k1 r1 x1 a1 => ?_⟩
    cases k1
    exact ⟨m, n, rfl, rfl, hc, k.nx _ _ _ hd (r1.put hl (.int _)) x1⟩
theorem ipR {op : Operator} {C : Int → Int → Prop} {f : Int → Int → Int} (h : OpR X (inplaceOp op) (rI C fun i j => .int (f i j))) : PIp X op fun x y H Q => ∃ i j, x = .int i ∧ y = .int j ∧ C i j ∧ Q (.int (f i j)) H :=
  fun pins s σ H x y v u Q I rx ry q => h pins s σ H x y v u Q I rx ry q
theorem ipR0 {op : Operator} {f : Int → Int → Int} (h : OpR X (inplaceOp op) (rI0 fun i j => .int (f i j))) : PIp X op fun x y H Q => ∃ i j, x = .int i ∧ y = .int j ∧ True ∧ Q (.int (f i j)) H :=
  fun pins s σ H x y v u Q I rx ry ⟨i, j, e1, e2, _, q⟩ => h pins s σ H x y v u Q I rx ry ⟨i, j, e1, e2, q⟩
/-- while -/
theorem sy_while {c : Expr} {body : List Stmt} (W : Nat → DS → Prop) (m0 : Nat) (h0 : W m0 S) (hp : PassesOwn (model X.prog X.w) X.A X.env X.xe)
    (hs : ∀ m S', W m S' → ∃ t S1, ET X b c S' t S1 ∧ (t = true → SX X b body S1 { D with nx := fun S2 => ∃ m', m' < m ∧ W m' S2, ct := fun S2 => ∃ m', m' < m ∧ W m' S2, bk := D.nx }) ∧ (t = false → D.nx S1)) : SY X b (.While c body [] pos) S D := by
  intro σ H r E k
  refine w1_of (ps_while hp (ptW _) (pssW _)) ?_
  refine ⟨fun m σ' H' => ∃ S', W m S' ∧ Rel b S' σ' H' ∧ Ex (hide (Hd b S) H) (hide (Hd b S') H'), ⟨m0, S, h0, r, Ex.refl _⟩, fun m σ1 H1 ⟨S', w, r', e⟩ => ?_⟩
  obtain ⟨t, S1, ht, hb, hd⟩ := hs m S' w
  refine ht σ1 H1 r' _ fun H2 r2 x2 a2 => ?_
  cases t with
  | true =>
    refine ⟨fun σ3 H3 => ∃ S2, (∃ m', m' < m ∧ W m' S2) ∧ Rel b S2 σ3 H3 ∧ Ex (hide (Hd b S) H) (hide (Hd b S2) H3), fun σ3 H3 ⟨S2, ⟨m', hm, w'⟩, r3, e3⟩ => ⟨m', hm, S2, w', r3, e3⟩, ?_⟩
    refine hb rfl σ1 H2 r2 _ ⟨fun S2 σ3 H3 d r3 e3 => ⟨S2, d, r3, (e.trans x2).trans e3⟩, fun y S2 v H3 d vo r3 e3 => k.rt y S2 v H3 d vo r3 ((e.trans x2).trans e3), fun S2 σ3 H3 d r3 e3 => k.nx S2 σ3 H3 d r3 ((e.trans x2).trans e3), fun S2 σ3 H3 d r3 e3 => ⟨S2, d, r3, (e.trans x2).trans e3⟩⟩
  | false => exact k.nx S1 σ1 H2 (hd rfl) r2 (e.trans x2)
/-! targets -/
def TG' (b : Bs) (x : DV) (S S' : DS) (g : TG) : Prop := ∀ v σ H, VOk b.K (Hd b S) H v x → Rel b S σ H → ∀ Q : List (Option V) → Hp → Prop, (∀ σ', Rel b S' σ' H → Q σ' H) → g v σ H Q
theorem tg_name {i : Nat} (hl : i < S.g.length) : TG' b x S (S.put i x) (gName i) := fun v σ H k r Q q => q _ (r.put hl k)
/-- a pair of data -/
inductive TGs' (b : Bs) : List TG → List PyData → DS → DS → Prop
  | nil {S : DS} : TGs' b [] [] S S
  | cons {g : TG} {gs : List TG} {d : PyData} {ds : List PyData} {S S1 S2 : DS} : TG' b (.d d) S S1 g → S1.m = S.m → TGs' b gs ds S1 S2 → TGs' b (g :: gs) (d :: ds) S S2
def gList : List TG → TGs
  | [] => gNil
  | g :: gs => gCons g (gList gs)
theorem tgs_run {gs : List TG} {ds : List PyData} {S S' : DS} (h : TGs' b gs ds S S') : ∀ {vs : List V} {σ : List (Option V)} {H : Hp}, DpAll b.K (hide (Hd b S) H) vs ds → Rel b S σ H → ∀ Q : List (Option V) → Hp → Prop, (∀ σ', Rel b S' σ' H → Q σ' H) → gList gs vs σ H Q := by
  induction h with
  | nil =>
    intro vs σ H hd r Q q
    cases hd
    exact ⟨rfl, q σ r⟩
  | @cons g gs d ds S S1 S2 h1 hm _ ih =>
    intro vs σ H hd r Q q
    cases hd with
    | cons hv hvs =>
      refine ⟨_, _, rfl, h1 _ σ H hv r _ fun σ1 r1 => ih ?_ r1 Q q⟩
      have e : Hd b S1 = Hd b S := by unfold Hd DS.as; rw [hm]
      rw [e]
      exact hvs
theorem tg_tup {K : PySem.W.Frag} {n : Nat} {gs : List TG} {ds : List PyData} (hK : K = b.K) (hn : ds.length = n) (h : TGs' b gs ds S S') : TG' b (.d (.tuple ds)) S S' (gTup K n (gList gs)) := by
  intro v σ H kv r Q q
  cases kv with
  | tup hs ha => exact ⟨_, _, rfl, by rw [hK]; exact ex_t hide_ex hs, by rw [DpAll.len ha]; exact hn, tgs_run h ha r Q q⟩
/-- a, b = a tuple -/
theorem sy_unpack {tg e : Expr} {g : TG} (h : EV X b e S x S1) (hg : PG X tg g) (ht : TG' b x S1 S2 g) (hh : Hd b S2 = Hd b S1) (hd : D.nx S2) (hs : swapsWithSole [tg] e pos.line X.env = pure false := by rfl) (hw : swappedStores [tg] e X.env = pure none := by rfl)
    (h1 : (assignEach [tg] X.env).map (·.2) = [assign tg X.env] := by rfl) : SY X b (.Assign [tg] e pos) S D := by
  intro σ H r E k
  refine w1_of (ps_asg (peW _) hg hs hw h1) (h σ H r _ fun v H1 k1 r1 x1 a1 => ?_)
  exact ht v σ H1 k1 r1 _ fun σ' r' => k.nx _ _ _ hd r' (by rw [hh]; exact x1)
/-- a, b = x, y: from the right -/
theorem sy_par {i j : Nat} {nx ny : Str} {a c : Expr} {px py pt : Pos} {kt k2 pt2} {u w : DV} (hc : X.calm = true) (hN : X.N.Nodup) (hi : X.N[i]? = some nx) (hj : X.N[j]? = some ny) (hij : i ≠ j)
    (hx : X.env.scope.names.lookup nx = some .local) (hy : X.env.scope.names.lookup ny = some .local) (ha : EA X b [a, c] S [u, w] S1) (li : i < S1.g.length) (lj : j < S1.g.length) (hd : D.nx ((S1.put i u).put j w))
    (hw : swappedStores [.Tuple [.Name nx px, .Name ny py] kt pt] (.Tuple [a, c] k2 pt2) X.env = pure (some [nx, ny]) := by rfl)
    (hs : swapsWithSole [.Tuple [.Name nx px, .Name ny py] kt pt] (.Tuple [a, c] k2 pt2) pos.line X.env = pure false := by rfl) :
    SY X b (.Assign [.Tuple [.Name nx px, .Name ny py] kt pt] (.Tuple [a, c] k2 pt2) pos) S D := by
  intro σ H r E k
  refine w1_of (ps_par hc hN hi hj hij hx hy (paW _) hw hs) (ha σ H r _ fun vs H1 k1 r1 x1 a1 => ?_)
  cases k1 with
  | cons k1 k2 =>
    cases k2 with
    | cons k2 k3 =>
      cases k3
      refine ⟨_, _, rfl, k.nx _ _ _ hd ?_ x1⟩
      exact (r1.put li k1).put (by show j < (S1.g.set i u).length; rw [List.length_set]; exact lj) k2
/-! for -/
theorem sy_forT {tg iter : Expr} {body : List Stmt} {g : TG} {ds : List PyData} (hK : X.K = b.K) (hp : PassesOwn (model X.prog X.w) X.A X.env X.xe) (hc : X.calm = true) (hi : EV X b iter S (.d (.tuple ds)) S1) (hg : PG X tg g) (W : Nat → DS → Prop) (h0 : W 0 S1)
    (hs : ∀ (i : Nat) d S', ds[i]? = some d → W i S' → ∃ S2, TG' b (.d d) S' S2 g ∧ Hd b S2 = Hd b S' ∧ SX X b body S2 { D with nx := W (i + 1), ct := W (i + 1), bk := D.nx }) (hd : ∀ S', W ds.length S' → D.nx S')
    (hf : ∀ x : Value, foldedSetIterable iter X.env x = pure x := by intro _; rfl) : SY X b (.For tg iter body [] pos) S D := by
  intro σ H r E k
  refine w1_of (ps_for hp hc (pi_tup (peW _)) hg (pssW _) hf) (hi σ H r _ fun v H1 k1 r1 x1 a1 => ?_)
  cases k1 with
  | tup hs1 ha =>
    rename_i a xs
    have hq : SqT X.K H1 a xs := by rw [hK]; exact ex_t hide_ex hs1
    refine ⟨a, rfl, ⟨xs, hq⟩, ?_⟩
    refine for_tup (K := X.K) (a := a) (xs := xs) (fun i σ' H' => ∃ S', W i S' ∧ Rel b S' σ' H' ∧ Ex (hide (Hd b S1) H1) (hide (Hd b S') H')) ⟨S1, h0, r1, Ex.refl _⟩ (fun i σ' H' _ ⟨S', _, _, e⟩ => by rw [hK]; exact ex_t hide_ex (ex_t e hs1)) (fun i y σ' H' hy ⟨S', w, r', e⟩ => ?_) fun σ' H' ⟨S', w, r', e⟩ => ?_
    · obtain ⟨d, hd1, hd2⟩ := dpAll_getV ha hy
      obtain ⟨S2, ht, hh, hb⟩ := hs i d S' hd1 w
      refine ht y σ' H' (Dp.ex e hd2) r' _ fun σ2 r2 => ?_
      refine hb σ2 H' r2 _ ⟨fun S3 σ3 H3 d r3 e3 => ⟨S3, d, r3, e.trans (by rw [hh] at e3; exact e3)⟩, fun y S3 v H3 d vo r3 e3 => k.rt y S3 v H3 d vo r3 ((x1.trans e).trans (by rw [hh] at e3; exact e3)), fun S3 σ3 H3 d r3 e3 => k.nx S3 σ3 H3 d r3 ((x1.trans e).trans (by rw [hh] at e3; exact e3)), fun S3 σ3 H3 d r3 e3 => ⟨S3, d, r3, e.trans (by rw [hh] at e3; exact e3)⟩⟩
    · rw [DpAll.len ha] at w
      exact k.nx _ _ _ (hd S' w) r' (x1.trans e)
theorem sy_forL {tg iter : Expr} {body : List Stmt} {g : TG} {ds : List PyData} (hK : X.K = b.K) (hp : PassesOwn (model X.prog X.w) X.A X.env X.xe) (hc : X.calm = true) (hi : EV X b iter S (.d (.list ds)) S1) (hg : PG X tg g) (W : Nat → DS → Prop) (h0 : W 0 S1)
    (hs : ∀ (i : Nat) d S', ds[i]? = some d → W i S' → ∃ S2, TG' b (.d d) S' S2 g ∧ Hd b S2 = Hd b S' ∧ SX X b body S2 { D with nx := W (i + 1), ct := W (i + 1), bk := D.nx }) (hd : ∀ S', W ds.length S' → D.nx S')
    (hf : ∀ x : Value, foldedSetIterable iter X.env x = pure x := by intro _; rfl) : SY X b (.For tg iter body [] pos) S D := by
  intro σ H r E k
  refine w1_of (ps_for hp hc (pi_list (peW _)) hg (pssW _) hf) (hi σ H r _ fun v H1 k1 r1 x1 a1 => ?_)
  cases k1 with
  | lst hs1 ha =>
    rename_i a xs
    have hq : SqL X.K H1 a xs := by rw [hK]; exact ex_l hide_ex hs1
    refine ⟨a, rfl, ⟨xs, hq⟩, ?_⟩
    refine for_list (K := X.K) (a := a) (xs := xs) (fun i σ' H' => ∃ S', W i S' ∧ Rel b S' σ' H' ∧ Ex (hide (Hd b S1) H1) (hide (Hd b S') H')) ⟨S1, h0, r1, Ex.refl _⟩ (fun i σ' H' _ ⟨S', _, _, e⟩ => by rw [hK]; exact ex_l hide_ex (ex_l e hs1)) (fun i y σ' H' hy ⟨S', w, r', e⟩ => ?_) fun σ' H' ⟨S', w, r', e⟩ => ?_
    · obtain ⟨d, hd1, hd2⟩ := dpAll_getV ha hy
      obtain ⟨S2, ht, hh, hb⟩ := hs i d S' hd1 w
      refine ht y σ' H' (Dp.ex e hd2) r' _ fun σ2 r2 => ?_
      refine hb σ2 H' r2 _ ⟨fun S3 σ3 H3 d r3 e3 => ⟨S3, d, r3, e.trans (by rw [hh] at e3; exact e3)⟩, fun y S3 v H3 d vo r3 e3 => k.rt y S3 v H3 d vo r3 ((x1.trans e).trans (by rw [hh] at e3; exact e3)), fun S3 σ3 H3 d r3 e3 => k.nx S3 σ3 H3 d r3 ((x1.trans e).trans (by rw [hh] at e3; exact e3)), fun S3 σ3 H3 d r3 e3 => ⟨S3, d, r3, e.trans (by rw [hh] at e3; exact e3)⟩⟩
    · rw [DpAll.len ha] at w
      exact k.nx _ _ _ (hd S' w) r' (x1.trans e)
/-- for .. in range(n) -/
theorem sy_forR {nm : Str} {j : Nat} {e : Expr} {p1 p2 p3 : Pos} {body : List Stmt} {n : Int} (hp : PassesOwn (model X.prog X.w) X.A X.env X.xe) (hc : X.calm = true) (hg : Gl X "range") (hm : X.mg "range" = none) (h : EV X b e S (.d (.int n)) S1) (hn : -(2 ^ 62) ≤ n ∧ n < 2 ^ 62)
    (hN : X.N.Nodup) (hj : X.N[j]? = some nm) (hx : Loc X.env.scope nm) (W : Nat → DS → Prop) (h0 : W 0 S1)
    (hs : ∀ (i : Nat) S', (i : Int) < n → W i S' → j < S'.g.length ∧ SX X b body (S'.put j (.d (.int (i : Int)))) { D with nx := W (i + 1), ct := W (i + 1), bk := D.nx }) (hd : ∀ S', W n.toNat S' → D.nx S')
    (he : starEach [e] X.env = [(false, eval e X.env)] := by rfl) (hff : X.fn nm = true ∨ X.env.scope.names.lookup nm = some .local := by first | exact .inl rfl | exact .inr rfl)
    (hf : ∀ x : Value, foldedSetIterable (.Call (.Name "range" p1) [e] [] p2) X.env x = pure x := by intro _; rfl) : SY X b (.For (.Name nm p3) (.Call (.Name "range" p1) [e] [] p2) body [] pos) S D := by
  intro σ H r E k
  refine w1_of (ps_for hp hc (pi_range1 hg hm (pa_cons (peW e) pa_nil he) he) (pg_name hN hj hx hff) (pssW _) hf) ?_
  refine h σ H r _ fun v H1 k1 r1 x1 a1 => ?_
  cases k1
  refine ⟨n, rfl, hn.1, hn.2, ?_⟩
  refine for_range (lo := 0) (n := n.toNat) (fun i σ' H' => ∃ S', W i S' ∧ Rel b S' σ' H' ∧ Ex (hide (Hd b S1) H1) (hide (Hd b S') H')) ⟨S1, h0, r1, Ex.refl _⟩ (fun i σ' H' hi ⟨S', w, r', e⟩ => ?_) fun σ' H' ⟨S', w, r', e⟩ => ?_
  · obtain ⟨lj, hb⟩ := hs i S' (by omega) w
    have e0 : (0 : Int) + (i : Int) = (i : Int) := Int.zero_add _
    show wS X body _ (σ'.set j (some (V.int (0 + (i : Int))))) H'
    rw [e0]
    refine hb _ H' (r'.put lj (.int _)) _ ⟨fun S3 σ3 H3 d r3 e3 => ⟨S3, d, r3, e.trans e3⟩, fun y S3 v H3 d vo r3 e3 => k.rt y S3 v H3 d vo r3 ((x1.trans e).trans e3), fun S3 σ3 H3 d r3 e3 => k.nx S3 σ3 H3 d r3 ((x1.trans e).trans e3), fun S3 σ3 H3 d r3 e3 => ⟨S3, d, r3, e.trans e3⟩⟩
  · exact k.nx _ _ _ (hd S' w) r' (x1.trans e)
end
end DX
end
section
set_option Elab.async false
set_option linter.all false
set_option maxRecDepth 100000
set_option maxHeartbeats 4000000
namespace DX
open PySem PySem.Spec PyProof.Rows L2
set_option autoImplicit false
/-! ### a def by its body -/
section
variable {P : Program} {w : World} {K : PySem.W.Frag} {mg : Str → Option Value} {base : Heap}
theorem vall_of {K : PySem.W.Frag} {A : List Addr} {H : Hp} : ∀ {vs : List V} {ds : List PyData}, DpAll K (hide A H) vs ds → VAll K A H vs (ds.map .d)
  | _, _, .nil => .nil
  | _, _, .cons h hs => .cons h (vall_of hs)
theorem vall_get {K : PySem.W.Frag} {A : List Addr} {H : Hp} {vs : List V} {xs : List DV} (h : VAll K A H vs xs) : ∀ {i : Nat} {x : DV}, xs[i]? = some x → ∃ v, vs[i]? = some v ∧ VOk K A H v x := by
  intro i
  induction i generalizing vs xs with
  | zero =>
    intro x e
    cases h with
    | nil => simp at e
    | cons h hs => exact ⟨_, rfl, by cases (Option.some.inj e); exact h⟩
  | succ i ih =>
    intro x e
    cases h with
    | nil => simp at e
    | cons h hs => exact ih hs e
theorem vall_len {K : PySem.W.Frag} {A : List Addr} {H : Hp} {vs : List V} {xs : List DV} (h : VAll K A H vs xs) : vs.length = xs.length := by
  induction h with
  | nil => rfl
  | cons _ _ ih => rw [List.length_cons, List.length_cons, ih]
/-- the slots of a def at its entry -/
def gStart (N : List Str) (xs : List DV) : List DV := xs ++ List.replicate (N.length - xs.length) .no
theorem rel_start {b : Bs} {N : List Str} {vs : List V} {xs : List DV} {m : List (Addr × MO)} {H : Hp} (h : VAll b.K (Hd b ⟨[], m⟩) H vs xs) (rm : RelM b ⟨[], m⟩ H) : Rel b ⟨gStart N xs, m⟩ (L2.start N vs) H := by
  have hl := vall_len h
  refine ⟨?_, fun i x e => ?_, ⟨rm.mem, rm.nd, rm.fr, rm.ext, rm.fxs⟩⟩
  · unfold L2.start
    show _ = (gStart N xs).length
    unfold gStart
    simp [hl]
  · have e : (gStart N xs)[i]? = some x := e
    unfold gStart at e
    by_cases hi : i < xs.length
    · rw [List.getElem?_append_left hi] at e
      obtain ⟨v, e1, e2⟩ := vall_get h e
      refine .inr ⟨v, ?_, e2⟩
      unfold L2.start
      rw [List.getElem?_append_left (by rw [List.length_map, hl]; exact hi), List.getElem?_map, e1]
      rfl
    · rw [List.getElem?_append_right (by omega)] at e
      left
      have := List.mem_of_getElem? e
      exact List.eq_of_mem_replicate this
/-- a def of data that raises nothing -/
theorem fp_ok {x qual : Str} {st : Stmt} {fa : Addr} {fd : FuncData} {N ps : List Str} {k : Nat} {f : List PyData → PyData → Prop} (F : Fun K x qual st fa fd) (Sc : FnScope N ps (defScope st)) (len : ∀ ds d, f ds d → ds.length = ps.length)
    (hbody : ∀ (cdv : Value) (A : Around) (outer : List Env) (s : Shared) (H : Hp) (E : XK) (b : Bs), b.K = K → Room k (A.deeper (envOfC qual (defScope st) s.heap.objs.size fa cdv)) → ∀ ds d, f ds d →
      SX (cxOf CX0 P w K mg base N qual (defScope st) fa cdv A outer s H E).nox b (defBody st) ⟨gStart N (ds.map .d), []⟩ { nx := fun _ => d = .none, rt := fun x S' => x = .d d }) : FnOk P w K mg base CX0 (k + 1) fa fd ps (FP K f) := by
  refine F.ok Sc (fun vs H Q E h => ?_) (fun cdv A outer s H vs Q E hr h => ?_)
  · obtain ⟨A, ds, d, _, hd, hf, _⟩ := h
    rw [DpAll.len hd]
    exact len ds d hf
  · obtain ⟨A', ds, d, hA, hd, hf, q⟩ := h
    refine ⟨wS _ _, pssW _, ?_⟩
    let b : Bs := ⟨K, H, [], A', fun a ha => ⟨hA a ha, by simp⟩⟩
    have hH : Hd b ⟨gStart N (ds.map DV.d), []⟩ = A' := by unfold Hd DS.as; simp [b]
    have hH0 : Hd b ⟨[], []⟩ = A' := by unfold Hd DS.as; simp [b]
    have rm : RelM b ⟨[], []⟩ H := ⟨fun p hp => absurd hp (by simp), by simp [DS.as], fun a ha => absurd ha (by simp [DS.as]), fun a o e _ => e, fun a ha => absurd ha (by simp [b])⟩
    have r : Rel b ⟨gStart N (ds.map DV.d), []⟩ (L2.start N vs) H := rel_start (by rw [hH0]; exact vall_of hd) rm
    refine hbody cdv A outer s H E b rfl hr ds d hf _ H r _ ⟨fun S' σ' H' e r' x => ?_, fun y S' v H' e vo r' x => ?_, fun _ _ _ e => e.elim, fun _ _ _ e => e.elim⟩
    · refine q _ _ (fun a o h => r'.rm.ext a o h (by simp [b])) ?_
      rw [e]
      exact .non
    · subst e
      exact q _ _ (fun a o h => r'.ext a o h (by simp [b])) (Dp.ex (hide_sub fun c hc => List.mem_append.mpr (.inl hc)) vo)
/-- what a def that may raise comes to -/
inductive Res
  | val (d : PyData)
  | err (C : Addr)
def FX (K : PySem.W.Frag) (f : List PyData → Res → Prop) : Sp := fun vs H Q E => ∃ (A : List Addr) (ds : List PyData) (r : Res), (∀ a ∈ A, H a ≠ none) ∧ DpAll K (hide A H) vs ds ∧ f ds r ∧
  (∀ d, r = .val d → ∀ v H', Ex H H' → Dp K (hide A H') v d → Q v H') ∧ (∀ C, r = .err C → ∀ H', Ex H H' → E (.ref C) none H')
theorem fx_ok {x qual : Str} {st : Stmt} {fa : Addr} {fd : FuncData} {N ps : List Str} {k : Nat} {f : List PyData → Res → Prop} (F : Fun K x qual st fa fd) (Sc : FnScope N ps (defScope st)) (len : ∀ ds r, f ds r → ds.length = ps.length)
    (hbody : ∀ (cdv : Value) (A : Around) (outer : List Env) (s : Shared) (H : Hp) (E : XK) (b : Bs), b.K = K → b.fx = [] → Room k (A.deeper (envOfC qual (defScope st) s.heap.objs.size fa cdv)) → ∀ ds r, f ds r →
      (∀ C, r = .err C → ∀ S H', RelM b S H' → E (.ref C) none H') →
      SX (cxOf (L2.CX P w) P w K mg base N qual (defScope st) fa cdv A outer s H E) b (defBody st) ⟨gStart N (ds.map .d), []⟩ { nx := fun _ => r = .val .none, rt := fun x S' => ∃ d, r = .val d ∧ x = .d d }) : FnOk P w K mg base (L2.CX P w) (k + 1) fa fd ps (FX K f) := by
  refine F.okX Sc (fun vs H Q E h => ?_) (fun cdv A outer s H vs Q E hr h => ?_)
  · obtain ⟨A, ds, r, _, hd, hf, _⟩ := h
    rw [DpAll.len hd]
    exact len ds r hf
  · obtain ⟨A', ds, rs, hA, hd, hf, q1, q2⟩ := h
    refine ⟨wS _ _, pssW _, ?_⟩
    let b : Bs := ⟨K, H, [], A', fun a ha => ⟨hA a ha, by simp⟩⟩
    have hH0 : Hd b ⟨[], []⟩ = A' := by unfold Hd DS.as; simp [b]
    have rm : RelM b ⟨[], []⟩ H := ⟨fun p hp => absurd hp (by simp), by simp [DS.as], fun a ha => absurd ha (by simp [DS.as]), fun a o e _ => e, fun a ha => absurd ha (by simp [b])⟩
    have r : Rel b ⟨gStart N (ds.map DV.d), []⟩ (L2.start N vs) H := rel_start (by rw [hH0]; exact vall_of hd) rm
    refine hbody cdv A outer s H E b rfl rfl hr ds rs hf (fun C e S H' rm' => q2 C e H' fun a o h => rm'.ext a o h (by simp [b])) _ H r _ ⟨fun S' σ' H' e r' x => ?_, fun y S' v H' e vo r' x => ?_, fun _ _ _ e => e.elim, fun _ _ _ e => e.elim⟩
    · exact q1 _ e _ _ (fun a o h => r'.rm.ext a o h (by simp [b])) .non
    · obtain ⟨d, e1, rfl⟩ := e
      exact q1 _ e1 _ _ (fun a o h => r'.ext a o h (by simp [b])) (Dp.ex (hide_sub fun c hc => List.mem_append.mpr (.inl hc)) vo)
end
section
variable {X : Cx} {b : Bs} {S S1 S2 S3 S' : DS} {x y z : DV} {pos : Pos} {D : DE} {rest : List Stmt}
/-- a statement that calls a def that may raise, its value dropped -/
theorem sy_callX {EE : XK} {k : Nat} {fa : Addr} {fd : FuncData} {ps : List Str} {f : List PyData → Res → Prop} {nm : Str} {p : Pos} {e : Expr} {es : List Expr} {ds : List PyData} {r : Res} {epos : Pos}
    (F : FnOk X.prog X.w X.K X.mg X.base (L2.CX X.prog X.w) k fa fd ps (FX X.K f)) (hK : X.K = b.K) (hr : Room k X.A) (hg : Gl X nm) (hm : X.mg nm = some (.ref fa)) (kp : PySem.W.keepIn X.K (.ref fa) = true) (hb : L2.Binds X.K fd ps []) (tk : Takes X (fun cls d _ H => EE cls d H))
    (ha : EA X b (e :: es) S (ds.map .d) S1) (hf : f ds r) (hv : ∀ d, r = .val d → D.nx S1) (hE : ∀ C, r = .err C → ∀ H', RelM b S1 H' → EE (.ref C) none H') (hdb : (nm == ("__debug__" : Str)) = false := by decide)
    (he : starEach (e :: es) X.env = (false, eval e X.env) :: starEach es X.env := by rfl) (hpl : (backTo epos (starEach es X.env)).any (·.1) = false := by rfl) (hs : swapsWith (.Call (.Name nm p) (e :: es) [] epos) none pos.line X.env = pure false := by rfl) :
    SY X b (.Expr (.Call (.Name nm p) (e :: es) [] epos) pos) S D := by
  intro σ H rl E kE
  refine w1_of (ps_expr (pe_callS F hr hg hm kp hb (fun σ => passAt tk σ) (paW _) hdb he hpl) hs) (ha σ H rl _ fun vs H1 k1 r1 x1 a1 => ?_)
  show FX X.K f vs H1 _ _
  rw [hK]
  refine ⟨Hd b S1, ds, r, r1.rm.tracked, vall_d k1, hf, fun d e v H2 x2 k2 => ?_, fun C e H2 x2 => ?_⟩
  · obtain ⟨r2, x3⟩ := r1.grow x2
    exact kE.nx _ _ _ (hv d e) r2 (x1.trans x3)
  · exact hE C e H2 (r1.rm.grow x2).1
/-- .. its value taken -/
theorem ev_callX {EE : XK} {k : Nat} {fa : Addr} {fd : FuncData} {ps : List Str} {f : List PyData → Res → Prop} {nm : Str} {p : Pos} {e : Expr} {es : List Expr} {ds : List PyData} {d : PyData}
    (F : FnOk X.prog X.w X.K X.mg X.base (L2.CX X.prog X.w) k fa fd ps (FX X.K f)) (hK : X.K = b.K) (hr : Room k X.A) (hg : Gl X nm) (hm : X.mg nm = some (.ref fa)) (kp : PySem.W.keepIn X.K (.ref fa) = true) (hb : L2.Binds X.K fd ps []) (hx : Passes (L2.CX X.prog X.w) X EE)
    (ha : EA X b (e :: es) S (ds.map .d) S1) (hf : f ds (.val d)) (hdb : (nm == ("__debug__" : Str)) = false := by decide)
    (he : starEach (e :: es) X.env = (false, eval e X.env) :: starEach es X.env := by rfl) (hpl : (backTo pos (starEach es X.env)).any (·.1) = false := by rfl) : EV X b (.Call (.Name nm p) (e :: es) [] pos) S (.d d) S1 := by
  intro σ H r Q q
  refine wE_of (pe_call F hr hg hm kp hb .nil hx (paW _) hdb he hpl) (ha σ H r _ fun vs H1 k1 r1 x1 a1 => ?_)
  show FX X.K f (vs ++ []) H1 Q EE
  rw [List.append_nil, hK]
  refine ⟨Hd b S1, ds, _, r1.rm.tracked, vall_d k1, hf, fun d' e v H2 x2 k2 => ?_, fun C e => by cases e⟩
  cases e
  obtain ⟨r2, x3⟩ := r1.grow x2
  exact q v H2 k2 r2 (x1.trans x3) a1
/-! ### a def that changes one list that it is given first -/
def MP (K : PySem.W.Frag) (f : List PyData → List PyData → PyData → List PyData → Prop) : Sp := fun vs H Q _ => ∃ (A : List Addr) (a : Addr) (vs' us : List V) (ds ms : List PyData) (d : PyData) (ms' : List PyData), vs = .ref a :: vs' ∧ a ∉ A ∧ (∀ c ∈ A, H c ≠ none) ∧
  H a = some (.lst us) ∧ DpAll K (hide (A ++ [a]) H) us ms ∧ DpAll K (hide (A ++ [a]) H) vs' ds ∧ f ms ds d ms' ∧
  ∀ v H' us', (∀ c o, H c = some o → c ≠ a → H' c = some o) → H' a = some (.lst us') → DpAll K (hide (A ++ [a]) H') us' ms' → Dp K (hide (A ++ [a]) H') v d → Q v H'
end
section
variable {P : Program} {w : World} {K : PySem.W.Frag} {mg : Str → Option Value} {base : Heap}
theorem mp_ok {x qual : Str} {st : Stmt} {fa : Addr} {fd : FuncData} {N ps : List Str} {k : Nat} {f : List PyData → List PyData → PyData → List PyData → Prop} (F : Fun K x qual st fa fd) (Sc : FnScope N ps (defScope st)) (len : ∀ ms ds d ms', f ms ds d ms' → ds.length + 1 = ps.length)
    (hbody : ∀ (cdv : Value) (A : Around) (outer : List Env) (s : Shared) (H : Hp) (E : XK) (b : Bs) (a : Addr), b.K = K → b.fx = [a] → Room k (A.deeper (envOfC qual (defScope st) s.heap.objs.size fa cdv)) → ∀ ms ds d ms', f ms ds d ms' →
      SX (cxOf CX0 P w K mg base N qual (defScope st) fa cdv A outer s H E).nox b (defBody st) ⟨gStart N (.m a :: ds.map .d), [(a, .lst ms)]⟩ { nx := fun S' => d = .none ∧ (a, MO.lst ms') ∈ S'.m, rt := fun x S' => x = .d d ∧ (a, MO.lst ms') ∈ S'.m }) : FnOk P w K mg base CX0 (k + 1) fa fd ps (MP K f) := by
  refine F.ok Sc (fun vs H Q E h => ?_) (fun cdv A outer s H vs Q E hr h => ?_)
  · obtain ⟨A, a, vs', us, ds, ms, d, ms', rfl, _, _, _, _, hd, hf, _⟩ := h
    rw [List.length_cons, DpAll.len hd]
    exact len ms ds _ _ hf
  · obtain ⟨A', a, vs', us, ds, ms, d, ms', rfl, ha, hA, hu, hum, hd, hf, q⟩ := h
    refine ⟨wS _ _, pssW _, ?_⟩
    let b : Bs := ⟨K, H, [a], A', fun c hc => ⟨hA c hc, by simp; intro e; exact ha (e ▸ hc)⟩⟩
    have hH : ∀ (g : List DV) mm, Hd b ⟨g, [(a, MO.lst mm)]⟩ = A' ++ [a] := fun g mm => by unfold Hd DS.as; simp [b]
    have rm : RelM b ⟨[], [(a, .lst ms)]⟩ H := by
      refine ⟨fun p hp => ?_, by simp [DS.as], fun c hc => ?_, fun c o e _ => e, fun c hc => by simpa [DS.as, b] using hc⟩
      · have : p = (a, MO.lst ms) := by simpa using hp
        subst this
        exact ⟨us, hu, by rw [hH]; exact hum⟩
      · have : c = a := by simpa [DS.as] using hc
        subst this
        exact .inr (by simp [b])
    have r : Rel b ⟨gStart N (.m a :: ds.map DV.d), [(a, .lst ms)]⟩ (L2.start N (.ref a :: vs')) H := by
      refine rel_start (.cons ⟨rfl, by rw [hH]; simp⟩ ?_) rm
      rw [hH]
      exact vall_of hd
    have fin : ∀ (S' : DS) (v : V) (H' : Hp), (a, MO.lst ms') ∈ S'.m → RelM b S' H' → VOk b.K (Hd b S') H' v (.d d) → Q v H' := by
      intro S' v H' hm r' vo
      have sub : ∀ c ∈ A' ++ [a], c ∈ Hd b S' := fun c hc => by
        rcases List.mem_append.mp hc with q | q
        · exact List.mem_append.mpr (.inl q)
        · rw [List.mem_singleton] at q
          exact List.mem_append.mpr (.inr (List.mem_map.mpr ⟨_, hm, q.symm⟩))
      obtain ⟨us', e1, e2⟩ := r'.mem (a, .lst ms') hm
      exact q v H' us' (fun c o e ne => r'.ext c o e (by simpa [b] using ne)) e1 (DpAll.ex (hide_sub sub) e2) (Dp.ex (hide_sub sub) vo)
    refine hbody cdv A outer s H E b a rfl rfl hr ms ds d ms' hf _ H r _ ⟨fun S' σ' H' e r' x => ?_, fun y S' v H' e vo r' x => ?_, fun _ _ _ e => e.elim, fun _ _ _ e => e.elim⟩
    · obtain ⟨rfl, hm⟩ := e
      exact fin S' _ H' hm r'.rm .non
    · obtain ⟨rfl, hm⟩ := e
      exact fin S' v H' hm r' vo
end
section
variable {X : Cx} {b : Bs} {S S1 S2 S3 S' : DS} {x y z : DV} {pos : Pos} {D : DE} {rest : List Stmt}
/-- one mutable list's content is another -/
def setM (m : List (Addr × MO)) (a : Addr) (o : MO) : List (Addr × MO) := m.map fun p => if p.1 = a then (a, o) else p
theorem setM_as (m : List (Addr × MO)) (a : Addr) (o : MO) : (setM m a o).map (·.1) = m.map (·.1) := by
  unfold setM
  rw [List.map_map]
  refine List.map_congr_left fun p _ => ?_
  show (if p.1 = a then (a, o) else p).1 = p.1
  by_cases h : p.1 = a
  · rw [if_pos h]; exact h.symm
  · rw [if_neg h]
theorem setM_mem {m : List (Addr × MO)} {a : Addr} {o : MO} {p : Addr × MO} (h : p ∈ setM m a o) : p = (a, o) ∨ (p ∈ m ∧ p.1 ≠ a) := by
  obtain ⟨q, hq, e⟩ := List.mem_map.mp h
  by_cases hx : q.1 = a
  · have e : (if q.1 = a then (a, o) else q) = p := e
    rw [if_pos hx] at e
    exact .inl e.symm
  · have e : (if q.1 = a then (a, o) else q) = p := e
    rw [if_neg hx] at e
    subst e
    exact .inr ⟨hq, hx⟩
theorem uniqM {S : DS} (nd : S.as.Nodup) {a : Addr} {o o' : MO} (h : (a, o) ∈ S.m) (h' : (a, o') ∈ S.m) : o = o' := by
  unfold DS.as at nd
  generalize S.m = m at h h' nd
  induction m with
  | nil => cases h
  | cons p m ih =>
    rw [List.map_cons] at nd
    obtain ⟨n1, n2⟩ := List.nodup_cons.mp nd
    rcases List.mem_cons.mp h with e | e
    · rcases List.mem_cons.mp h' with e' | e'
      · rw [← e] at e'; cases e'; rfl
      · subst e; exact (n1 (List.mem_map.mpr ⟨_, e', rfl⟩)).elim
    · rcases List.mem_cons.mp h' with e' | e'
      · subst e'; exact (n1 (List.mem_map.mpr ⟨_, e, rfl⟩)).elim
      · exact ih e e' n2
/-- the state where a's thing is o -/
def DS.setm (S : DS) (a : Addr) (o : MO) : DS := { S with m := setM S.m a o }
theorem hd_setm (b : Bs) (S : DS) (a : Addr) (o : MO) : Hd b (S.setm a o) = Hd b S := by
  unfold Hd DS.as DS.setm
  rw [setM_as]
/-- the heap changed at a alone (and grew) -/
theorem Rel.setm {σ : List (Option V)} {H H' : Hp} {a : Addr} {o o' : MO} (r : Rel b S σ H) (ha : (a, o) ∈ S.m) (k : ∀ c u, H c = some u → c ≠ a → H' c = some u) (hm : MOk b.K (Hd b S) H' a o') : Rel b (S.setm a o') σ H' ∧ Ex (hide (Hd b S) H) (hide (Hd b (S.setm a o')) H') := by
  have hA : a ∈ Hd b S := List.mem_append.mpr (.inr (List.mem_map.mpr ⟨_, ha, rfl⟩))
  have x : Ex (hide (Hd b S) H) (hide (Hd b S) H') := fun c u h => by
    obtain ⟨h1, h2⟩ := hide_some h
    rw [hide_out h2]
    exact k c u h1 fun e => h2 (e ▸ hA)
  refine ⟨⟨r.len, fun i y h => ?_, ?_⟩, by rw [hd_setm]; exact x⟩
  · rcases r.slot i y h with q | ⟨v, q, k'⟩
    · exact .inl q
    · exact .inr ⟨v, q, by rw [hd_setm]; exact k'.ex x fun _ h => h⟩
  · have hs : (S.setm a o').as = S.as := by unfold DS.as DS.setm; exact setM_as _ _ _
    refine ⟨fun p hp => ?_, by rw [hs]; exact r.rm.nd, fun c hc => by rw [hs] at hc; exact r.rm.fr c hc, fun c u e ne => ?_, by rw [hs]; exact r.rm.fxs⟩
    · rw [hd_setm]
      rcases setM_mem hp with e | ⟨e, ne⟩
      · subst e; exact hm
      · have := r.rm.mem p e
        obtain ⟨c, mo⟩ := p
        cases mo with
        | lst ds => obtain ⟨vs, q1, q2⟩ := this; exact ⟨vs, k _ _ q1 ne, DpAll.ex x q2⟩
        | dct ds => obtain ⟨vs, q1, q2⟩ := this; exact ⟨vs, k _ _ q1 ne, KvAll.ex x q2⟩
        | tab q =>
          have hk : ∀ φ, H a ≠ some (.ext φ) := fun φ z => by
            have := r.rm.mem _ ha
            cases o with
            | lst ds => obtain ⟨vs, q, _⟩ := this; rw [z] at q; cases q
            | dct ds => obtain ⟨vs, q, _⟩ := this; rw [z] at q; cases q
            | tab q => obtain ⟨vs, q, _⟩ := this; rw [z] at q; cases q
          obtain ⟨ps, t1, t2, t3⟩ := this
          refine ⟨ps, k _ _ t1 ne, t2, fun pos cv hc => ?_⟩
          obtain ⟨c', e1, e2⟩ := t3 pos cv hc
          exact ⟨c', e1, k _ _ e2 fun z => hk _ (by rw [← z]; exact e2)⟩
    · refine k c u (r.rm.ext c u e ne) fun hc => ?_
      subst hc
      rcases r.rm.fr c (List.mem_map.mpr ⟨_, ha, rfl⟩) with q | q
      · rw [e] at q; cases q
      · exact ne q
/-- a call of such a def -/
theorem ev_callM {k : Nat} {fa : Addr} {fd : FuncData} {ps : List Str} {f : List PyData → List PyData → PyData → List PyData → Prop} {nm : Str} {p : Pos} {e : Expr} {es : List Expr} {a : Addr} {ms ms' ds : List PyData} {d : PyData} {E : XK} {CX : CXT}
    (F : FnOk X.prog X.w X.K X.mg X.base CX k fa fd ps (MP X.K f)) (hK : X.K = b.K) (hr : Room k X.A) (hg : Gl X nm) (hm : X.mg nm = some (.ref fa)) (kp : PySem.W.keepIn X.K (.ref fa) = true) (hb : L2.Binds X.K fd ps []) (hx : Passes CX X E)
    (ha : EA X b (e :: es) S (.m a :: ds.map .d) S1) (hin : (a, MO.lst ms) ∈ S1.m) (hf : f ms ds d ms') (hdb : (nm == ("__debug__" : Str)) = false := by decide)
    (he : starEach (e :: es) X.env = (false, eval e X.env) :: starEach es X.env := by rfl) (hpl : (backTo pos (starEach es X.env)).any (·.1) = false := by rfl) : EV X b (.Call (.Name nm p) (e :: es) [] pos) S (.d d) (S1.setm a (.lst ms')) := by
  intro σ H r Q q
  refine wE_of (pe_call F hr hg hm kp hb .nil hx (paW _) hdb he hpl) (ha σ H r _ fun vs H1 k1 r1 x1 a1 => ?_)
  show MP X.K f (vs ++ []) H1 Q E
  rw [List.append_nil, hK]
  cases k1 with
  | cons k1 k2 =>
    obtain ⟨rfl, hA⟩ := k1
    obtain ⟨us, e1, e2⟩ := r1.rm.mem _ hin
    let A' := (Hd b S1).filter fun c => decide (c ≠ a)
    have hsub : ∀ c, c ∈ A' ++ [a] ↔ c ∈ Hd b S1 := fun c => by
      simp only [A', List.mem_append, List.mem_filter, List.mem_singleton, decide_eq_true_eq]
      constructor
      · rintro (h | h)
        · exact h.1
        · subst h; exact hA
      · intro h
        by_cases hc : c = a
        · exact .inr hc
        · exact .inl ⟨h, hc⟩
    have hh : ∀ G : Hp, hide (A' ++ [a]) G = hide (Hd b S1) G := fun G => funext fun c => by
      by_cases hc : c ∈ Hd b S1
      · rw [hide_in hc, hide_in ((hsub c).mpr hc)]
      · rw [hide_out hc, hide_out fun h => hc ((hsub c).mp h)]
    refine ⟨A', a, _, us, ds, ms, d, ms', rfl, by simp [A'], fun c hc => r1.rm.tracked c ((hsub c).mp (List.mem_append.mpr (.inl hc))), e1, by rw [hh]; exact e2, by rw [hh]; exact vall_d k2, hf, fun v H2 us' kk e3 e4 e5 => ?_⟩
    rw [hh] at e4 e5
    obtain ⟨r2, x2⟩ := r1.setm (o' := .lst ms') hin kk ⟨us', e3, e4⟩
    exact q v H2 (by rw [hd_setm]; exact e5) r2 (x1.trans x2) fun c hc => by rw [hd_setm]; exact a1 c hc
end
end DX
end
section
set_option Elab.async false
set_option linter.all false
set_option maxRecDepth 100000
set_option maxHeartbeats 4000000
namespace DX
open PySem PySem.Spec PyProof.Rows L2
set_option autoImplicit false
section
variable {X : Cx} {b : Bs} {S S1 S2 S3 S' : DS} {x y z : DV} {pos : Pos} {D : DE} {rest : List Stmt}
/-! ### built-ins -/
/-- a call by values that leaves all as it was, or makes a new thing -/
def RC (b : Bs) (r : List V → Hp → VK → Prop) (xs : List DV) (S : DS) (z : DV) : Prop := ∀ H vs, RelM b S H → VAll b.K (Hd b S) H vs xs → ∀ Q : VK, (∀ w H', VOk b.K (Hd b S) H' w z → Ex H H' → Q w H') → r vs H Q
theorem ev_callB {nm : Str} {p : Pos} {e : Expr} {es : List Expr} {xs : List DV} {id : String} {r : List V → Hp → VK → Prop} (hc : CallR X (.builtin id) r) (hg : Gl X nm) (hm : X.mg nm = none) (hv : bootBuiltins nm = some (.builtin id)) (ha : EA X b (e :: es) S xs S1) (hr : RC b r xs S1 z)
    (hn : nm ≠ "__name__" := by decide) (hdb : (nm == ("__debug__" : Str)) = false := by decide) (he : starEach (e :: es) X.env = (false, eval e X.env) :: starEach es X.env := by rfl) (hpl : (backTo pos (starEach es X.env)).any (·.1) = false := by rfl) : EV X b (.Call (.Name nm p) (e :: es) [] pos) S z S1 := by
  intro σ H rl Q q
  refine wE_of (pe_callB hc hg hm hv (paW _) hn hdb he hpl) (ha σ H rl _ fun vs H1 k1 r1 x1 a1 => ?_)
  refine hr H1 vs r1.rm k1 Q fun w H2 k2 x2 => ?_
  obtain ⟨r2, x3⟩ := r1.grow x2
  exact q w H2 k2 r2 (x1.trans x3) a1
theorem ev_callTy {nm : Str} {p : Pos} {e : Expr} {es : List Expr} {xs : List DV} {T : String} {r : List V → Hp → VK → Prop} (hc : CallR X (.type T) r) (hg : Gl X nm) (hm : X.mg nm = none) (hv : bootBuiltins nm = some (.type T)) (ha : EA X b (e :: es) S xs S1) (hr : RC b r xs S1 z)
    (hn : nm ≠ "__name__" := by decide) (hdb : (nm == ("__debug__" : Str)) = false := by decide) (he : starEach (e :: es) X.env = (false, eval e X.env) :: starEach es X.env := by rfl) (hpl : (backTo pos (starEach es X.env)).any (·.1) = false := by rfl) : EV X b (.Call (.Name nm p) (e :: es) [] pos) S z S1 := by
  intro σ H rl Q q
  refine wE_of (pe_callTy hc hg hm hv (paW _) hn hdb he hpl) (ha σ H rl _ fun vs H1 k1 r1 x1 a1 => ?_)
  refine hr H1 vs r1.rm k1 Q fun w H2 k2 x2 => ?_
  obtain ⟨r2, x3⟩ := r1.grow x2
  exact q w H2 k2 r2 (x1.trans x3) a1
/-- a function of a library module, by its bare name -/
theorem ev_callF {nm : Str} {p : Pos} {e : Expr} {es : List Expr} {xs : List DV} {id : String} {r : List V → Hp → VK → Prop} (hc : CallR X (.builtin id) r) (hg : Gl X nm) (hm : X.mg nm = some (.builtin id)) (ha : EA X b (e :: es) S xs S1) (hr : RC b r xs S1 z)
    (hdb : (nm == ("__debug__" : Str)) = false := by decide) (he : starEach (e :: es) X.env = (false, eval e X.env) :: starEach es X.env := by rfl) (hpl : (backTo pos (starEach es X.env)).any (·.1) = false := by rfl) : EV X b (.Call (.Name nm p) (e :: es) [] pos) S z S1 := by
  intro σ H rl Q q
  refine wE_of (pe_callBfun hc hg hm (paW _) hdb he hpl) (ha σ H rl _ fun vs H1 k1 r1 x1 a1 => ?_)
  refine hr H1 vs r1.rm k1 Q fun w H2 k2 x2 => ?_
  obtain ⟨r2, x3⟩ := r1.grow x2
  exact q w H2 k2 r2 (x1.trans x3) a1
theorem vall1 {K : PySem.W.Frag} {A : List Addr} {H : Hp} {vs : List V} {x : DV} (h : VAll K A H vs [x]) : ∃ v, vs = [v] ∧ VOk K A H v x := by
  cases h with
  | cons h hs => cases hs; exact ⟨_, rfl, h⟩
theorem vall2 {K : PySem.W.Frag} {A : List Addr} {H : Hp} {vs : List V} {x y : DV} (h : VAll K A H vs [x, y]) : ∃ u v, vs = [u, v] ∧ VOk K A H u x ∧ VOk K A H v y := by
  cases h with
  | cons h hs =>
    obtain ⟨v, rfl, k⟩ := vall1 hs
    exact ⟨_, _, rfl, h, k⟩
theorem rc_lenT {ds : List PyData} (hK : X.K = b.K) : RC b (fun xs H Q => ∃ p ys, xs = [V.ref p] ∧ (SqL X.K H p ys ∨ SqT X.K H p ys) ∧ Q (.int (ys.length : Int)) H) [.d (.tuple ds)] S (.d (.int (ds.length : Int))) := by
  intro H vs rm h Q q
  obtain ⟨v, rfl, k⟩ := vall1 h
  cases k with
  | tup hs ha => exact ⟨_, _, rfl, .inr (by rw [hK]; exact ex_t hide_ex hs), q _ H (by rw [DpAll.len ha]; exact .int _) (Ex.refl _)⟩
theorem rc_lenL {ds : List PyData} (hK : X.K = b.K) : RC b (fun xs H Q => ∃ p ys, xs = [V.ref p] ∧ (SqL X.K H p ys ∨ SqT X.K H p ys) ∧ Q (.int (ys.length : Int)) H) [.d (.list ds)] S (.d (.int (ds.length : Int))) := by
  intro H vs rm h Q q
  obtain ⟨v, rfl, k⟩ := vall1 h
  cases k with
  | lst hs ha => exact ⟨_, _, rfl, .inl (by rw [hK]; exact ex_l hide_ex hs), q _ H (by rw [DpAll.len ha]; exact .int _) (Ex.refl _)⟩
/-- int(i) -/
theorem rc_int {i : Int} : RC b (fun xs H Q => (∃ i, xs = [V.int i] ∧ Q (.int i) H) ∨ ∃ k, xs = [V.bl k] ∧ Q (.int (if k then 1 else 0)) H) [.d (.int i)] S (.d (.int i)) := by
  intro H vs rm h Q q
  obtain ⟨v, rfl, k⟩ := vall1 h
  cases k
  exact .inl ⟨i, rfl, q _ H (.int i) (Ex.refl _)⟩
theorem rc_max2 {i j : Int} : RC b (fun xs H Q => ∃ i j, xs = [V.int i, V.int j] ∧ Q (.int (if j > i then j else i)) H) [.d (.int i), .d (.int j)] S (.d (.int (if j > i then j else i))) := by
  intro H vs rm h Q q
  obtain ⟨u, v, rfl, k1, k2⟩ := vall2 h
  cases k1; cases k2
  exact ⟨i, j, rfl, q _ H (.int _) (Ex.refl _)⟩
theorem rc_min2 {i j : Int} : RC b (fun xs H Q => ∃ i j, xs = [V.int i, V.int j] ∧ Q (.int (if j < i then j else i)) H) [.d (.int i), .d (.int j)] S (.d (.int (if j < i then j else i))) := by
  intro H vs rm h Q q
  obtain ⟨u, v, rfl, k1, k2⟩ := vall2 h
  cases k1; cases k2
  exact ⟨i, j, rfl, q _ H (.int _) (Ex.refl _)⟩
theorem rc_gcd {i j : Int} : RC b rGcd [.d (.int i), .d (.int j)] S (.d (.int ((Nat.gcd i.natAbs j.natAbs : Nat) : Int))) := by
  intro H vs rm h Q q
  obtain ⟨u, v, rfl, k1, k2⟩ := vall2 h
  cases k1; cases k2
  exact ⟨i, j, rfl, q _ H (.int _) (Ex.refl _)⟩
/-- all(..) of a new list of bools -/
theorem dp_bools {K : PySem.W.Frag} {H : Hp} : ∀ {bs : List Bool} {xs : List V}, DpAll K H xs (bs.map PyData.bool) → xs = bs.map V.bl
  | [], _, h => by cases h; rfl
  | c :: bs, _, h => by
    cases h with
    | cons h hs =>
      cases h
      rw [dp_bools hs]
      rfl
theorem rc_all {bs : List Bool} (hK : X.K = b.K) : RC b (rAll X.K) [.d (.list (bs.map .bool))] S (.d (.bool (bs.all id))) := by
  intro H vs rm h Q q
  obtain ⟨v, rfl, k⟩ := vall1 h
  cases k with
  | lst hs ha =>
    rw [dp_bools ha] at hs
    exact ⟨_, bs, rfl, by rw [hK]; exact ex_l hide_ex hs, q _ H (.bl _) (Ex.refl _)⟩
/-- isinstance of data -/
def kindT : PyData → Option String
  | .none => some "NoneType"
  | .bool _ => some "bool"
  | .int _ => some "int"
  | .str _ => some "str"
  | .list _ => some "list"
  | .tuple _ => some "tuple"
  | .dict _ => Option.none
/-- tuple(xs) -/
theorem ev_tupleL {p : Pos} {e : Expr} {ds : List PyData} (hK : X.K = b.K) (hg : Gl X "tuple") (hm : X.mg "tuple" = none) (h : EV X b e S (.d (.list ds)) S1) (he : starEach [e] X.env = (false, eval e X.env) :: starEach [] X.env := by rfl) : EV X b (.Call (.Name "tuple" p) [e] [] pos) S (.d (.tuple ds)) S1 := by
  intro σ H r Q q
  refine wE_of (pe_tupleOf hg hm (peW _) he) ?_
  show wE X e σ H _
  refine h σ H r _ fun v H1 k1 r1 x1 a1 => ?_
  cases k1 with
  | lst hs ha =>
    rename_i c xs
    refine .inl ⟨c, xs, rfl, by rw [hK]; exact ex_l hide_ex hs, fun p hp => ?_⟩
    obtain ⟨r2, x2⟩ := r1.grow (Ex.new (o := .tup xs) hp)
    exact q _ _ (.tup (.inl (.inl (hide_new (r1.rm.fresh hp)))) (DpAll.ex x2 ha)) r2 (x1.trans x2) a1
/-- t + u -/
theorem rv_catT {ds es : List PyData} (hK : X.K = b.K) (hz : ds.length + es.length ≤ 1000) : RV b (rCatA X.K) (.d (.tuple ds)) (.d (.tuple es)) S (.d (.tuple (ds ++ es))) := by
  intro H u v rm hu hv Q q
  cases hu with
  | tup h1 a1 =>
    rename_i c xs
    cases hv with
    | tup h2 a2 =>
      rename_i d ys
      refine ⟨c, d, xs, ys, rfl, rfl, by rw [hK]; exact ex_t hide_ex h1, by rw [hK]; exact ex_t hide_ex h2, by rw [DpAll.len a1, DpAll.len a2]; exact Nat.le_of_lt (small1000 hz), fun e => ?_, fun e1 e2 => ?_, fun e1 e2 p hp => ?_⟩
      · subst e
        have := DpAll.len a1
        have e : ds = [] := List.length_eq_zero_iff.mp this.symm
        subst e
        exact q _ H (.tup h2 a2) (fun _ r => r) (Ex.refl _)
      · subst e2
        have := DpAll.len a2
        have e : es = [] := List.length_eq_zero_iff.mp this.symm
        subst e
        exact q _ H (by show Dp _ _ _ (.tuple (ds ++ [])); rw [List.append_nil]; exact .tup h1 a1) (fun _ r => r) (Ex.refl _)
      · obtain ⟨r2, x2⟩ := rm.grow (Ex.new (o := .tup (xs ++ ys)) hp)
        exact q _ _ (.tup (.inl (.inl (hide_new (rm.fresh hp)))) (DpAll.ex x2 (DpAll.append a1 a2))) (fun σ r => (r.grow (Ex.new hp)).1) x2
theorem ev_catT {e1 e2 : Expr} {ds es : List PyData} (hK : X.K = b.K) (h1 : EV X b e1 S (.d (.tuple ds)) S1) (h2 : EV X b e2 S1 (.d (.tuple es)) S2) (hz : ds.length + es.length ≤ 1000) : EV X b (.BinOp e1 .Add e2 pos) S (.d (.tuple (ds ++ es))) S2 := ev_op op_catA h1 h2 (rv_catT hK hz)
/-- xs[i:] of a list -/
theorem dpAll_drop {K : PySem.W.Frag} {H : Hp} {vs : List V} {ds : List PyData} (h : DpAll K H vs ds) : ∀ n, DpAll K H (vs.drop n) (ds.drop n) := by
  intro n
  induction n generalizing vs ds with
  | zero => exact h
  | succ n ih =>
    cases h with
    | nil => exact .nil
    | cons _ hs => exact ih hs
theorem cut_from (xs : List V) (n : Nat) : cutV xs (some (n : Int)) none = xs.drop n := by
  unfold cutV
  rw [HT.sIx_nat, HT.sIx_none]
  by_cases h : n ≤ xs.length
  · rw [Nat.min_eq_left h]
    refine List.take_of_length_le ?_
    rw [List.length_drop]
    exact Nat.le_refl _
  · rw [Nat.min_eq_right (by omega)]
    rw [List.drop_of_length_le (by omega : xs.length ≤ xs.length), List.drop_of_length_le (by omega : xs.length ≤ n)]
    simp
theorem ev_from {e1 : Expr} {ds : List PyData} {n : Nat} {k} {p2 p3 : Pos} (hK : X.K = b.K) (h1 : EV X b e1 S (.d (.list ds)) S1) : EV X b (.Subscript e1 (.Slice (some (.Constant (.int (n : Int)) k p3)) none none p2) pos) S (.d (.list (ds.drop n))) S1 := by
  intro σ H r Q q
  refine wE_of (pe_slice sl_list (peW _) (po_some pe_int) po_none) (h1 σ H r _ fun v H1 k1 r1 x1 a1 => ?_)
  cases k1 with
  | lst hs ha =>
    rename_i c xs
    refine ⟨(n : Int), rfl, c, xs, rfl, by rw [hK]; exact ex_l hide_ex hs, fun p hp => ?_⟩
    rw [cut_from]
    obtain ⟨r2, x2⟩ := r1.grow (Ex.new (o := .lst (xs.drop n)) hp)
    exact q _ _ (.lst (.inl (.inl (hide_new (r1.rm.fresh hp)))) (DpAll.ex x2 (dpAll_drop ha n))) r2 (x1.trans x2) a1
/-! ### mutable lists and dicts -/
/-- a thing made and kept to be changed -/
def DS.add (S : DS) (a : Addr) (o : MO) : DS := { S with m := S.m ++ [(a, o)] }
theorem hd_add (b : Bs) (S : DS) (a : Addr) (o : MO) : Hd b (S.add a o) = Hd b S ++ [a] := by
  unfold Hd DS.as DS.add
  rw [List.map_append, ← List.append_assoc]
  rfl
theorem Rel.addM {σ : List (Option V)} {H H' : Hp} {a : Addr} {o : MO} (r : Rel b S σ H) (hn : H a = none) (k : Ex H H') (hm : MOk b.K (Hd b S ++ [a]) H' a o) : Rel b (S.add a o) σ H' ∧ Ex (hide (Hd b S) H) (hide (Hd b (S.add a o)) H') := by
  have x : Ex (hide (Hd b S) H) (hide (Hd b (S.add a o)) H') := fun c u h => by
    obtain ⟨h1, h2⟩ := hide_some h
    rw [hide_out]
    · exact k c u h1
    · rw [hd_add]
      intro q
      rcases List.mem_append.mp q with q | q
      · exact h2 q
      · rw [List.mem_singleton] at q
        rw [q, hn] at h1
        cases h1
  have na : a ∉ S.as := fun q => r.rm.fresh hn (List.mem_append.mpr (.inr q))
  have hs : (S.add a o).as = S.as ++ [a] := by unfold DS.as DS.add; simp
  refine ⟨⟨r.len, fun i y h => ?_, ⟨fun p hp => ?_, ?_, fun c hc => ?_, fun c u e ne => k c u (r.rm.ext c u e ne), fun c hc => by rw [hs]; exact List.mem_append.mpr (.inl (r.rm.fxs c hc))⟩⟩, x⟩
  · rcases r.slot i y h with q | ⟨v, q, k'⟩
    · exact .inl q
    · exact .inr ⟨v, q, k'.ex x fun c hc => by rw [hd_add]; exact List.mem_append.mpr (.inl hc)⟩
  · rcases List.mem_append.mp (show p ∈ S.m ++ [(a, o)] from hp) with e | e
    · have := r.rm.mem p e
      obtain ⟨c, mo⟩ := p
      cases mo with
      | lst ds => obtain ⟨vs, q1, q2⟩ := this; exact ⟨vs, k _ _ q1, DpAll.ex x q2⟩
      | dct ds => obtain ⟨vs, q1, q2⟩ := this; exact ⟨vs, k _ _ q1, KvAll.ex x q2⟩
      | tab q => exact LamX.TabS.ext this k
    · rw [List.mem_singleton] at e
      subst e
      rw [hd_add]
      exact hm
  · rw [hs]
    exact List.nodup_append.mpr ⟨r.rm.nd, by simp, fun c hc d hd => by rw [List.mem_singleton] at hd; rw [hd]; intro e; exact na (e ▸ hc)⟩
  · rw [hs] at hc
    rcases List.mem_append.mp hc with q | q
    · exact r.rm.fr c q
    · rw [List.mem_singleton] at q
      subst q
      by_cases hf : c ∈ b.fx
      · exact .inr hf
      · left
        cases e : b.B c with
        | none => rfl
        | some u => rw [r.rm.ext c u e hf] at hn; cases hn
/-- name = [..], a list that will be changed -/
theorem sy_newL {nm : Str} {i : Nat} {es : List Expr} {pos' p2 : Pos} {ds : List PyData} (h : EA X b es S (ds.map .d) S1) (hz : ds.length ≤ 1000) (hN : X.N.Nodup) (hi : X.N[i]? = some nm) (hx : Loc X.env.scope nm) (hl : i < S1.g.length) (hd : ∀ a, D.nx ((S1.add a (.lst ds)).put i (.m a)))
    (hs : swapsWith (.List es p2) (some (.Name nm pos')) pos.line X.env = pure false := by rfl) (hf : X.fn nm = true ∨ X.env.scope.names.lookup nm = some .local := by first | exact .inl rfl | exact .inr rfl) : SY X b (.Assign [.Name nm pos'] (.List es p2) pos) S D := by
  intro σ H r E k
  refine w1_of (ps_set hN hi hx (pe_lst (paW _)) hs hf) (h σ H r _ fun vs H1 k1 r1 x1 a1 => ?_)
  have hv := vall_d k1
  refine ⟨by rw [DpAll.len hv]; exact Nat.le_of_lt (small1000 hz), fun a ha => ?_⟩
  have x2 : Ex (hide (Hd b S1) H1) (hide (Hd b S1 ++ [a]) (upd H1 a (.lst vs))) := fun c u e => by
    obtain ⟨e1, e2⟩ := hide_some e
    have hne := ne_of_none e1 ha
    rw [hide_out (by intro q; rcases List.mem_append.mp q with q | q; exact e2 q; exact hne (List.mem_singleton.mp q)), upd_ne hne]
    exact e1
  obtain ⟨r2, x3⟩ := r1.addM (o := .lst ds) ha (Ex.new (o := .lst vs) ha) ⟨vs, upd_same, DpAll.ex x2 hv⟩
  refine k.nx _ _ _ (hd a) (r2.put hl ⟨rfl, by rw [hd_add]; simp⟩) ?_
  exact x1.trans x3
/-- name = {} -/
theorem sy_newD {nm : Str} {i : Nat} {pos' p2 : Pos} (hN : X.N.Nodup) (hi : X.N[i]? = some nm) (hx : Loc X.env.scope nm) (hl : i < S.g.length) (hd : ∀ a, D.nx ((S.add a (.dct [])).put i (.m a)))
    (hs : swapsWith (.Dict [] [] p2) (some (.Name nm pos')) pos.line X.env = pure false := by rfl) (hf : X.fn nm = true ∨ X.env.scope.names.lookup nm = some .local := by first | exact .inl rfl | exact .inr rfl) : SY X b (.Assign [.Name nm pos'] (.Dict [] [] p2) pos) S D := by
  intro σ H r E k
  refine w1_of (ps_set hN hi hx pe_dnewK hs hf) ?_
  intro a ha
  obtain ⟨r2, x3⟩ := r.addM (o := .dct []) ha (Ex.new (o := .dK []) ha) ⟨[], upd_same, .nil⟩
  exact k.nx _ _ _ (hd a) (r2.put hl ⟨rfl, by rw [hd_add]; simp⟩) x3
/-- xs.append(e) -/
theorem sy_append {o e : Expr} {apos cpos : Pos} {a : Addr} {ms : List PyData} {d : PyData} (ho : EV X b o S (.m a) S) (he : EV X b e S (.d d) S1) (hin : (a, MO.lst ms) ∈ S.m) (hin1 : (a, MO.lst ms) ∈ S1.m) (hz : ms.length < 1000) (hd : D.nx (S1.setm a (.lst (ms ++ [d]))))
    (hb : attributeBase o "append" X.env (eval o X.env) = eval o X.env := by rfl) (hk : (((backTo cpos (starEach [e] X.env)).all (!·.1) && (backToKw cpos (keywordEach [] X.env)).all (·.1.isSome)) && decide (([e].length + ([] : List Keyword).length + if ([] : List Keyword).isEmpty then 0 else 1) < 30)) = true := by rfl) (hl : (apos.endLine == cpos.line) = true := by rfl)
    (hst : starEach [e] X.env = (false, eval e X.env) :: starEach [] X.env := by rfl) (hpl : (backTo cpos (starEach [] X.env)).any (·.1) = false := by rfl) (hs : swapsWith (.Call (.Attribute o "append" apos) [e] [] cpos) none pos.line X.env = pure false := by rfl) :
    SY X b (.Expr (.Call (.Attribute o "append" apos) [e] [] cpos) pos) S D := by
  intro σ H r E k
  refine w1_of (ps_expr (pe_bm PySem.F.plainAttrs_list PySem.F.slot_list_append PySem.F.type_list_append mt_append (peW _) (pa_cons (peW _) pa_nil hst) hb hk hl hst hpl) hs) ?_
  show wE X o σ H _
  refine ho σ H r _ fun v H1 k1 r1 x1 a1 => ?_
  obtain ⟨rfl, _⟩ := k1
  obtain ⟨vs, e1, e2⟩ := r1.rm.mem _ hin
  refine ⟨.inl ⟨rfl, vs, .inl (.inl e1)⟩, ?_⟩
  refine he σ H1 r1 _ fun w H2 k2 r2 x2 a2 => ?_
  obtain ⟨ws, e3, e4⟩ := r2.rm.mem _ hin1
  refine ⟨a, ws, w, rfl, rfl, e3, by rw [DpAll.len e4]; exact small1000 (by omega), ?_⟩
  have xx : Ex (hide (Hd b S1) H2) (hide (Hd b S1) (upd H2 a (.lst (ws ++ [w])))) := fun c u e => by
    obtain ⟨q1, q2⟩ := hide_some e
    have hne : c ≠ a := fun z => q2 (z ▸ List.mem_append.mpr (.inr (List.mem_map.mpr ⟨_, hin1, rfl⟩)))
    rw [hide_out q2, upd_ne hne]
    exact q1
  obtain ⟨r3, x3⟩ := r2.setm (o' := .lst (ms ++ [d])) (H' := upd H2 a (.lst (ws ++ [w]))) hin1 (fun c u e ne => by rw [upd_ne ne]; exact e) ⟨_, upd_same, DpAll.ex xx (DpAll.append e4 (.cons k2 .nil))⟩
  exact k.nx _ _ _ hd r3 ((x1.trans x2).trans x3)
theorem dpAll_set {K : PySem.W.Frag} {H : Hp} {vs : List V} {ds : List PyData} (h : DpAll K H vs ds) : ∀ (n : Nat) {v : V} {d : PyData}, Dp K H v d → DpAll K H (vs.set n v) (ds.set n d) := by
  intro n
  induction n generalizing vs ds with
  | zero =>
    intro v d hv
    cases h with
    | nil => exact .nil
    | cons _ hs => exact .cons hv hs
  | succ n ih =>
    intro v d hv
    cases h with
    | nil => exact .nil
    | cons h hs => exact .cons h (ih hs hv)
/-- row[k] = e -/
theorem sy_setItem {o i e : Expr} {p2 : Pos} {a : Addr} {ms : List PyData} {j : Nat} {d : PyData} (he : EV X b e S (.d d) S1) (ho : EV X b o S1 (.m a) S1) (hi : EV X b i S1 (.d (.int (j : Int))) S1) (hin : (a, MO.lst ms) ∈ S1.m) (hj : j < ms.length) (hd : D.nx (S1.setm a (.lst (ms.set j d))))
    (hs : swapsWithSole [.Subscript o i p2] e pos.line X.env = pure false := by rfl) (hw : swappedStores [.Subscript o i p2] e X.env = pure none := by rfl) (h1 : (assignEach [.Subscript o i p2] X.env).map (·.2) = [assign (.Subscript o i p2) X.env] := by rfl)
    (ha : ∀ v, assign (.Subscript o i p2) X.env v = (do
      let ov ← holding [v] (eval o X.env)
      let iv ← holding [v, ov] (eval i X.env)
      standAt p2
      holding [v, ov, iv] (setItem ov iv v)
      release [v, ov, iv] []) := by intro _; rfl) : SY X b (.Assign [.Subscript o i p2] e pos) S D := by
  intro σ H r E k
  refine w1_of (ps_asg (peW _) (pg_sub (peW _) (peW _) set_list ha) hs hw h1) (he σ H r _ fun v H1 k1 r1 x1 a1 => ?_)
  refine ho σ H1 r1 _ fun ov H2 k2 r2 x2 a2 => ?_
  refine hi σ H2 r2 _ fun iv H3 k3 r3 x3 a3 => ?_
  obtain ⟨rfl, _⟩ := k2
  cases k3
  obtain ⟨ws, e3, e4⟩ := r3.rm.mem _ hin
  have hlen := DpAll.len e4
  refine ⟨a, ws, (j : Int), j, rfl, rfl, e3, ?_, ?_⟩
  · unfold ixN
    simp only [hlen]
    rw [if_pos (by omega)]
    simp
    try omega
  · have xx : Ex (hide (Hd b S1) H3) (hide (Hd b S1) (upd H3 a (.lst (ws.set j v)))) := fun c u e => by
      obtain ⟨q1, q2⟩ := hide_some e
      have hne : c ≠ a := fun z => q2 (z ▸ List.mem_append.mpr (.inr (List.mem_map.mpr ⟨_, hin, rfl⟩)))
      rw [hide_out q2, upd_ne hne]
      exact q1
    obtain ⟨r4, x4⟩ := r3.setm (o' := .lst (ms.set j d)) (H' := upd H3 a (.lst (ws.set j v))) hin (fun c u e ne => by rw [upd_ne ne]; exact e) ⟨_, upd_same, DpAll.ex xx (dpAll_set e4 j (Dp.ex (x2.trans x3) k1))⟩
    exact k.nx _ _ _ hd r4 (((x1.trans x2).trans x3).trans x4)
/-! dicts with int keys -/
def kput (kvs : List (Key × PyData)) (k : Key) (d : PyData) : List (Key × PyData) := if (kvs.any fun kv => decide (kv.1 = k)) = true then kvs.map (fun kv => if kv.1 = k then (kv.1, d) else kv) else kvs ++ [(k, d)]
def kget (kvs : List (Key × PyData)) (k : Key) : Option PyData := (kvs.find? fun kv => decide (kv.1 = k)).map (·.2)
theorem kvAll_get {K : PySem.W.Frag} {H : Hp} {us : List (Key × V)} {kvs : List (Key × PyData)} (h : KvAll K H us kvs) (k : Key) : (valV us k = none ∧ kget kvs k = none) ∨ ∃ v d, valV us k = some v ∧ kget kvs k = some d ∧ Dp K H v d := by
  induction h with
  | nil => exact .inl ⟨rfl, rfl⟩
  | @cons k0 v d us kvs hd _ ih =>
    by_cases e : k0 = k
    · refine .inr ⟨v, d, ?_, ?_, hd⟩
      · unfold valV; rw [List.find?_cons_of_pos (by simpa using e)]; rfl
      · unfold kget; rw [List.find?_cons_of_pos (by simpa using e)]; rfl
    · unfold valV kget at ih ⊢
      rw [List.find?_cons_of_neg (by simpa using e), List.find?_cons_of_neg (by simpa using e)]
      exact ih
theorem kvAll_keys {K : PySem.W.Frag} {H : Hp} {us : List (Key × V)} {kvs : List (Key × PyData)} (h : KvAll K H us kvs) : us.map (·.1) = kvs.map (·.1) := by
  induction h with
  | nil => rfl
  | cons _ _ ih => rw [List.map_cons, List.map_cons, ih]
theorem kvAll_any {K : PySem.W.Frag} {H : Hp} {us : List (Key × V)} {kvs : List (Key × PyData)} (h : KvAll K H us kvs) (k : Key) : (us.any fun kv => decide (kv.1 = k)) = (kvs.any fun kv => decide (kv.1 = k)) := by
  induction h with
  | nil => rfl
  | cons _ _ ih => rw [List.any_cons, List.any_cons, ih]
theorem kvAll_put {K : PySem.W.Frag} {H : Hp} {us : List (Key × V)} {kvs : List (Key × PyData)} (h : KvAll K H us kvs) (k : Key) {v : V} {d : PyData} (hv : Dp K H v d) : KvAll K H (putK us k v) (kput kvs k d) := by
  unfold putK kput
  rw [kvAll_any h]
  by_cases c : (kvs.any fun kv => decide (kv.1 = k)) = true
  · rw [if_pos c, if_pos c]
    clear c
    induction h with
    | nil => exact .nil
    | @cons k0 v0 d0 us kvs hd _ ih =>
      rw [List.map_cons, List.map_cons]
      by_cases e : k0 = k
      · rw [if_pos e, if_pos e]
        exact .cons hv ih
      · rw [if_neg e, if_neg e]
        exact .cons hd ih
  · rw [if_neg c, if_neg c]
    clear c
    induction h with
    | nil => exact .cons hv .nil
    | cons hd _ ih => exact .cons hd ih
/-- d[k] = e -/
theorem sy_dput {o i e : Expr} {p2 : Pos} {a : Addr} {kvs : List (Key × PyData)} {n : Int} {d : PyData} (hu : X.A.units + 1 < cLine) (he : EV X b e S (.d d) S1) (ho : EV X b o S1 (.m a) S1) (hi : EV X b i S1 (.d (.int n)) S1) (hin : (a, MO.dct kvs) ∈ S1.m) (hz : kvs.length ≤ 1000) (hd : D.nx (S1.setm a (.dct (kput kvs (.inl n) d))))
    (hs : swapsWith e (some (.Subscript o i p2)) pos.line X.env = pure false := by rfl) : SY X b (.Assign [.Subscript o i p2] e pos) S D := by
  intro σ H r E k
  refine w1_of (ps_dput hu (peW _) (peW _) (peW _) hs) (he σ H r _ fun v H1 k1 r1 x1 a1 => ?_)
  refine ho σ H1 r1 _ fun ov H2 k2 r2 x2 a2 => ?_
  refine hi σ H2 r2 _ fun iv H3 k3 r3 x3 a3 => ?_
  obtain ⟨rfl, _⟩ := k2
  cases k3
  obtain ⟨us, e3, e4⟩ := r3.rm.mem _ hin
  have hlen : us.length = kvs.length := by
    have := congrArg List.length (kvAll_keys e4)
    simpa using this
  refine ⟨a, _, rfl, DPut.k (k := Sum.inl n) e3 (by rw [hlen]; exact small1000 hz), ?_⟩
  have xx : Ex (hide (Hd b S1) H3) (hide (Hd b S1) (upd H3 a (.dK (putK us (.inl n) v)))) := fun c u e => by
    obtain ⟨q1, q2⟩ := hide_some e
    have hne : c ≠ a := fun z => q2 (z ▸ List.mem_append.mpr (.inr (List.mem_map.mpr ⟨_, hin, rfl⟩)))
    rw [hide_out q2, upd_ne hne]
    exact q1
  obtain ⟨r4, x4⟩ := r3.setm (o' := .dct (kput kvs (.inl n) d)) (H' := upd H3 a (.dK (putK us (.inl n) v))) hin (fun c u e ne => by rw [upd_ne ne]; exact e) ⟨_, upd_same, KvAll.ex xx (kvAll_put e4 _ (Dp.ex (x2.trans x3) k1))⟩
  exact k.nx _ _ _ hd r4 (((x1.trans x2).trans x3).trans x4)
/-- d.get(k, e) -/
theorem ev_dget2 {o e f : Expr} {apos cpos : Pos} {a : Addr} {kvs : List (Key × PyData)} {n : Int} {d : PyData} (hu : X.A.units + 1 < cLine) (ho : EV X b o S (.m a) S) (hi : EV X b e S (.d (.int n)) S) (hf : EV X b f S (.d d) S) (hin : (a, MO.dct kvs) ∈ S.m) (m : M2 X o "get" apos e f cpos) :
    EV X b (.Call (.Attribute o "get" apos) [e, f] [] cpos) S (.d ((kget kvs (.inl n)).getD d)) S := by
  intro σ H r Q q
  refine wE_of (pe_dget2 hu (peW _) (peW _) (peW _) m) (ho σ H r _ fun ov H1 k1 r1 x1 a1 => ?_)
  obtain ⟨rfl, _⟩ := k1
  obtain ⟨us, e1, e2⟩ := r1.rm.mem _ hin
  refine ⟨a, rfl, .inl ⟨us, .inl e1⟩, hi σ H1 r1 _ fun iv H2 k2 r2 x2 a2 => ?_⟩
  cases k2
  refine hf σ H2 r2 _ fun w H3 k3 r3 x3 a3 => ?_
  obtain ⟨ws, e3, e4⟩ := r3.rm.mem _ hin
  refine ⟨_, DGet.k (k := Sum.inl n) e3, ?_⟩
  rcases kvAll_get e4 (.inl n) with ⟨h1, h2⟩ | ⟨v, d', h1, h2, h3⟩
  · rw [h1]
    exact q w H3 (by rw [h2]; exact k3) r3 ((x1.trans x2).trans x3) fun _ h => h
  · rw [h1]
    exact q v H3 (by rw [h2]; exact h3) r3 ((x1.trans x2).trans x3) fun _ h => h
/-- d[k], there -/
theorem ev_dgetI {o i : Expr} {a : Addr} {kvs : List (Key × PyData)} {n : Int} {d : PyData} (hu : X.A.units + 1 < cLine) (ho : EV X b o S (.m a) S) (hi : EV X b i S (.d (.int n)) S) (hin : (a, MO.dct kvs) ∈ S.m) (hk : kget kvs (.inl n) = some d) (hp : PlainIx i := by exact fun _ _ => rfl) : EV X b (.Subscript o i pos) S (.d d) S := by
  intro σ H r Q q
  refine wE_of (pe_dget hu (peW _) (peW _) hp) (ho σ H r _ fun ov H1 k1 r1 x1 a1 => ?_)
  obtain ⟨rfl, _⟩ := k1
  refine hi σ H1 r1 _ fun iv H2 k2 r2 x2 a2 => ?_
  cases k2
  obtain ⟨ws, e3, e4⟩ := r2.rm.mem _ hin
  rcases kvAll_get e4 (.inl n) with ⟨h1, h2⟩ | ⟨v, d', h1, h2, h3⟩
  · rw [hk] at h2; cases h2
  · rw [hk] at h2
    cases (Option.some.inj h2)
    refine ⟨a, v, rfl, ?_, q v H2 h3 r2 (x1.trans x2) fun _ h => h⟩
    rw [← h1]
    exact DGet.k (k := Sum.inl n) e3
/-- sorted(d): the int keys, rising -/
def intKeys (kvs : List (Key × PyData)) (ks : List Int) : Prop := kvs.map (·.1) = ks.map Sum.inl
theorem perm_sorted_unique : ∀ {ys zs : List Int}, ys.Perm zs → ys.Pairwise (· ≤ ·) → zs.Pairwise (· ≤ ·) → ys = zs := by
  intro ys zs h h1 h2
  exact h.eq_of_pairwise (fun a b _ _ h1 h2 => Int.le_antisymm h1 h2) h1 h2
theorem rc_sortedD {a : Addr} {kvs : List (Key × PyData)} {ks zs : List Int} (hin : (a, MO.dct kvs) ∈ S.m) (hk : intKeys kvs ks) (h64 : ks.length < 64) (hp : zs.Perm ks) (hs : zs.Pairwise (· ≤ ·)) : RC b (fun xs H Q => ∃ (a : Addr) (kvs : List (Key × V)) (ks : List Int), xs = [.ref a] ∧ Rd H a (.dK kvs) ∧ kvs.map (·.1) = ks.map Sum.inl ∧ ks.length < 64 ∧
    ∀ (ys : List Int) (p : Addr), ys.Perm ks → ys.Pairwise (· ≤ ·) → H p = none → Q (.ref p) (upd H p (.lst (ys.map V.int)))) [.m a] S (.d (.list (zs.map .int))) := by
  intro H vs rm h Q q
  obtain ⟨v, rfl, k⟩ := vall1 h
  obtain ⟨rfl, _⟩ := k
  obtain ⟨us, e3, e4⟩ := rm.mem _ hin
  refine ⟨a, us, ks, rfl, .inl e3, by rw [kvAll_keys e4]; exact hk, h64, fun ys p h1 h2 h3 => ?_⟩
  have e : ys = zs := perm_sorted_unique (h1.trans hp.symm) h2 hs
  subst e
  exact q _ _ (.lst (.inl (.inl (hide_new (rm.fresh h3)))) (DpAll.ints ys)) (Ex.new h3)
theorem rc_listD {a : Addr} {kvs : List (Key × PyData)} {ks : List Int} (hin : (a, MO.dct kvs) ∈ S.m) (hk : intKeys kvs ks) : RC b (fun xs H Q => ∃ (a : Addr) (kvs : List (Key × V)), xs = [.ref a] ∧ Rd H a (.dK kvs) ∧ ∀ p, H p = none → Q (.ref p) (upd H p (.lst (kvs.map fun kv => kV kv.1)))) [.m a] S (.d (.list (ks.map .int))) := by
  intro H vs rm h Q q
  obtain ⟨v, rfl, k⟩ := vall1 h
  obtain ⟨rfl, _⟩ := k
  obtain ⟨us, e3, e4⟩ := rm.mem _ hin
  refine ⟨a, us, rfl, .inl e3, fun p h3 => ?_⟩
  have e : (us.map fun kv => kV kv.1) = ks.map V.int := by
    have h1 := kvAll_keys e4
    have h2 : us.map (·.1) = ks.map Sum.inl := h1.trans hk
    have h3 := congrArg (List.map kV) h2
    rw [List.map_map, List.map_map] at h3
    exact h3
  rw [e]
  exact q _ _ (.lst (.inl (.inl (hide_new (rm.fresh h3)))) (DpAll.ints ks)) (Ex.new h3)
end
end DX
end
section
set_option Elab.async false
set_option linter.all false
set_option maxRecDepth 100000
set_option maxHeartbeats 4000000
namespace DX
open PySem PySem.Spec PyProof.Rows L2
set_option autoImplicit false
section
variable {X : Cx} {b : Bs} {S S1 S2 S3 S' : DS} {x y z : DV} {pos : Pos} {D : DE} {rest : List Stmt}
/-! ### a mutable thing that will not change any more -/
def DS.frz (S : DS) (a : Addr) (o : PyData) : DS := ⟨S.g.map fun v => match v with
  | .m c => if c = a then .d o else .m c
  | v => v, S.m.filter fun p => decide (p.1 ≠ a)⟩
theorem frz_as {S : DS} {a : Addr} {o : PyData} {c : Addr} (h : c ∈ Hd b (S.frz a o)) : c ∈ Hd b S := by
  rcases List.mem_append.mp h with q | q
  · exact List.mem_append.mpr (.inl q)
  · obtain ⟨p, hp, e⟩ := List.mem_map.mp q
    exact List.mem_append.mpr (.inr (List.mem_map.mpr ⟨p, (List.mem_filter.mp hp).1, e⟩))
theorem Rel.frzL {σ : List (Option V)} {H : Hp} {a : Addr} {ms : List PyData} (r : Rel b S σ H) (hin : (a, MO.lst ms) ∈ S.m) (hf : a ∉ b.fx) : Rel b (S.frz a (.list ms)) σ H ∧ Ex (hide (Hd b S) H) (hide (Hd b (S.frz a (.list ms))) H) := by
  have hd0 : a ∉ b.hd := fun q => by
    obtain ⟨h1, h2⟩ := b.hdt a q
    rcases r.rm.fr a (List.mem_map.mpr ⟨_, hin, rfl⟩) with h | h
    · exact h1 h
    · exact h2 h
  have na : a ∉ Hd b (S.frz a (.list ms)) := fun q => by
    rcases List.mem_append.mp q with q | q
    · exact hd0 q
    · obtain ⟨p, hp, e⟩ := List.mem_map.mp q
      exact of_decide_eq_true (List.mem_filter.mp hp).2 e
  have x : Ex (hide (Hd b S) H) (hide (Hd b (S.frz a (.list ms))) H) := fun c u e => by
    obtain ⟨h1, h2⟩ := hide_some e
    rw [hide_out fun q => h2 (frz_as q)]
    exact h1
  obtain ⟨us, e1, e2⟩ := r.rm.mem _ hin
  have dl : Dp b.K (hide (Hd b (S.frz a (.list ms))) H) (.ref a) (.list ms) := .lst (.inl (.inl (by rw [hide_out na]; exact e1))) (DpAll.ex x e2)
  have sub : ∀ c, c ∈ (S.frz a (.list ms)).as → c ∈ S.as := fun c hc => by
    obtain ⟨p, hp, e⟩ := List.mem_map.mp hc
    exact List.mem_map.mpr ⟨p, (List.mem_filter.mp hp).1, e⟩
  refine ⟨⟨by rw [r.len]; unfold DS.frz; simp, fun i y h => ?_, ⟨fun p hp => ?_, ?_, fun c hc => r.rm.fr c (sub c hc), r.rm.ext, fun c hc => by
    obtain ⟨p, hp, e⟩ := List.mem_map.mp (r.rm.fxs c hc)
    exact List.mem_map.mpr ⟨p, List.mem_filter.mpr ⟨hp, decide_eq_true (by rw [e]; intro z; exact hf (z ▸ hc))⟩, e⟩⟩⟩, x⟩
  · unfold DS.frz at h
    rw [List.getElem?_map] at h
    cases hg : S.g[i]? with
    | none => rw [hg] at h; cases h
    | some w =>
      rw [hg] at h
      have h := Option.some.inj h
      rcases r.slot i w hg with q | ⟨v, q, k⟩
      · subst q
        exact .inl h.symm
      · cases w with
        | no => exact .inl h.symm
        | d w =>
          refine .inr ⟨v, q, ?_⟩
          rw [← h]
          exact Dp.ex x k
        | m c =>
          refine .inr ⟨v, q, ?_⟩
          rw [← h]
          show VOk _ _ _ _ (if c = a then _ else _)
          obtain ⟨k1, k2⟩ := k
          by_cases hc : c = a
          · rw [if_pos hc, k1, hc]
            exact dl
          · rw [if_neg hc]
            refine ⟨k1, ?_⟩
            rcases List.mem_append.mp k2 with q | q
            · exact List.mem_append.mpr (.inl q)
            · obtain ⟨p, hp, e⟩ := List.mem_map.mp q
              exact List.mem_append.mpr (.inr (List.mem_map.mpr ⟨p, List.mem_filter.mpr ⟨hp, decide_eq_true (by rw [e]; exact hc)⟩, e⟩))
  · have hp' := (List.mem_filter.mp hp).1
    have := r.rm.mem p hp'
    obtain ⟨c, mo⟩ := p
    cases mo with
    | lst ds => obtain ⟨vs, q1, q2⟩ := this; exact ⟨vs, q1, DpAll.ex x q2⟩
    | dct ds => obtain ⟨vs, q1, q2⟩ := this; exact ⟨vs, q1, KvAll.ex x q2⟩
    | tab q => exact this
  · exact List.Pairwise.sublist (List.Sublist.map _ List.filter_sublist) r.rm.nd
/-- from here on it is data -/
theorem sx_frz {st : List Stmt} {a : Addr} {ms : List PyData} (hin : (a, MO.lst ms) ∈ S.m) (hf : a ∉ b.fx) (h : SX X b st (S.frz a (.list ms)) D) : SX X b st S D := by
  intro σ H r E k
  obtain ⟨r', x⟩ := r.frzL hin hf
  exact h σ H r' E (k.later x)
/-- a dict is forgotten -/
theorem Rel.drop {σ : List (Option V)} {H : Hp} {a : Addr} (r : Rel b S σ H) (hf : a ∉ b.fx) : Rel b ⟨S.g.map fun v => match v with
  | .m c => if c = a then .no else .m c
  | v => v, S.m.filter fun p => decide (p.1 ≠ a)⟩ σ H ∧ Ex (hide (Hd b S) H) (hide (Hd b ⟨S.g.map fun v => match v with
  | .m c => if c = a then .no else .m c
  | v => v, S.m.filter fun p => decide (p.1 ≠ a)⟩) H) := by
  have asub : ∀ c, c ∈ Hd b ⟨S.g.map fun v => match v with
  | .m c => if c = a then .no else .m c
  | v => v, S.m.filter fun p => decide (p.1 ≠ a)⟩ → c ∈ Hd b S := fun c h => by
    rcases List.mem_append.mp h with q | q
    · exact List.mem_append.mpr (.inl q)
    · obtain ⟨p, hp, e⟩ := List.mem_map.mp q
      exact List.mem_append.mpr (.inr (List.mem_map.mpr ⟨p, (List.mem_filter.mp hp).1, e⟩))
  have x : Ex (hide (Hd b S) H) (hide (Hd b ⟨S.g.map fun v => match v with
  | .m c => if c = a then .no else .m c
  | v => v, S.m.filter fun p => decide (p.1 ≠ a)⟩) H) := fun c u e => by
    obtain ⟨h1, h2⟩ := hide_some e
    rw [hide_out fun q => h2 (asub c q)]
    exact h1
  refine ⟨⟨by rw [r.len]; simp, fun i y h => ?_, ⟨fun p hp => ?_, ?_, fun c hc => ?_, r.rm.ext, fun c hc => by
    obtain ⟨p, hp, e⟩ := List.mem_map.mp (r.rm.fxs c hc)
    exact List.mem_map.mpr ⟨p, List.mem_filter.mpr ⟨hp, decide_eq_true (by rw [e]; intro z; exact hf (z ▸ hc))⟩, e⟩⟩⟩, x⟩
  · rw [List.getElem?_map] at h
    cases hg : S.g[i]? with
    | none => rw [hg] at h; cases h
    | some w =>
      rw [hg] at h
      have h := Option.some.inj h
      rcases r.slot i w hg with q | ⟨v, q, k⟩
      · subst q
        exact .inl h.symm
      · cases w with
        | no => exact .inl h.symm
        | d w =>
          refine .inr ⟨v, q, ?_⟩
          rw [← h]
          exact Dp.ex x k
        | m c =>
          by_cases hc : c = a
          · left
            rw [← h]
            show (if c = a then DV.no else DV.m c) = DV.no
            rw [if_pos hc]
          · refine .inr ⟨v, q, ?_⟩
            rw [← h]
            show VOk _ _ _ _ (if c = a then _ else _)
            rw [if_neg hc]
            obtain ⟨k1, k2⟩ := k
            refine ⟨k1, ?_⟩
            rcases List.mem_append.mp k2 with q | q
            · exact List.mem_append.mpr (.inl q)
            · obtain ⟨p, hp, e⟩ := List.mem_map.mp q
              exact List.mem_append.mpr (.inr (List.mem_map.mpr ⟨p, List.mem_filter.mpr ⟨hp, decide_eq_true (by rw [e]; exact hc)⟩, e⟩))
  · have hp' := (List.mem_filter.mp hp).1
    have := r.rm.mem p hp'
    obtain ⟨c, mo⟩ := p
    cases mo with
    | lst ds => obtain ⟨vs, q1, q2⟩ := this; exact ⟨vs, q1, DpAll.ex x q2⟩
    | dct ds => obtain ⟨vs, q1, q2⟩ := this; exact ⟨vs, q1, KvAll.ex x q2⟩
    | tab q => exact this
  · exact List.Pairwise.sublist (List.Sublist.map _ List.filter_sublist) r.rm.nd
  · obtain ⟨p, hp, e⟩ := List.mem_map.mp hc
    exact r.rm.fr c (List.mem_map.mpr ⟨p, (List.mem_filter.mp hp).1, e⟩)
/-! ### comprehensions -/
/-- the slots of the comprehension's own names are empty -/
def gWipe (g : List DV) : List Nat → List DV
  | [] => g
  | v :: vs => (gWipe g vs).set v .no
theorem gWipe_len (g : List DV) : ∀ vs, (gWipe g vs).length = g.length
  | [] => rfl
  | v :: vs => by unfold gWipe; rw [List.length_set, gWipe_len g vs]
theorem rel_wipe {g : List DV} {m : List (Addr × MO)} {σ : List (Option V)} {H : Hp} : ∀ {vs : List Nat}, Rel b ⟨g, m⟩ σ H → Rel b ⟨gWipe g vs, m⟩ (wipe σ vs) H
  | [], r => r
  | v :: vs, r => by
    have ih := rel_wipe (vs := vs) r
    refine ⟨by rw [wipe_length, gWipe_len]; exact r.len, fun i y h => ?_, ⟨r.rm.mem, r.rm.nd, r.rm.fr, r.rm.ext, r.rm.fxs⟩⟩
    have h : ((gWipe g vs).set v .no)[i]? = some y := h
    by_cases e : v = i
    · subst e
      by_cases hl : v < (gWipe g vs).length
      · rw [List.getElem?_set_self hl] at h
        exact .inl (Option.some.inj h).symm
      · rw [List.getElem?_eq_none (by rw [List.length_set]; omega)] at h
        cases h
    · rw [List.getElem?_set_ne e] at h
      rcases ih.slot i y h with q | ⟨w, q, k⟩
      · exact .inl q
      · refine .inr ⟨w, ?_, k⟩
        show ((wipe σ vs).set v none)[i]? = _
        rw [List.getElem?_set_ne e]
        exact q
/-- the block's judgements: over all contexts of the comprehension -/
def EVb (X : Cx) (b : Bs) (scope : Scope) (e : Expr) (S : DS) (x : DV) (S' : DS) : Prop := ∀ (s : Shared) (H : Hp) (C : Addr) (cl : List (Str × Addr)) (fp : List Addr), EV (X.blk s H scope (compEnvC scope cl C X.env) fp) b e S x S'
def wEb (X : Cx) (scope : Scope) (e : Expr) : TE := fun σ H Q => ∀ (s : Shared) (H0 : Hp) (C : Addr) (cl : List (Str × Addr)) (fp : List Addr), wE (X.blk s H0 scope (compEnvC scope cl C X.env) fp) e σ H Q
theorem peWb (scope : Scope) (e : Expr) (s : Shared) (H : Hp) (C : Addr) (cl : List (Str × Addr)) (fp : List Addr) : PE (X.blk s H scope (compEnvC scope cl C X.env) fp) e (wEb X scope e) := ⟨fun pins s' σ H' Q I h => h s H C cl fp pins s' I⟩
def ETb (X : Cx) (b : Bs) (scope : Scope) (e : Expr) (S : DS) (c : Bool) (S' : DS) : Prop := ∀ (s : Shared) (H : Hp) (C : Addr) (cl : List (Str × Addr)) (fp : List Addr), ET (X.blk s H scope (compEnvC scope cl C X.env) fp) b e S c S'
def wTb (X : Cx) (scope : Scope) (e : Expr) : TT := fun σ H Q => ∀ (s : Shared) (H0 : Hp) (C : Addr) (cl : List (Str × Addr)) (fp : List Addr), wT (X.blk s H0 scope (compEnvC scope cl C X.env) fp) e σ H Q
theorem ptWb (scope : Scope) (e : Expr) (s : Shared) (H : Hp) (C : Addr) (cl : List (Str × Addr)) (fp : List Addr) : PT (X.blk s H scope (compEnvC scope cl C X.env) fp) e (wTb X scope e) := ⟨fun pins s' σ H' Q I h => h s H C cl fp pins s' I⟩
/-- what comes out of n turns -/
def outs (c : Nat → Bool) (y : Nat → PyData) : Nat → List PyData
  | 0 => []
  | n + 1 => if c n then outs c y n ++ [y n] else outs c y n
theorem outs_le (c : Nat → Bool) (y : Nat → PyData) : ∀ n, (outs c y n).length ≤ n
  | 0 => Nat.le_refl _
  | n + 1 => by
    have := outs_le c y n
    unfold outs
    split
    · rw [List.length_append]; simp; omega
    · omega
theorem outs_picked {ds : List PyData} {f : PyData → Bool} {g : PyData → PyData} {c : Nat → Bool} {y : Nat → PyData} (h : ∀ (i : Nat) d, ds[i]? = some d → c i = f d ∧ y i = g d) : outs c y ds.length = (ds.filter f).map g := by
  have key : ∀ n, n ≤ ds.length → outs c y n = ((ds.take n).filter f).map g := by
    intro n
    induction n with
    | zero => intro _; rfl
    | succ n ih =>
      intro hn
      have hd : ds[n]? = some ds[n] := List.getElem?_eq_getElem (by omega)
      obtain ⟨h1, h2⟩ := h n _ hd
      unfold outs
      rw [ih (by omega), List.take_succ, hd, h1, h2]
      by_cases q : f ds[n] = true
      · rw [if_pos q, List.filter_append, List.map_append]; simp [q]
      · rw [if_neg q, List.filter_append, List.map_append]; simp [q]
  rw [key _ (Nat.le_refl _), List.take_length]
/-- slots stand in a later heap -/
theorem rel_later {g : List DV} {m m' : List (Addr × MO)} {σ : List (Option V)} {H H' : Hp} (r : Rel b ⟨g, m⟩ σ H) (x : Ex (hide (Hd b ⟨g, m⟩) H) (hide (Hd b ⟨g, m'⟩) H')) (hs : ∀ a ∈ Hd b ⟨g, m⟩, a ∈ Hd b ⟨g, m'⟩) (rm : RelM b ⟨g, m'⟩ H') : Rel b ⟨g, m'⟩ σ H' := by
  refine ⟨r.len, fun i y h => ?_, rm⟩
  rcases r.slot i y h with q | ⟨v, q, k⟩
  · exact .inl q
  · exact .inr ⟨v, q, k.ex x hs⟩
theorem relM_g {g g' : List DV} {m : List (Addr × MO)} {H : Hp} (r : RelM b ⟨g, m⟩ H) : RelM b ⟨g', m⟩ H := ⟨r.mem, r.nd, r.fr, r.ext, r.fxs⟩
/-- a target in a comprehension -/
def TGb (b : Bs) (vs : List Nat) (d : PyData) (g0 g1 : List DV) (g : TG) : Prop := ∀ v σ H m, VOk b.K (Hd b ⟨g0, m⟩) H v (.d d) → Rel b ⟨g0, m⟩ σ H → ∀ Q : List (Option V) → Hp → Prop, (∀ σ', Rel b ⟨g1, m⟩ σ' H → wipe σ' vs = wipe σ vs → Q σ' H) → g v σ H Q
theorem wipe_set (σ : List (Option V)) (j : Nat) (x : Option V) : ∀ {vs : List Nat}, j ∈ vs → wipe (σ.set j x) vs = wipe σ vs
  | v :: vs, h => by
    by_cases e : v = j
    · subst e
      show (wipe (σ.set v x) vs).set v none = (wipe σ vs).set v none
      by_cases hv : v ∈ vs
      · rw [wipe_set σ v x hv]
      · have comm : ∀ (σ : List (Option V)) (us : List Nat), v ∉ us → wipe (σ.set v x) us = (wipe σ us).set v x := by
          intro σ us
          induction us with
          | nil => intro _; rfl
          | cons u us ih =>
            intro hu
            show (wipe (σ.set v x) us).set u none = ((wipe σ us).set u none).set v x
            rw [ih fun h => hu (List.mem_cons_of_mem _ h), List.set_comm _ _ (fun e => hu (by rw [e]; exact List.mem_cons_self ..))]
        rw [comm σ vs hv, List.set_set]
    · show (wipe (σ.set j x) vs).set v none = (wipe σ vs).set v none
      rcases List.mem_cons.mp h with q | q
      · exact (e q.symm).elim
      · rw [wipe_set σ j x q]
theorem tgb_name {vs : List Nat} {d : PyData} {g0 : List DV} {j : Nat} (hj : j ∈ vs) (hl : j < g0.length) : TGb b vs d g0 (g0.set j (.d d)) (gName j) := fun v σ H m k r Q q => q _ (r.put hl k) (wipe_set σ j _ hj)
/-- several, nested -/
inductive TGbs (b : Bs) (vs : List Nat) : List TG → List PyData → List DV → List DV → Prop
  | nil {g0 : List DV} : TGbs b vs [] [] g0 g0
  | cons {g : TG} {gs : List TG} {d : PyData} {ds : List PyData} {g0 g1 g2 : List DV} : TGb b vs d g0 g1 g → TGbs b vs gs ds g1 g2 → TGbs b vs (g :: gs) (d :: ds) g0 g2
theorem tgbs_run {vs : List Nat} {gs : List TG} {ds : List PyData} {g0 g1 : List DV} (h : TGbs b vs gs ds g0 g1) : ∀ {us : List V} {σ : List (Option V)} {H : Hp} {m : List (Addr × MO)}, DpAll b.K (hide (Hd b ⟨g0, m⟩) H) us ds → Rel b ⟨g0, m⟩ σ H → ∀ Q : List (Option V) → Hp → Prop, (∀ σ', Rel b ⟨g1, m⟩ σ' H → wipe σ' vs = wipe σ vs → Q σ' H) → gList gs us σ H Q := by
  induction h with
  | nil =>
    intro us σ H m hd r Q q
    cases hd
    exact ⟨rfl, q σ r rfl⟩
  | @cons g gs d ds g0 g1 g2 h1 _ ih =>
    intro us σ H m hd r Q q
    cases hd with
    | cons hv hvs => exact ⟨_, _, rfl, h1 _ σ H m hv r _ fun σ1 r1 e1 => ih hvs r1 Q fun σ2 r2 e2 => q σ2 r2 (e2.trans e1)⟩
theorem tgb_tup {K : PySem.W.Frag} {vs : List Nat} {n : Nat} {gs : List TG} {ds : List PyData} {g0 g1 : List DV} (hK : K = b.K) (hn : ds.length = n) (h : TGbs b vs gs ds g0 g1) : TGb b vs (.tuple ds) g0 g1 (gTup K n (gList gs)) := by
  intro v σ H m kv r Q q
  cases kv with
  | tup hs ha => exact ⟨_, _, rfl, by rw [hK]; exact ex_t hide_ex hs, by rw [DpAll.len ha]; exact hn, tgbs_run h ha r Q q⟩
theorem wipe_wipe (σ : List (Option V)) : ∀ vs us : List Nat, (∀ v ∈ us, v ∈ vs) → wipe (wipe σ us) vs = wipe σ vs
  | vs, [], _ => rfl
  | vs, u :: us, h => by
    show wipe ((wipe σ us).set u none) vs = wipe σ vs
    rw [wipe_set _ u none (h u (List.mem_cons_self ..)), wipe_wipe σ vs us fun v hv => h v (List.mem_cons_of_mem _ hv)]
/-- a turn's two parts over all the block's contexts -/
theorem lc_step {scope : Scope} {elt : Expr} {tt : TT} {g0 gt : List DV} {M M' : List (Addr × MO)} {Dl : Addr} {acc : List PyData} {c : Bool} {d : PyData} {σ2 : List (Option V)} {H : Hp} {Nx : Hp → Prop}
    (hM : M'.map (·.1) = M.map (·.1)) (r : Rel b ⟨gt, M ++ [(Dl, .lst acc)]⟩ σ2 H) (hz : acc.length < 1000)
    (ht : ∀ Q : Bool → Hp → Prop, (∀ H', Rel b ⟨gt, M ++ [(Dl, .lst acc)]⟩ σ2 H' → Ex (hide (Hd b ⟨gt, M ++ [(Dl, .lst acc)]⟩) H) (hide (Hd b ⟨gt, M ++ [(Dl, .lst acc)]⟩) H') → Q c H') → tt σ2 H Q)
    (he : c = true → EVb X b scope elt ⟨gt, M ++ [(Dl, .lst acc)]⟩ (.d d) ⟨gt, M' ++ [(Dl, .lst acc)]⟩) (hno : c = false → M' = M)
    (hN : ∀ H', RelM b ⟨g0, M' ++ [(Dl, .lst (if c then acc ++ [d] else acc))]⟩ H' → Ex (hide (Hd b ⟨gt, M ++ [(Dl, .lst acc)]⟩) H) (hide (Hd b ⟨g0, M' ++ [(Dl, .lst (if c then acc ++ [d] else acc))]⟩) H') → Nx H') :
    tt σ2 H fun k H3 => if k = true then wEb X scope elt σ2 H3 fun y H4 => ∃ acc, H4 Dl = some (.lst acc) ∧ acc.length < sizeLine ∧ Nx (upd H4 Dl (.lst (acc ++ [y]))) else Nx H3 := by
  refine ht _ fun H3 r3 x3 => ?_
  cases c with
  | false =>
    show Nx H3
    have e := hno rfl
    subst e
    refine hN H3 (relM_g r3.rm) ?_
    exact x3
  | true =>
    show wEb X scope elt σ2 H3 _
    intro s H0 C cl fp
    refine he rfl s H0 C cl fp σ2 H3 r3 _ fun v H4 k4 r4 x4 a4 => ?_
    have hin : (Dl, MO.lst acc) ∈ (⟨gt, M' ++ [(Dl, .lst acc)]⟩ : DS).m := List.mem_append.mpr (.inr (by simp))
    obtain ⟨us, e1, e2⟩ := r4.rm.mem _ hin
    refine ⟨us, e1, by rw [DpAll.len e2]; exact small1000 (by omega), ?_⟩
    have xx : Ex (hide (Hd b ⟨gt, M' ++ [(Dl, .lst acc)]⟩) H4) (hide (Hd b ⟨gt, M' ++ [(Dl, .lst acc)]⟩) (upd H4 Dl (.lst (us ++ [v])))) := fun q u e => by
      obtain ⟨q1, q2⟩ := hide_some e
      have hne : q ≠ Dl := fun z => q2 (List.mem_append.mpr (.inr (List.mem_map.mpr ⟨_, hin, z.symm⟩)))
      rw [hide_out q2, upd_ne hne]
      exact q1
    obtain ⟨r5, x5⟩ := r4.setm (o' := .lst (acc ++ [d])) (H' := upd H4 Dl (.lst (us ++ [v]))) hin (fun q u e ne => by rw [upd_ne ne]; exact e) ⟨_, upd_same, DpAll.ex xx (DpAll.append e2 (.cons k4 .nil))⟩
    have em : (DS.setm ⟨gt, M' ++ [(Dl, .lst acc)]⟩ Dl (.lst (acc ++ [d]))) = ⟨gt, M' ++ [(Dl, .lst (acc ++ [d]))]⟩ := by
      have nd : ((M' ++ [(Dl, MO.lst acc)]).map (·.1)).Nodup := r4.rm.nd
      rw [List.map_append] at nd
      have hn : Dl ∉ M'.map (·.1) := fun q => (List.nodup_append.mp nd).2.2 Dl q Dl (by simp) rfl
      unfold DS.setm setM
      rw [List.map_append]
      have e0 : M'.map (fun p => if p.1 = Dl then (Dl, MO.lst (acc ++ [d])) else p) = M' := by
        refine (List.map_congr_left (fun p hp => ?_)).trans (List.map_id _)
        show (if p.1 = Dl then (Dl, MO.lst (acc ++ [d])) else p) = p
        rw [if_neg fun e => hn (List.mem_map.mpr ⟨p, hp, e⟩)]
      simp [e0]
    rw [em] at r5 x5
    refine hN _ (relM_g r5.rm) ?_
    exact (x3.trans x4).trans x5
/-- [elt for tg in a tuple (if test)] -/
theorem lc_core2 {elt : Expr} {scope : Scope} {own : List (Str × Nat)} {g : TG} {tt : TT} {ds : List PyData} {gT : PyData → List DV} {Ms : Nat → List (Addr × MO)} {c : Nat → Bool} {y : Nat → PyData} {σ : List (Option V)} {H1 : Hp} {S1 : DS} {Q : VK}
    (hz : ds.length ≤ 1000) (r1 : Rel b S1 σ H1) (h0 : Ms 0 = S1.m) (hM : ∀ i, (Ms i).map (·.1) = S1.m.map (·.1))
    (hg : ∀ (i : Nat) d, ds[i]? = some d → TGb b (own.map (·.2)) d (gWipe S1.g (own.map (·.2))) (gT d) g)
    (ht : ∀ (i : Nat) d, ds[i]? = some d → ∀ Dl acc σ2 H, Rel b ⟨gT d, Ms i ++ [(Dl, .lst acc)]⟩ σ2 H → ∀ Q : Bool → Hp → Prop, (∀ H', Rel b ⟨gT d, Ms i ++ [(Dl, .lst acc)]⟩ σ2 H' → Ex (hide (Hd b ⟨gT d, Ms i ++ [(Dl, .lst acc)]⟩) H) (hide (Hd b ⟨gT d, Ms i ++ [(Dl, .lst acc)]⟩) H') → Q (c i) H') → tt σ2 H Q)
    (he : ∀ (i : Nat) d, ds[i]? = some d → c i = true → ∀ Dl acc, EVb X b scope elt ⟨gT d, Ms i ++ [(Dl, .lst acc)]⟩ (.d (y i)) ⟨gT d, Ms (i + 1) ++ [(Dl, .lst acc)]⟩) (hno : ∀ (i : Nat) d, ds[i]? = some d → c i = false → Ms (i + 1) = Ms i)
    (q : ∀ v H', VOk b.K (Hd b ⟨S1.g, Ms ds.length⟩) H' v (.d (.list (outs c y ds.length))) → Rel b ⟨S1.g, Ms ds.length⟩ σ H' → Ex (hide (Hd b S1) H1) (hide (Hd b ⟨S1.g, Ms ds.length⟩) H') → Q v H')
    (D : Addr) (hD : H1 D = none) : (∃ Pv : Nat → Hp → Prop, Pv 0 (upd H1 D (.lst [])) ∧ (∀ i H, Pv i H → Ex (hide (Hd b S1) H1) (hide (Hd b S1 ++ [D]) H)) ∧ (∀ i H H', Pv i H → Ex H H' → Pv i H') ∧ (∀ i H, Pv i H → ∀ q ∈ Hd b S1 ++ [D], H q ≠ none) ∧ (∀ (i : Nat) (d : PyData) (x : V) (H : Hp), ds[i]? = some d → Dp b.K (hide (Hd b S1 ++ [D]) H) x d → Pv i H →
      g x (wipe σ (own.map (·.2))) H fun σ2 H2 => wipe σ2 (own.map (·.2)) = wipe σ (own.map (·.2)) ∧ tt σ2 H2 fun k H3 => if k = true then wEb X scope elt σ2 H3 fun y H4 => ∃ acc, H4 D = some (.lst acc) ∧ acc.length < sizeLine ∧ Pv (i + 1) (upd H4 D (.lst (acc ++ [y]))) else Pv (i + 1) H3) ∧ (∀ H, Pv ds.length H → Q (.ref D) H)) := by
  have nD : D ∉ Hd b S1 := r1.rm.fresh hD
  have hdM : ∀ (i : Nat) (gg : List DV) (o : MO) q, q ∈ Hd b ⟨gg, Ms i ++ [(D, o)]⟩ ↔ (q ∈ Hd b S1 ∨ q = D) := fun i gg o q => by
    unfold Hd DS.as
    simp only [List.map_append, hM i, List.mem_append, List.map_cons, List.map_nil, List.mem_singleton]
    constructor
    · rintro (h | h | h)
      · exact .inl (.inl h)
      · exact .inl (.inr h)
      · exact .inr h
    · rintro ((h | h) | h)
      · exact .inl h
      · exact .inr (.inl h)
      · exact .inr (.inr h)
  have hideE : ∀ (i : Nat) (gg : List DV) (o : MO) (H : Hp), hide (Hd b ⟨gg, Ms i ++ [(D, o)]⟩) H = hide (Hd b S1 ++ [D]) H := fun i gg o H => funext fun q => by
    by_cases hq : q ∈ Hd b S1 ++ [D]
    · rw [hide_in hq, hide_in ((hdM i gg o q).mpr (by simpa using hq))]
    · rw [hide_out hq, hide_out fun h => hq (by simpa using (hdM i gg o q).mp h)]
  have rw0 : Rel b ⟨gWipe S1.g (own.map (·.2)), S1.m⟩ (wipe σ (own.map (·.2))) H1 := rel_wipe (g := S1.g) (m := S1.m) r1
  have hh0 : ∀ gg : List DV, Hd b ⟨gg, S1.m⟩ = Hd b S1 := fun _ => rfl
  refine ⟨fun i H => RelM b ⟨S1.g, Ms i ++ [(D, .lst (outs c y i))]⟩ H ∧ Ex (hide (Hd b S1) H1) (hide (Hd b ⟨S1.g, Ms i ++ [(D, .lst (outs c y i))]⟩) H), ⟨?_, ?_⟩, fun i H h => by rw [← hideE i S1.g (.lst (outs c y i)) H]; exact h.2, fun i H H' h e => ⟨(h.1.grow e).1, h.2.trans (h.1.grow e).2⟩, fun i H h q hq => h.1.tracked q ((hdM i S1.g _ q).mpr (by simpa using hq)), fun i d x H hd1 hd2 h => ?_, fun H h => ?_⟩
  · rw [h0]
    have := (r1.addM (a := D) (o := .lst []) (H' := upd H1 D (.lst [])) hD (Ex.new hD) ⟨[], upd_same, .nil⟩).1.rm
    exact this
  · rw [h0]
    exact (r1.addM (a := D) (o := .lst []) (H' := upd H1 D (.lst [])) hD (Ex.new hD) ⟨[], upd_same, .nil⟩).2
  · obtain ⟨rm, x1⟩ := h
    have hi : i < ds.length := (List.getElem?_eq_some_iff.mp hd1).1
    have rw1 : Rel b ⟨gWipe S1.g (own.map (·.2)), Ms i ++ [(D, .lst (outs c y i))]⟩ (wipe σ (own.map (·.2))) H :=
      rel_later rw0 x1 (fun q hq => (hdM _ _ _ q).mpr (.inl hq)) (relM_g rm)
    refine hg i d hd1 x _ H _ (by show Dp _ _ _ _; rw [hideE]; exact hd2) rw1 _ fun σ2 r2 e2 => ?_
    refine ⟨by rw [e2]; exact wipe_wipe σ _ _ fun _ h => h, ?_⟩
    refine lc_step (g0 := S1.g) (M := Ms i) (M' := Ms (i + 1)) (acc := outs c y i) (c := c i) (d := y i) (by rw [hM, hM]) r2 (by have := outs_le c y i; omega) (fun Q hQ => ht i d hd1 D _ σ2 H r2 Q hQ) (fun hc => he i d hd1 hc D _) (hno i d hd1) fun H' rm' x' => ?_
    have eo : outs c y (i + 1) = if c i then outs c y i ++ [y i] else outs c y i := rfl
    rw [← eo] at rm' x'
    refine ⟨rm', x1.trans ?_⟩
    exact x'
  · obtain ⟨rm, x1⟩ := h
    have r3 : Rel b ⟨S1.g, Ms ds.length ++ [(D, .lst (outs c y ds.length))]⟩ σ H := rel_later (m := S1.m) r1 x1 (fun q hq => (hdM _ _ _ q).mpr (.inl hq)) rm
    have hfx : D ∉ b.fx := fun h => nD (List.mem_append.mpr (.inr (r1.rm.fxs D h)))
    have hin : (D, MO.lst (outs c y ds.length)) ∈ (⟨S1.g, Ms ds.length ++ [(D, .lst (outs c y ds.length))]⟩ : DS).m := List.mem_append.mpr (.inr (by simp))
    obtain ⟨r4, x4⟩ := r3.frzL hin hfx
    have em : (Ms ds.length ++ [(D, MO.lst (outs c y ds.length))]).filter (fun p => decide (p.1 ≠ D)) = Ms ds.length := by
      have nd : ((Ms ds.length ++ [(D, MO.lst (outs c y ds.length))]).map (·.1)).Nodup := r3.rm.nd
      rw [List.map_append] at nd
      have hn : D ∉ (Ms ds.length).map (·.1) := fun q => (List.nodup_append.mp nd).2.2 D q D (by simp) rfl
      rw [List.filter_append]
      have e1 : (Ms ds.length).filter (fun p => decide (p.1 ≠ D)) = Ms ds.length := List.filter_eq_self.mpr fun p hp => decide_eq_true fun e => hn (List.mem_map.mpr ⟨p, hp, e⟩)
      rw [e1]
      simp
    have hd4 : ∀ gg : List DV, Hd b ⟨gg, (Ms ds.length ++ [(D, MO.lst (outs c y ds.length))]).filter (fun p => decide (p.1 ≠ D))⟩ = Hd b ⟨S1.g, Ms ds.length⟩ := fun gg => by rw [em]; rfl
    have x5 : Ex (hide (Hd b S1) H1) (hide (Hd b ⟨S1.g, Ms ds.length⟩) H) := by
      rw [← hd4 (DS.frz ⟨S1.g, Ms ds.length ++ [(D, .lst (outs c y ds.length))]⟩ D (.list (outs c y ds.length))).g]
      exact x1.trans x4
    have hd5 : Hd b ⟨S1.g, Ms ds.length⟩ = Hd b S1 := by unfold Hd DS.as; rw [hM]
    have rm5 : RelM b ⟨S1.g, Ms ds.length⟩ H := by
      have := r4.rm
      unfold DS.frz at this
      rw [em] at this
      exact relM_g this
    refine q _ H ?_ (rel_later (m := S1.m) r1 x5 (fun q hq => by rw [hd5]; exact hq) rm5) x5
    obtain ⟨us, e1, e2⟩ := r3.rm.mem _ hin
    have nD5 : D ∉ Hd b ⟨S1.g, Ms ds.length⟩ := by rw [hd5]; exact nD
    refine .lst (.inl (.inl (by rw [hide_out nD5]; exact e1))) (DpAll.ex (fun q u e => ?_) e2)
    obtain ⟨q1, q2⟩ := hide_some e
    rw [hide_out fun z => q2 ((hdM _ _ _ q).mpr (.inl (by rw [hd5] at z; exact z)))]
    exact q1
/-- a test, or none, over all the block's contexts -/
def TTok (b : Bs) (tt : TT) (S : DS) (c : Bool) : Prop := ∀ σ H, Rel b S σ H → ∀ Q : Bool → Hp → Prop, (∀ H', Rel b S σ H' → Ex (hide (Hd b S) H) (hide (Hd b S) H') → Q c H') → tt σ H Q
theorem ttok_yes : TTok b tYes S true := fun σ H r Q q => q H r (Ex.refl _)
theorem ttok_one {scope : Scope} {t : Expr} {c : Bool} (h : ETb X b scope t S c S) : TTok b (wTb X scope t) S c := fun σ H r Q q => fun s H0 C cl fp => h s H0 C cl fp σ H r Q fun H' r' x _ => q H' r' x
theorem ev_lcT {elt tg iter : Expr} {ifs : List Expr} {scope : Scope} {own : List (Str × Nat)} {g : TG} {tt : TT} {ds : List PyData} {gT : PyData → List DV} {Ms : Nat → List (Addr × MO)} {c : Nat → Bool} {y : Nat → PyData}
    (hK : X.K = b.K) (hc : X.calm = true) (hN : X.N.Nodup) (hi : EV X b iter S (.d (.tuple ds)) S1) (hz : ds.length ≤ 1000) (hB : BlkOk X.N X.env.scope scope own) (h0 : Ms 0 = S1.m) (hM : ∀ i, (Ms i).map (·.1) = S1.m.map (·.1))
    (hpg : ∀ (s : Shared) (H : Hp) (C : Addr) (cl : List (Str × Addr)) (fp : List Addr), PG (X.blk s H scope (compEnvC scope cl C X.env) fp) tg g)
    (hpt : ∀ (s : Shared) (H : Hp) (C : Addr) (cl : List (Str × Addr)) (fp : List Addr), PTs (X.blk s H scope (compEnvC scope cl C X.env) fp) ifs tt)
    (hg : ∀ (i : Nat) d, ds[i]? = some d → TGb b (own.map (·.2)) d (gWipe S1.g (own.map (·.2))) (gT d) g)
    (ht : ∀ (i : Nat) d, ds[i]? = some d → ∀ Dl acc, TTok b tt ⟨gT d, Ms i ++ [(Dl, .lst acc)]⟩ (c i))
    (he : ∀ (i : Nat) d, ds[i]? = some d → c i = true → ∀ Dl acc, EVb X b scope elt ⟨gT d, Ms i ++ [(Dl, .lst acc)]⟩ (.d (y i)) ⟨gT d, Ms (i + 1) ++ [(Dl, .lst acc)]⟩) (hno : ∀ (i : Nat) d, ds[i]? = some d → c i = false → Ms (i + 1) = Ms i)
    (hf : ∀ x : Value, foldedSetIterable iter X.env x = pure x := by intro _; rfl)
    {z : PyData} (ez : z = .list (outs c y ds.length)) (eS : S' = ⟨S1.g, Ms ds.length⟩) : EV X b (.ListComp elt [⟨tg, iter, ifs, 0⟩] scope pos) S (.d z) S' := by
  subst ez
  subst eS
  intro σ H r Q q
  refine wE_of (pe_lc hc hN (pi_tup (peW _)) hB hpg hpt (peWb scope elt) hf) (hi σ H r _ fun v H1 k1 r1 x1 a1 => ?_)
  cases k1 with
  | tup hs ha =>
    rename_i a xs
    refine ⟨a, rfl, ⟨xs, by rw [hK]; exact ex_t hide_ex hs⟩, fun D hD => ?_⟩
    obtain ⟨Pv, p0, pe, pg, pt, ps, pd⟩ := lc_core2 (own := own) (Q := Q) (X := X) (elt := elt) (scope := scope) (tt := tt) hz r1 h0 hM hg (fun i d hd Dl acc σ2 H r Q q => ht i d hd Dl acc σ2 H r Q q) he hno (fun v H' k' r' x' => q v H' k' r' (x1.trans x') fun c hc => by
      have : Hd b ⟨S1.g, Ms ds.length⟩ = Hd b S1 := by unfold Hd DS.as; rw [hM]
      rw [this]; exact a1 c hc) D hD
    exact lc_tup (K := X.K) Pv p0 (fun i H _ h => by rw [hK]; exact ex_t hide_ex (ex_t (pe i H h) hs)) (fun i x H hx h => by obtain ⟨d, h1, h2⟩ := dpAll_getV ha hx; exact ps i d x H h1 (Dp.ex (pe i H h) h2) h) (by rw [DpAll.len ha]; exact pd)
theorem ev_lcL {elt tg iter : Expr} {ifs : List Expr} {scope : Scope} {own : List (Str × Nat)} {g : TG} {tt : TT} {ds : List PyData} {gT : PyData → List DV} {Ms : Nat → List (Addr × MO)} {c : Nat → Bool} {y : Nat → PyData}
    (hK : X.K = b.K) (hc : X.calm = true) (hN : X.N.Nodup) (hi : EV X b iter S (.d (.list ds)) S1) (hz : ds.length ≤ 1000) (hB : BlkOk X.N X.env.scope scope own) (h0 : Ms 0 = S1.m) (hM : ∀ i, (Ms i).map (·.1) = S1.m.map (·.1))
    (hpg : ∀ (s : Shared) (H : Hp) (C : Addr) (cl : List (Str × Addr)) (fp : List Addr), PG (X.blk s H scope (compEnvC scope cl C X.env) fp) tg g)
    (hpt : ∀ (s : Shared) (H : Hp) (C : Addr) (cl : List (Str × Addr)) (fp : List Addr), PTs (X.blk s H scope (compEnvC scope cl C X.env) fp) ifs tt)
    (hg : ∀ (i : Nat) d, ds[i]? = some d → TGb b (own.map (·.2)) d (gWipe S1.g (own.map (·.2))) (gT d) g)
    (ht : ∀ (i : Nat) d, ds[i]? = some d → ∀ Dl acc, TTok b tt ⟨gT d, Ms i ++ [(Dl, .lst acc)]⟩ (c i))
    (he : ∀ (i : Nat) d, ds[i]? = some d → c i = true → ∀ Dl acc, EVb X b scope elt ⟨gT d, Ms i ++ [(Dl, .lst acc)]⟩ (.d (y i)) ⟨gT d, Ms (i + 1) ++ [(Dl, .lst acc)]⟩) (hno : ∀ (i : Nat) d, ds[i]? = some d → c i = false → Ms (i + 1) = Ms i)
    (hf : ∀ x : Value, foldedSetIterable iter X.env x = pure x := by intro _; rfl)
    {z : PyData} (ez : z = .list (outs c y ds.length)) (eS : S' = ⟨S1.g, Ms ds.length⟩) : EV X b (.ListComp elt [⟨tg, iter, ifs, 0⟩] scope pos) S (.d z) S' := by
  subst ez
  subst eS
  intro σ H r Q q
  refine wE_of (pe_lc hc hN (pi_list (peW _)) hB hpg hpt (peWb scope elt) hf) (hi σ H r _ fun v H1 k1 r1 x1 a1 => ?_)
  cases k1 with
  | lst hs ha =>
    rename_i a xs
    refine ⟨a, rfl, ⟨xs, by rw [hK]; exact ex_l hide_ex hs⟩, fun D hD => ?_⟩
    obtain ⟨Pv, p0, pe, pg, pt, ps, pd⟩ := lc_core2 (own := own) (Q := Q) (X := X) (elt := elt) (scope := scope) (tt := tt) hz r1 h0 hM hg (fun i d hd Dl acc σ2 H r Q q => ht i d hd Dl acc σ2 H r Q q) he hno (fun v H' k' r' x' => q v H' k' r' (x1.trans x') fun c hc => by
      have : Hd b ⟨S1.g, Ms ds.length⟩ = Hd b S1 := by unfold Hd DS.as; rw [hM]
      rw [this]; exact a1 c hc) D hD
    exact lc_list (K := X.K) Pv p0 (fun i H _ h => by rw [hK]; exact ex_l hide_ex (ex_l (pe i H h) hs)) (fun i x H hx h => by obtain ⟨d, h1, h2⟩ := dpAll_getV ha hx; exact ps i d x H h1 (Dp.ex (pe i H h) h2) h) (by rw [DpAll.len ha]; exact pd)
/-- the ints from lo on -/
def intsFrom (lo : Int) (n : Nat) : List Int := (List.range n).map fun (i : Nat) => lo + (i : Int)
theorem intsFrom_len (lo : Int) (n : Nat) : (intsFrom lo n).length = n := by unfold intsFrom; simp
theorem intsFrom_get {lo : Int} {n i : Nat} (h : i < n) : (intsFrom lo n)[i]? = some (lo + (i : Int)) := by unfold intsFrom; simp [h]
theorem ev_lcR2 {elt tg e1 e2 : Expr} {p1 p2 : Pos} {ifs : List Expr} {scope : Scope} {own : List (Str × Nat)} {g : TG} {tt : TT} {lo hi' : Int} {gT : PyData → List DV} {Ms : Nat → List (Addr × MO)} {c : Nat → Bool} {y : Nat → PyData}
    (hK : X.K = b.K) (hc : X.calm = true) (hN : X.N.Nodup) (hgr : Gl X "range") (hmr : X.mg "range" = none) (h1 : EV X b e1 S (.d (.int lo)) S2) (h2 : EV X b e2 S2 (.d (.int hi')) S1) (hb : -(2 ^ 62) ≤ lo ∧ lo < 2 ^ 62 ∧ -(2 ^ 62) ≤ hi' ∧ hi' < 2 ^ 62) (hz : (hi' - lo).toNat ≤ 1000) (hB : BlkOk X.N X.env.scope scope own) (h0 : Ms 0 = S1.m) (hM : ∀ i, (Ms i).map (·.1) = S1.m.map (·.1))
    (hpg : ∀ (s : Shared) (H : Hp) (C : Addr) (cl : List (Str × Addr)) (fp : List Addr), PG (X.blk s H scope (compEnvC scope cl C X.env) fp) tg g)
    (hpt : ∀ (s : Shared) (H : Hp) (C : Addr) (cl : List (Str × Addr)) (fp : List Addr), PTs (X.blk s H scope (compEnvC scope cl C X.env) fp) ifs tt)
    (hg : ∀ i : Nat, i < (hi' - lo).toNat → TGb b (own.map (·.2)) (.int (lo + (i : Int))) (gWipe S1.g (own.map (·.2))) (gT (.int (lo + (i : Int)))) g)
    (ht : ∀ i : Nat, i < (hi' - lo).toNat → ∀ Dl acc, TTok b tt ⟨gT (.int (lo + (i : Int))), Ms i ++ [(Dl, .lst acc)]⟩ (c i))
    (he : ∀ i : Nat, i < (hi' - lo).toNat → c i = true → ∀ Dl acc, EVb X b scope elt ⟨gT (.int (lo + (i : Int))), Ms i ++ [(Dl, .lst acc)]⟩ (.d (y i)) ⟨gT (.int (lo + (i : Int))), Ms (i + 1) ++ [(Dl, .lst acc)]⟩) (hno : ∀ i : Nat, i < (hi' - lo).toNat → c i = false → Ms (i + 1) = Ms i)
    (hs1 : starEach [e1, e2] X.env = [(false, eval e1 X.env), (false, eval e2 X.env)] := by rfl) (hs2 : starEach [e2] X.env = [(false, eval e2 X.env)] := by rfl)
    (hf : ∀ x : Value, foldedSetIterable (.Call (.Name "range" p1) [e1, e2] [] p2) X.env x = pure x := by intro _; rfl)
    {z : PyData} (ez : z = .list (outs c y (hi' - lo).toNat)) (eS : S' = ⟨S1.g, Ms (hi' - lo).toNat⟩) : EV X b (.ListComp elt [⟨tg, .Call (.Name "range" p1) [e1, e2] [] p2, ifs, 0⟩] scope pos) S (.d z) S' := by
  subst ez
  subst eS
  intro σ H r Q q
  refine wE_of (pe_lc hc hN (pi_range2 hgr hmr (pa_cons (peW e1) (pa_cons (peW e2) pa_nil hs2) (by rw [hs1, hs2])) hs1 hs2) hB hpg hpt (peWb scope elt) hf) (h1 σ H r _ fun v H0 k0 r0 x0 a0 => ?_)
  refine h2 σ H0 r0 _ fun v' H1 k1 r1 x1 a1 => ?_
  have k0' := k0.ex x1 a1
  cases k0'
  cases k1
  refine ⟨lo, hi', rfl, hb, fun D hD => ?_⟩
  have hlen : ((intsFrom lo (hi' - lo).toNat).map PyData.int).length = (hi' - lo).toNat := by rw [List.length_map, intsFrom_len]
  have get : ∀ {i : Nat} {d : PyData}, ((intsFrom lo (hi' - lo).toNat).map PyData.int)[i]? = some d → i < (hi' - lo).toNat ∧ d = .int (lo + (i : Int)) := fun {i d} e => by
    have hi : i < (hi' - lo).toNat := by
      have := (List.getElem?_eq_some_iff.mp e).1
      rwa [hlen] at this
    rw [List.getElem?_map, intsFrom_get hi] at e
    exact ⟨hi, (Option.some.inj e).symm⟩
  obtain ⟨Pv, p0, pe, pg, pt, ps, pd⟩ := lc_core2 (own := own) (Q := Q) (X := X) (elt := elt) (scope := scope) (tt := tt) (c := c) (y := y) (ds := (intsFrom lo (hi' - lo).toNat).map PyData.int) (by rw [hlen]; exact hz) r1 h0 hM
    (fun i d e => by obtain ⟨h, rfl⟩ := get e; exact hg i h) (fun i d e Dl acc σ2 H r Q q => by obtain ⟨h, rfl⟩ := get e; exact ht i h Dl acc σ2 H r Q q) (fun i d e => by obtain ⟨h, rfl⟩ := get e; exact he i h) (fun i d e => by obtain ⟨h, rfl⟩ := get e; exact hno i h)
    (fun v H' k' r' x' => by
      rw [hlen] at k' r' x'
      exact q v H' k' r' ((x0.trans x1).trans x') fun c hc => by
        have : Hd b ⟨S1.g, Ms (hi' - lo).toNat⟩ = Hd b S1 := by unfold Hd DS.as; rw [hM]
        rw [this]; exact a1 c (a0 c hc)) D hD
  refine lc_range (lo := lo) (n := (hi' - lo).toNat) Pv p0 (fun i H hi h => ps i (.int (lo + (i : Int))) _ H ?_ (.int _) h) (fun H h => pd H ?_)
  · rw [List.getElem?_map, intsFrom_get hi]
    rfl
  · rw [List.length_map, intsFrom_len]
    exact h
/-- over zip(xs, ys) of two lists -/
theorem ev_lcZ {elt e1 e2 : Expr} {elts : List Expr} {kk : Nat} {tpos p1 p2 : Pos} {ifs : List Expr} {scope : Scope} {own : List (Str × Nat)} {g : TG} {tt : TT} {ds es : List PyData} {gT : PyData → List DV} {Ms : Nat → List (Addr × MO)} {c : Nat → Bool} {y : Nat → PyData}
    (hK : X.K = b.K) (hc : X.calm = true) (hN : X.N.Nodup) (hgr : Gl X "zip") (hmr : X.mg "zip" = none) (h1 : EV X b e1 S (.d (.list ds)) S2) (h2 : EV X b e2 S2 (.d (.list es)) S1) (hz : (ds.zip es).length ≤ 1000) (hB : BlkOk X.N X.env.scope scope own) (h0 : Ms 0 = S1.m) (hM : ∀ i, (Ms i).map (·.1) = S1.m.map (·.1))
    (hpg : ∀ (s : Shared) (H : Hp) (C : Addr) (cl : List (Str × Addr)) (fp : List Addr), PG (X.blk s H scope (compEnvC scope cl C X.env) fp) (.Tuple elts kk tpos) g)
    (hpt : ∀ (s : Shared) (H : Hp) (C : Addr) (cl : List (Str × Addr)) (fp : List Addr), PTs (X.blk s H scope (compEnvC scope cl C X.env) fp) ifs tt)
    (hg : ∀ (i : Nat) d e, (ds.zip es)[i]? = some (d, e) → TGb b (own.map (·.2)) (.tuple [d, e]) (gWipe S1.g (own.map (·.2))) (gT (.tuple [d, e])) g)
    (ht : ∀ (i : Nat) d e, (ds.zip es)[i]? = some (d, e) → ∀ Dl acc, TTok b tt ⟨gT (.tuple [d, e]), Ms i ++ [(Dl, .lst acc)]⟩ (c i))
    (he : ∀ (i : Nat) d e, (ds.zip es)[i]? = some (d, e) → c i = true → ∀ Dl acc, EVb X b scope elt ⟨gT (.tuple [d, e]), Ms i ++ [(Dl, .lst acc)]⟩ (.d (y i)) ⟨gT (.tuple [d, e]), Ms (i + 1) ++ [(Dl, .lst acc)]⟩) (hno : ∀ (i : Nat) d e, (ds.zip es)[i]? = some (d, e) → c i = false → Ms (i + 1) = Ms i)
    (hs1 : starEach [e1, e2] X.env = (false, eval e1 X.env) :: starEach [e2] X.env := by rfl) (hs2 : starEach [e2] X.env = (false, eval e2 X.env) :: starEach [] X.env := by rfl) (hpl : (backTo p2 (starEach [e2] X.env)).any (·.1) = false := by rfl)
    (hf : ∀ x : Value, foldedSetIterable (.Call (.Name "zip" p1) [e1, e2] [] p2) X.env x = pure x := by intro _; rfl)
    {z : PyData} (ez : z = .list (outs c y (ds.zip es).length)) (eS : S' = ⟨S1.g, Ms (ds.zip es).length⟩) : EV X b (.ListComp elt [⟨.Tuple elts kk tpos, .Call (.Name "zip" p1) [e1, e2] [] p2, ifs, 0⟩] scope pos) S (.d z) S' := by
  subst ez
  subst eS
  intro σ H r Q q
  refine wE_of (pe_lc hc hN (pi_zip hgr hmr (pa_cons (peW e1) (pa_cons (peW e2) pa_nil hs2) hs1) hs1 hpl) hB hpg hpt (peWb scope elt) hf) (h1 σ H r _ fun v H0 k0 r0 x0 a0 => ?_)
  refine h2 σ H0 r0 _ fun v' H1 k1 r1 x1 a1 => ?_
  have k0' := k0.ex x1 a1
  cases k0' with
  | lst hs1' ha1 =>
    rename_i pa xs
    cases k1 with
    | lst hs2' ha2 =>
      rename_i pb ys
      refine ⟨pa, pb, xs, ys, rfl, by rw [hK]; exact ex_l hide_ex hs1', by rw [hK]; exact ex_l hide_ex hs2', fun D hD => ?_⟩
      have hlen : ((ds.zip es).map fun p => PyData.tuple [p.1, p.2]).length = (ds.zip es).length := List.length_map _
      have get : ∀ {i : Nat} {t : PyData}, ((ds.zip es).map fun p => PyData.tuple [p.1, p.2])[i]? = some t → ∃ d e, (ds.zip es)[i]? = some (d, e) ∧ t = .tuple [d, e] := fun {i t} e => by
        rw [List.getElem?_map] at e
        cases hq : (ds.zip es)[i]? with
        | none => rw [hq] at e; cases e
        | some p => rw [hq] at e; exact ⟨p.1, p.2, rfl, (Option.some.inj e).symm⟩
      obtain ⟨Pv, p0, pe, pg, pt, ps, pd⟩ := lc_core2 (own := own) (Q := Q) (X := X) (elt := elt) (scope := scope) (tt := tt) (c := c) (y := y) (ds := (ds.zip es).map fun p => PyData.tuple [p.1, p.2]) (by rw [hlen]; exact hz) r1 h0 hM
        (fun i d e => by obtain ⟨u, w, h, rfl⟩ := get e; exact hg i u w h) (fun i d e Dl acc σ2 H r Q q => by obtain ⟨u, w, h, rfl⟩ := get e; exact ht i u w h Dl acc σ2 H r Q q) (fun i d e => by obtain ⟨u, w, h, rfl⟩ := get e; exact he i u w h) (fun i d e => by obtain ⟨u, w, h, rfl⟩ := get e; exact hno i u w h)
        (fun v H' k' r' x' => by
          rw [hlen] at k' r' x'
          exact q v H' k' r' ((x0.trans x1).trans x') fun c hc => by
            have : Hd b ⟨S1.g, Ms (ds.zip es).length⟩ = Hd b S1 := by unfold Hd DS.as; rw [hM]
            rw [this]; exact a1 c (a0 c hc)) D hD
      rw [hlen] at pd
      refine ⟨fun i m H => i + m = (ds.zip es).length ∧ Pv i H, ⟨(ds.zip es).length, by omega, p0⟩, fun i m H ⟨em, hp⟩ => ?_⟩
      have q1 : SqL X.K H pa xs := by rw [hK]; exact ex_l hide_ex (ex_l (pe i H hp) hs1')
      have q2 : SqL X.K H pb ys := by rw [hK]; exact ex_l hide_ex (ex_l (pe i H hp) hs2')
      have l1 := DpAll.len ha1
      have l2 := DpAll.len ha2
      have lz : (ds.zip es).length = min ds.length es.length := List.length_zip
      by_cases hi : i < (ds.zip es).length
      · have i1 : i < xs.length := by omega
        have i2 : i < ys.length := by omega
        have g1 : xs[i]? = some xs[i] := List.getElem?_eq_getElem i1
        have g2 : ys[i]? = some ys[i] := List.getElem?_eq_getElem i2
        obtain ⟨d, d1, d2⟩ := dpAll_getV ha1 g1
        obtain ⟨e, e1', e2'⟩ := dpAll_getV ha2 g2
        refine .inr ⟨⟨xs, ys, _, _, q1, q2, g1, g2⟩, fun H' => Pv (i + 1) H', fun H' h' => ⟨m - 1, by omega, by omega, h'⟩, fun x H' hy => ?_⟩
        obtain ⟨T, x1', x2', rfl, nT, rfl, f1, f2⟩ := hy
        have ex1 : x1' = xs[i] := Option.some.inj ((f1 _ q1).symm.trans g1)
        have ex2 : x2' = ys[i] := Option.some.inj ((f2 _ q2).symm.trans g2)
        subst ex1 ex2
        have gr : Ex H (upd H T (.tup [xs[i], ys[i]])) := Ex.new nT
        have hp' := pg i H _ hp gr
        have tz : (ds.zip es)[i]? = some (d, e) := by
          rw [List.getElem?_zip_eq_some]
          exact ⟨d1, e1'⟩
        have xh : Ex (hide (Hd b S1 ++ [D]) H) (hide (Hd b S1 ++ [D]) (upd H T (.tup [xs[i], ys[i]]))) := fun q u hq => by
          obtain ⟨z1, z2⟩ := hide_some hq
          rw [hide_out z2]
          exact gr q u z1
        have nTh : T ∉ Hd b S1 ++ [D] := fun hq => pt i H hp T hq nT
        refine ps i (.tuple [d, e]) (.ref T) _ (by rw [List.getElem?_map, tz]; rfl) (.tup (.inl (.inl (hide_new nTh))) (.cons (Dp.ex ((pe i H hp).trans xh) d2) (.cons (Dp.ex ((pe i H hp).trans xh) e2') .nil))) hp'
      · have : i = (ds.zip es).length := by omega
        subst this
        refine .inl ⟨⟨xs, ys, q1, q2, by omega⟩, pd H hp⟩
end
end DX
end
section
set_option Elab.async false
set_option linter.all false
set_option maxRecDepth 100000
set_option maxHeartbeats 4000000
namespace DX
open PySem PySem.Spec PyProof.Rows L2
set_option autoImplicit false
/-- a def of the module: where it stands -/
structure Def1 (K : PySem.W.Frag) (mg : Str → Option Value) (x : Str) (st : Stmt) (ps : List Str) where
  fa : Addr
  fd : FuncData
  F : Fun K x x st fa fd
  m : mg x = some (.ref fa)
  b : L2.Binds K fd ps []
theorem li {n m : Nat} (h : decide (n < m) = true := by rfl) : n < m := of_decide_eq_true h
theorem lq {n m : Nat} (h : decide (n ≤ m) = true := by rfl) : n ≤ m := of_decide_eq_true h
section
variable {X : Cx} {b : Bs} {S S1 S2 S3 S' : DS} {x y z : DV} {pos : Pos} {D : DE} {rest : List Stmt}
theorem vn (i : Nat) {nm : Str} {x : DV} (hN : X.N[i]? = some nm := by rfl) (hv : Vis X.env.scope nm := by first | exact Or.inl rfl | exact Or.inr (Or.inl rfl) | exact Or.inr (Or.inr rfl)) (h : S.g[i]? = some x := by rfl) (hx : x ≠ .no := by exact fun h => nomatch h) (hd : (nm == ("__debug__" : Str)) = false := by decide) (hcd : (nm == ("__classdict__" : Str)) = false := by decide) : EV X b (.Name nm pos) S x S := ev_name hN hv h hx hd hcd
/-- the end of a def of data -/
theorem sy_retF {e : Expr} {d0 : PyData} {N B C : DS → Prop} (h : EV X b e S (.d d0) S1) : SY X b (.Return (some e) pos) S ⟨N, fun x S' => x = .d d0, B, C⟩ := sy_ret h rfl
/-- .. that may raise -/
theorem sy_retX {e : Expr} {d0 : PyData} {N B C : DS → Prop} (h : EV X b e S (.d d0) S1) : SY X b (.Return (some e) pos) S ⟨N, fun x S' => ∃ d, Res.val d0 = .val d ∧ x = .d d, B, C⟩ := sy_ret h ⟨d0, rfl, rfl⟩
/-- .. that changes a list -/
theorem sy_retM {e : Expr} {d0 : PyData} {p0 : Addr × MO} {N B C : DS → Prop} (h : EV X b e S (.d d0) S1) (hm : p0 ∈ S1.m) : SY X b (.Return (some e) pos) S ⟨N, fun x S' => x = .d d0 ∧ p0 ∈ S'.m, B, C⟩ := sy_ret h ⟨rfl, hm⟩
/-- a comprehension over a list, the rest left as it is -/
theorem ev_lcL0p {elt tg iter : Expr} {scope : Scope} (own : List (Str × Nat)) {g : TG} {ds : List PyData} (gT : PyData → List DV) (q : PyData → PyData)
    (hK : X.K = b.K) (hc : X.calm = true) (hN : X.N.Nodup) (hi : EV X b iter S (.d (.list ds)) S1) (hz : ds.length ≤ 1000) (hB : BlkOk X.N X.env.scope scope own)
    (hpg : ∀ (s : Shared) (H : Hp) (C : Addr) (cl : List (Str × Addr)) (fp : List Addr), PG (X.blk s H scope (compEnvC scope cl C X.env) fp) tg g)
    (hg : ∀ (i : Nat) d, ds[i]? = some d → TGb b (own.map (·.2)) d (gWipe S1.g (own.map (·.2))) (gT d) g)
    (he : ∀ (i : Nat) d, ds[i]? = some d → ∀ Dl acc, EVb X b scope elt ⟨gT d, S1.m ++ [(Dl, .lst acc)]⟩ (.d (q d)) ⟨gT d, S1.m ++ [(Dl, .lst acc)]⟩)
    {z : PyData} (ez : z = .list (ds.map q))
    (hf : ∀ x : Value, foldedSetIterable iter X.env x = pure x := by intro _; rfl) : EV X b (.ListComp elt [⟨tg, iter, [], 0⟩] scope pos) S (.d z) S1 := by
  refine ev_lcL (tt := tYes) (own := own) (gT := gT) (Ms := fun _ => S1.m) (c := fun _ => true) (y := fun i => match ds[i]? with | some d => q d | none => .none) hK hc hN hi hz hB rfl (fun _ => rfl) hpg (fun _ _ _ _ _ => pts_nil) hg (fun i d hd Dl acc => ttok_yes) (fun i d hd _ Dl acc => by rw [show (match ds[i]? with | some d => q d | none => .none) = q d by rw [hd]]; exact he i d hd Dl acc) (fun _ _ _ _ => rfl) hf (by rw [ez]; have := outs_picked (ds := ds) (f := fun _ => true) (g := q) (c := fun _ => true) (y := fun i => match ds[i]? with | some d => q d | none => .none) (fun i d hd => ⟨rfl, by simp only [hd]⟩); rw [this, List.filter_eq_self.mpr (fun _ _ => rfl)]) rfl
/-- a comprehension over a list, the rest left as it is -/
theorem ev_lcL1p {elt tg iter t : Expr} {scope : Scope} (own : List (Str × Nat)) {g : TG} {ds : List PyData} (gT : PyData → List DV) {f : PyData → Bool} (q : PyData → PyData)
    (hK : X.K = b.K) (hc : X.calm = true) (hN : X.N.Nodup) (hi : EV X b iter S (.d (.list ds)) S1) (hz : ds.length ≤ 1000) (hB : BlkOk X.N X.env.scope scope own)
    (hpg : ∀ (s : Shared) (H : Hp) (C : Addr) (cl : List (Str × Addr)) (fp : List Addr), PG (X.blk s H scope (compEnvC scope cl C X.env) fp) tg g)
    (hg : ∀ (i : Nat) d, ds[i]? = some d → TGb b (own.map (·.2)) d (gWipe S1.g (own.map (·.2))) (gT d) g)
    (ht : ∀ (i : Nat) d, ds[i]? = some d → ∀ Dl acc, ETb X b scope t ⟨gT d, S1.m ++ [(Dl, .lst acc)]⟩ (f d) ⟨gT d, S1.m ++ [(Dl, .lst acc)]⟩)
    (he : ∀ (i : Nat) d, ds[i]? = some d → f d = true → ∀ Dl acc, EVb X b scope elt ⟨gT d, S1.m ++ [(Dl, .lst acc)]⟩ (.d (q d)) ⟨gT d, S1.m ++ [(Dl, .lst acc)]⟩)
    {z : PyData} (ez : z = .list ((ds.filter f).map q))
    (hf : ∀ x : Value, foldedSetIterable iter X.env x = pure x := by intro _; rfl) : EV X b (.ListComp elt [⟨tg, iter, [t], 0⟩] scope pos) S (.d z) S1 := by
  refine ev_lcL (tt := wTb X scope t) (own := own) (gT := gT) (Ms := fun _ => S1.m) (c := fun i => match ds[i]? with | some d => f d | none => false) (y := fun i => match ds[i]? with | some d => q d | none => .none) hK hc hN hi hz hB rfl (fun _ => rfl) hpg (fun s H C cl fp => pts_one (ptWb _ _ s H C cl fp)) hg (fun i d hd Dl acc => by rw [show (match ds[i]? with | some d => f d | none => false) = f d by rw [hd]]; exact ttok_one (ht i d hd Dl acc)) (fun i d hd hc Dl acc => by rw [show (match ds[i]? with | some d => q d | none => .none) = q d by rw [hd]]; exact he i d hd (by rw [show (match ds[i]? with | some d => f d | none => false) = f d by rw [hd]] at hc; exact hc) Dl acc) (fun _ _ _ _ => rfl) hf (by rw [ez, outs_picked (f := f) (g := q)]; intro i d hd; constructor <;> simp only [hd]) rfl
/-- a comprehension over a list by places, the rest left as it is -/
theorem ev_lcL1i {elt tg iter t : Expr} {scope : Scope} (own : List (Str × Nat)) {g : TG} {ds : List PyData} (gT : PyData → List DV) (c : Nat → Bool) (y : Nat → PyData)
    (hK : X.K = b.K) (hc : X.calm = true) (hN : X.N.Nodup) (hi : EV X b iter S (.d (.list ds)) S1) (hz : ds.length ≤ 1000) (hB : BlkOk X.N X.env.scope scope own)
    (hpg : ∀ (s : Shared) (H : Hp) (C : Addr) (cl : List (Str × Addr)) (fp : List Addr), PG (X.blk s H scope (compEnvC scope cl C X.env) fp) tg g)
    (hg : ∀ (i : Nat) d, ds[i]? = some d → TGb b (own.map (·.2)) d (gWipe S1.g (own.map (·.2))) (gT d) g)
    (ht : ∀ (i : Nat) d, ds[i]? = some d → ∀ Dl acc, ETb X b scope t ⟨gT d, S1.m ++ [(Dl, .lst acc)]⟩ (c i) ⟨gT d, S1.m ++ [(Dl, .lst acc)]⟩)
    (he : ∀ (i : Nat) d, ds[i]? = some d → c i = true → ∀ Dl acc, EVb X b scope elt ⟨gT d, S1.m ++ [(Dl, .lst acc)]⟩ (.d (y i)) ⟨gT d, S1.m ++ [(Dl, .lst acc)]⟩)
    {z : PyData} (ez : z = .list (outs c y ds.length))
    (hf : ∀ x : Value, foldedSetIterable iter X.env x = pure x := by intro _; rfl) : EV X b (.ListComp elt [⟨tg, iter, [t], 0⟩] scope pos) S (.d z) S1 := by
  refine ev_lcL (tt := wTb X scope t) (own := own) (gT := gT) (Ms := fun _ => S1.m) (c := c) (y := y) hK hc hN hi hz hB rfl (fun _ => rfl) hpg (fun s H C cl fp => pts_one (ptWb _ _ s H C cl fp)) hg (fun i d hd Dl acc => ttok_one (ht i d hd Dl acc)) he (fun _ _ _ _ => rfl) hf ez rfl
/-- a comprehension over a tuple by places, the rest left as it is -/
theorem ev_lcT1i {elt tg iter t : Expr} {scope : Scope} (own : List (Str × Nat)) {g : TG} {ds : List PyData} (gT : PyData → List DV) (c : Nat → Bool) (y : Nat → PyData)
    (hK : X.K = b.K) (hc : X.calm = true) (hN : X.N.Nodup) (hi : EV X b iter S (.d (.tuple ds)) S1) (hz : ds.length ≤ 1000) (hB : BlkOk X.N X.env.scope scope own)
    (hpg : ∀ (s : Shared) (H : Hp) (C : Addr) (cl : List (Str × Addr)) (fp : List Addr), PG (X.blk s H scope (compEnvC scope cl C X.env) fp) tg g)
    (hg : ∀ (i : Nat) d, ds[i]? = some d → TGb b (own.map (·.2)) d (gWipe S1.g (own.map (·.2))) (gT d) g)
    (ht : ∀ (i : Nat) d, ds[i]? = some d → ∀ Dl acc, ETb X b scope t ⟨gT d, S1.m ++ [(Dl, .lst acc)]⟩ (c i) ⟨gT d, S1.m ++ [(Dl, .lst acc)]⟩)
    (he : ∀ (i : Nat) d, ds[i]? = some d → c i = true → ∀ Dl acc, EVb X b scope elt ⟨gT d, S1.m ++ [(Dl, .lst acc)]⟩ (.d (y i)) ⟨gT d, S1.m ++ [(Dl, .lst acc)]⟩)
    {z : PyData} (ez : z = .list (outs c y ds.length))
    (hf : ∀ x : Value, foldedSetIterable iter X.env x = pure x := by intro _; rfl) : EV X b (.ListComp elt [⟨tg, iter, [t], 0⟩] scope pos) S (.d z) S1 := by
  refine ev_lcT (tt := wTb X scope t) (own := own) (gT := gT) (Ms := fun _ => S1.m) (c := c) (y := y) hK hc hN hi hz hB rfl (fun _ => rfl) hpg (fun s H C cl fp => pts_one (ptWb _ _ s H C cl fp)) hg (fun i d hd Dl acc => ttok_one (ht i d hd Dl acc)) he (fun _ _ _ _ => rfl) hf ez rfl
/-- a comprehension over a tuple, the rest left as it is -/
theorem ev_lcT0p {elt tg iter : Expr} {scope : Scope} (own : List (Str × Nat)) {g : TG} {ds : List PyData} (gT : PyData → List DV) (q : PyData → PyData)
    (hK : X.K = b.K) (hc : X.calm = true) (hN : X.N.Nodup) (hi : EV X b iter S (.d (.tuple ds)) S1) (hz : ds.length ≤ 1000) (hB : BlkOk X.N X.env.scope scope own)
    (hpg : ∀ (s : Shared) (H : Hp) (C : Addr) (cl : List (Str × Addr)) (fp : List Addr), PG (X.blk s H scope (compEnvC scope cl C X.env) fp) tg g)
    (hg : ∀ (i : Nat) d, ds[i]? = some d → TGb b (own.map (·.2)) d (gWipe S1.g (own.map (·.2))) (gT d) g)
    (he : ∀ (i : Nat) d, ds[i]? = some d → ∀ Dl acc, EVb X b scope elt ⟨gT d, S1.m ++ [(Dl, .lst acc)]⟩ (.d (q d)) ⟨gT d, S1.m ++ [(Dl, .lst acc)]⟩)
    {z : PyData} (ez : z = .list (ds.map q))
    (hf : ∀ x : Value, foldedSetIterable iter X.env x = pure x := by intro _; rfl) : EV X b (.ListComp elt [⟨tg, iter, [], 0⟩] scope pos) S (.d z) S1 := by
  refine ev_lcT (tt := tYes) (own := own) (gT := gT) (Ms := fun _ => S1.m) (c := fun _ => true) (y := fun i => match ds[i]? with | some d => q d | none => .none) hK hc hN hi hz hB rfl (fun _ => rfl) hpg (fun _ _ _ _ _ => pts_nil) hg (fun i d hd Dl acc => ttok_yes) (fun i d hd _ Dl acc => by rw [show (match ds[i]? with | some d => q d | none => .none) = q d by rw [hd]]; exact he i d hd Dl acc) (fun _ _ _ _ => rfl) hf (by rw [ez]; have := outs_picked (ds := ds) (f := fun _ => true) (g := q) (c := fun _ => true) (y := fun i => match ds[i]? with | some d => q d | none => .none) (fun i d hd => ⟨rfl, by simp only [hd]⟩); rw [this, List.filter_eq_self.mpr (fun _ _ => rfl)]) rfl
/-- a comprehension over a tuple, the rest left as it is -/
theorem ev_lcT1p {elt tg iter t : Expr} {scope : Scope} (own : List (Str × Nat)) {g : TG} {ds : List PyData} (gT : PyData → List DV) {f : PyData → Bool} (q : PyData → PyData)
    (hK : X.K = b.K) (hc : X.calm = true) (hN : X.N.Nodup) (hi : EV X b iter S (.d (.tuple ds)) S1) (hz : ds.length ≤ 1000) (hB : BlkOk X.N X.env.scope scope own)
    (hpg : ∀ (s : Shared) (H : Hp) (C : Addr) (cl : List (Str × Addr)) (fp : List Addr), PG (X.blk s H scope (compEnvC scope cl C X.env) fp) tg g)
    (hg : ∀ (i : Nat) d, ds[i]? = some d → TGb b (own.map (·.2)) d (gWipe S1.g (own.map (·.2))) (gT d) g)
    (ht : ∀ (i : Nat) d, ds[i]? = some d → ∀ Dl acc, ETb X b scope t ⟨gT d, S1.m ++ [(Dl, .lst acc)]⟩ (f d) ⟨gT d, S1.m ++ [(Dl, .lst acc)]⟩)
    (he : ∀ (i : Nat) d, ds[i]? = some d → f d = true → ∀ Dl acc, EVb X b scope elt ⟨gT d, S1.m ++ [(Dl, .lst acc)]⟩ (.d (q d)) ⟨gT d, S1.m ++ [(Dl, .lst acc)]⟩)
    {z : PyData} (ez : z = .list ((ds.filter f).map q))
    (hf : ∀ x : Value, foldedSetIterable iter X.env x = pure x := by intro _; rfl) : EV X b (.ListComp elt [⟨tg, iter, [t], 0⟩] scope pos) S (.d z) S1 := by
  refine ev_lcT (tt := wTb X scope t) (own := own) (gT := gT) (Ms := fun _ => S1.m) (c := fun i => match ds[i]? with | some d => f d | none => false) (y := fun i => match ds[i]? with | some d => q d | none => .none) hK hc hN hi hz hB rfl (fun _ => rfl) hpg (fun s H C cl fp => pts_one (ptWb _ _ s H C cl fp)) hg (fun i d hd Dl acc => by rw [show (match ds[i]? with | some d => f d | none => false) = f d by rw [hd]]; exact ttok_one (ht i d hd Dl acc)) (fun i d hd hc Dl acc => by rw [show (match ds[i]? with | some d => q d | none => .none) = q d by rw [hd]]; exact he i d hd (by rw [show (match ds[i]? with | some d => f d | none => false) = f d by rw [hd]] at hc; exact hc) Dl acc) (fun _ _ _ _ => rfl) hf (by rw [ez, outs_picked (f := f) (g := q)]; intro i d hd; constructor <;> simp only [hd]) rfl
end
end DX
end
section
set_option Elab.async false
set_option linter.all false
set_option maxRecDepth 100000
set_option maxHeartbeats 4000000
namespace DX
open PySem PySem.Spec PyProof.Rows L2
set_option autoImplicit false
/-! isinstance of data and a built-in class -/
def isInst : PyData → String → Bool
  | .none, _ => false
  | .bool _, T => T == "bool" || T == "int"
  | .int _, T => T == "int"
  | .str _, T => T == "str"
  | .list _, T => T == "list"
  | .tuple _, T => T == "tuple"
  | .dict _, _ => false
def isCls (T : String) : Prop := T = "int" ∨ T = "bool" ∨ T = "str" ∨ T = "tuple" ∨ T = "list"
theorem kit_tab : ∀ T, isCls T → kitB "NoneType" T = some false ∧ kitB "bool" T = some (T == "bool" || T == "int") ∧ kitB "int" T = some (T == "int") ∧ kitB "str" T = some (T == "str") ∧ kitB "list" T = some (T == "list") ∧ kitB "tuple" T = some (T == "tuple") := by
  rintro T (h | h | h | h | h) <;> subst h <;> decide +kernel
theorem dp_type {K : PySem.W.Frag} {H H' : Hp} (ex : Ex H H') {v : V} {d : PyData} (h : Dp K H v d) {T : String} (hT : isCls T) : ∃ t, TyX K H' v t ∧ PySem.W.kitOne K t (.type T) = some (isInst d T) := by
  obtain ⟨k1, k2, k3, k4, k5, k6⟩ := kit_tab T hT
  cases h with
  | non => exact ⟨_, .base .non, kit_ty k1⟩
  | bl c => exact ⟨_, .base (.bl c), kit_ty k2⟩
  | int i => exact ⟨_, .base (.int i), kit_ty k3⟩
  | str x => exact ⟨_, .base (.str x), kit_ty k4⟩
  | lst hs _ =>
    refine ⟨.type "list", ?_, kit_ty k5⟩
    rcases hs with (h | ⟨o, h⟩) | ⟨o, its, n, h1, h2, _⟩
    · exact .base (.lst (ex _ _ h))
    · exact .base (.frz (ex _ _ h))
    · exact .kList h1 h2
  | tup hs _ =>
    refine ⟨.type "tuple", ?_, kit_ty k6⟩
    rcases hs with (h | ⟨o, h⟩) | ⟨o, its, n, h1, h2, _⟩
    · exact .base (.tup (ex _ _ h))
    · exact .fTuple (ex _ _ h)
    · exact .kTuple h1 h2
section
variable {X : Cx} {b : Bs} {S S1 S2 S3 S' : DS} {x y z : DV} {pos : Pos} {D : DE} {rest : List Stmt}
theorem ev_isi {p p2 : Pos} {e : Expr} {nm : Str} {T : String} {d : PyData} (hK : X.K = b.K) (hg : Gl X "isinstance") (hm : X.mg "isinstance" = none) (hg2 : Gl X nm) (hm2 : X.mg nm = none) (hv : bootBuiltins nm = some (.type T)) (hT : isCls T) (h : EV X b e S (.d d) S1) (hn2 : nm ≠ "__name__" := by decide) (hd2 : (nm == ("__debug__" : Str)) = false := by decide)
    (he : starEach [e, .Name nm p2] X.env = (false, eval e X.env) :: starEach [.Name nm p2] X.env := by rfl) (he2 : starEach [.Name nm p2] X.env = (false, eval (.Name nm p2) X.env) :: starEach [] X.env := by rfl) (hpl : (backTo pos (starEach [.Name nm p2] X.env)).any (·.1) = false := by rfl) : EV X b (.Call (.Name "isinstance" p) [e, .Name nm p2] [] pos) S (.d (.bool (isInst d T))) S1 := by
  intro σ H r Q q
  refine wE_of (pe_callB call_isi hg hm (by decide +kernel) (pa_cons (peW e) (pa_cons (pe_bltn (v := .ty T) hg2 hm2 hv rfl hn2 hd2) pa_nil he2) he) (by decide) (by decide) he hpl) ?_
  show wE X e σ H _
  refine h σ H r _ fun v H1 k1 r1 x1 a1 => ?_
  obtain ⟨t, t1, t2⟩ := dp_type hide_ex k1 hT
  exact ⟨v, .ty T, t, .type T, isInst d T, rfl, .ty T, by rw [hK]; exact t1, by rw [hK]; exact t2, q _ H1 (.bl _) r1 x1 a1⟩
end
end DX
end
section
set_option Elab.async false
set_option linter.all false
set_option maxRecDepth 100000
set_option maxHeartbeats 4000000
namespace DX
open PySem PySem.Spec PyProof.Rows L2
set_option autoImplicit false
/-! math.isqrt of great numbers: the division by _pylong has its room -/
section
variable {prog : Program} {w : World} {A : Around} {E : Value → Shared → Prop} {s : Shared}
theorem room_inverse {Q : Unit → Shared → Prop} {n u : Nat} (hs : SeerAt (model prog w) A s.heap) (hl : s.heap.NoLimit) (hd : A.depth + Builtin.pylongFrames < recursionLimit) (h : Q () s) : wpAny (model prog w) { A with units := u } (Builtin.roomForPylongsInverse n) Q E s := by
  unfold Builtin.roomForPylongsInverse
  by_cases hb : n.log2 / 30 + 1 > 450
  · rw [if_pos hb]
    refine wpAny_bind (hs u s E _ rfl ?_)
    exact wpAny_pylongFrames (A := { A with units := u }) hl hd h
  · rw [if_neg hb]
    exact wpAny_pure h
theorem isqrt_great {n : Nat} {t : Tok} {Q : Value → Shared → Prop} (hz : n.log2 ≤ 200000) (hs : SeerAt (model prog w) A s.heap) (hl : s.heap.NoLimit) (hd : A.depth + Builtin.pylongFrames < recursionLimit) (h : Q (.int ((Float64.isqrt n : Nat) : Int) s.toks) { s with toks := s.toks + 1 }) :
    wpAny (model prog w) A (call (.builtin "math.isqrt") [.int (n : Int) t]) Q E s := by
  refine wpAny_call (codeAny_call_builtin PySem.W.MGF.plain_isqrt PySem.W.MGF.entry_isqrt ?_)
  have hfin : wpAny (model prog w) A.in1 (Builtin.«math.isqrt» ⟨[.int (n : Int) t], []⟩) (fun fin s' => match fin with | .done f => wants Q E (.ok f) s' | .again c' => c'.quiet = true ∧ codeAny (model prog w) A c' (wants Q E) s') (fun e s' => wants Q E (.error e) s') s := by
    obtain ⟨hp, g, d, tk, os⟩ := s
    have hc0 : ¬ (n : Int) < 0 := by omega
    have hc1 : ¬ (n : Int).toNat.log2 > 200000 := by rw [Int.toNat_natCast]; omega
    have hroom : ∀ {Q : Unit → Shared → Prop} {E : Value → Shared → Prop}, Q () ⟨hp, g, d, tk, os⟩ → wpAny (model prog w) A.in1 (Builtin.roomForPylongsInverse (n : Int).toNat) Q E ⟨hp, g, d, tk, os⟩ := fun h => room_inverse hs hl hd h
    wp_walk using (hroom)
    exact h
  have ok := PySem.W.MGF.args_isqrt (.int (n : Int) t)
  rw [show checkBuiltinCall "math.isqrt" ⟨[Value.int (n : Int) t], []⟩ = pure () from ?_]
  · exact wpAny_pure hfin
  · simp only [checkBuiltinCall, PySem.W.MGF.kind_isqrt]
    cases hsig : Manifest.signature? "math.isqrt" with
    | none => rfl
    | some sig =>
      simp only [argsOk, hsig] at ok
      exact ok
end
/-- the floor root of a natural number -/
def rIsqrt : List V → Hp → VK → Prop := fun vs H Q => ∃ n t : Nat, vs = [.int (n : Int)] ∧ n.log2 ≤ 200000 ∧ t * t ≤ n ∧ n < (t + 1) * (t + 1) ∧ Q (.int (t : Int)) H
theorem root_unique {n t u : Nat} (h1 : t * t ≤ n) (h2 : n < (t + 1) * (t + 1)) (h3 : u * u ≤ n) (h4 : n < (u + 1) * (u + 1)) : t = u := by
  have a : ∀ x y : Nat, x * x ≤ n → n < (y + 1) * (y + 1) → x ≤ y := fun x y p q => by
    refine Classical.byContradiction fun hc => ?_
    have : (y + 1) * (y + 1) ≤ x * x := Nat.mul_le_mul (by omega) (by omega)
    omega
  exact Nat.le_antisymm (a t u h1 h4) (a u t h3 h2)
theorem cr_isqrt {X : Cx} (hN : X.base.NoSeer) (ht : X.prog.given.tree = none) (hst : X.stack = X.env :: X.outer) (hgen : X.env.scope.isGenerator = false) (hco : X.env.scope.isCoroutine = false) (hr : Room 40 X.A) : CallR X (.builtin "math.isqrt") rIsqrt := by
  intro pins s σ H xs us Q I r h
  obtain ⟨n, t, rfl, hz, h1, h2, q⟩ := h
  obtain ⟨u, rfl, t', rfl⟩ := vals1 r
  have e : Float64.isqrt n = t := root_unique (Float64.isqrt_spec n).1 (Float64.isqrt_spec n).2 h1 h2
  have hS : SeerAt (model X.prog X.w) X.A s.heap := SeerAt.of (env := X.env) (l := X.outer) (hN.keeps I.bk) ht (by rw [I.ok.frames, hst]) hgen hco I.ok.blt I.ok.glob
  refine isqrt_great hz hS I.nolimit ?_ ?_
  · have := hr.dp
    show X.A.depth + 100 < recursionLimit
    omega
  · rw [e]
    exact ⟨.int (t : Int), H, I.tok _, ⟨_, rfl⟩, q⟩
theorem rc_isqrt {b : Bs} {S : DS} {n t : Nat} (hz : n.log2 ≤ 200000) (h1 : t * t ≤ n) (h2 : n < (t + 1) * (t + 1)) : RC b rIsqrt [.d (.int (n : Int))] S (.d (.int (t : Int))) := by
  intro H vs rm h Q q
  obtain ⟨v, rfl, k⟩ := vall1 h
  cases k
  exact ⟨n, t, rfl, hz, h1, h2, q _ H (.int _) (Ex.refl _)⟩
/-- math.lcm of ints below 2 ^ 64 -/
def rLcm : List V → Hp → VK → Prop := fun vs H Q => ∃ a b : Int, vs = [.int a, .int b] ∧ a.natAbs < 2 ^ 64 ∧ b.natAbs < 2 ^ 64 ∧ Q (.int ((Nat.lcm a.natAbs b.natAbs : Nat) : Int)) H
theorem cr_lcm {X : Cx} : CallR X (.builtin "math.lcm") rLcm := by
  intro pins s σ H xs us Q I r h
  obtain ⟨a, c, rfl, h1, h2, q⟩ := h
  obtain ⟨t, u, rfl⟩ := Vals.int2 r
  exact PySem.W.mc_lcm h1 h2 fun _ => ⟨.int _, H, I.tok _, ⟨_, rfl⟩, q⟩
theorem rc_lcm {b : Bs} {S : DS} {i j : Int} (h1 : i.natAbs < 2 ^ 64) (h2 : j.natAbs < 2 ^ 64) : RC b rLcm [.d (.int i), .d (.int j)] S (.d (.int ((Nat.lcm i.natAbs j.natAbs : Nat) : Int))) := by
  intro H vs rm h Q q
  obtain ⟨u, v, rfl, k1, k2⟩ := vall2 h
  cases k1; cases k2
  exact ⟨i, j, rfl, h1, h2, q _ H (.int _) (Ex.refl _)⟩
/-- math.isqrt of a number below 2 ^ 64 -/
def rIsqrtS : List V → Hp → VK → Prop := fun vs H Q => ∃ n t : Nat, vs = [.int (n : Int)] ∧ n < 2 ^ 64 ∧ t * t ≤ n ∧ n < (t + 1) * (t + 1) ∧ Q (.int (t : Int)) H
theorem cr_isqrtS {X : Cx} : CallR X (.builtin "math.isqrt") rIsqrtS := by
  intro pins s σ H xs us Q I r h
  obtain ⟨n, t, rfl, hz, h1, h2, q⟩ := h
  obtain ⟨u, rfl, t', rfl⟩ := vals1 r
  have e : Float64.isqrt n = t := root_unique (Float64.isqrt_spec n).1 (Float64.isqrt_spec n).2 h1 h2
  refine PySem.W.mg_isqrt (Int.natCast_nonneg _) (by omega) ?_
  rw [Int.toNat_natCast, e]
  exact ⟨.int (t : Int), H, I.tok _, ⟨_, rfl⟩, q⟩
theorem rc_isqrtS {b : Bs} {S : DS} {n t : Nat} (hz : n < 2 ^ 64) (h1 : t * t ≤ n) (h2 : n < (t + 1) * (t + 1)) : RC b rIsqrtS [.d (.int (n : Int))] S (.d (.int (t : Int))) := by
  intro H vs rm h Q q
  obtain ⟨v, rfl, k⟩ := vall1 h
  cases k
  exact ⟨n, t, rfl, hz, h1, h2, q _ H (.int _) (Ex.refl _)⟩
section
variable {X : Cx}
theorem iop_mulX' : OpR X (inplaceOp .Mult) (rI CMulX fun i j => .int (i * j)) := opI fun _ _ _ _ _ _ _ hc q => imul_int q hc.ok
end
end DX
end
section
set_option Elab.async false
set_option linter.all false
set_option maxRecDepth 100000
set_option maxHeartbeats 4000000
namespace DX
open PySem PySem.Spec PyProof.Rows L2
set_option autoImplicit false
theorem flat_succ {ds : List PyData} {i : Nat} {d : PyData} (h : ds[i]? = some d) (f : PyData → List PyData) : (ds.take (i + 1)).flatMap f = (ds.take i).flatMap f ++ f d := by
  rw [List.take_add_one, h, List.flatMap_append]
  simp
theorem map_succ {ds : List PyData} {i : Nat} {d : PyData} (h : ds[i]? = some d) (f : PyData → PyData) : (ds.take (i + 1)).map f = (ds.take i).map f ++ [f d] := by
  rw [List.take_add_one, h, List.map_append]
  simp
theorem tyes_run {σ : List (Option V)} {H : Hp} {A B : Hp → Prop} (h : A H) : tYes σ H fun k H3 => if k = true then A H3 else B H3 := by
  show (if true = true then A H else B H)
  rw [if_pos rfl]
  exact h
section
variable {X : Cx} {b : Bs} {S S1 : DS} {pos : Pos}
theorem hd_acc (M : List (Addr × MO)) (D : Addr) (g1 g2 : List DV) (o1 o2 : MO) : Hd b ⟨g1, M ++ [(D, o1)]⟩ = Hd b ⟨g2, M ++ [(D, o2)]⟩ := by
  unfold Hd DS.as
  simp only [List.map_append, List.map_cons, List.map_nil]
/-- [elt for tg in a tuple for tg1 in a tuple], the rest left as it is -/
theorem ev_lc2T {elt tg iter tg1 iter1 : Expr} {scope : Scope} (own : List (Str × Nat)) (vs1 : List Nat) {g g1 : TG} {ds es : List PyData} (gA : PyData → List DV) (gB : PyData → PyData → List DV) (y : PyData → PyData → PyData)
    (hK : X.K = b.K) (hc : X.calm = true) (hN : X.N.Nodup) (hi : EV X b iter S (.d (.tuple ds)) S1) (hz : (ds.flatMap fun d => es.map (y d)).length ≤ 900) (hB : BlkOk X.N X.env.scope scope own) (hv : ∀ i ∈ vs1, i ∈ own.map (·.2))
    (hpg : ∀ (s : Shared) (H : Hp) (C : Addr) (cl : List (Str × Addr)) (fp : List Addr), PG (X.blk s H scope (compEnvC scope cl C X.env) fp) tg g)
    (hpg1 : ∀ (s : Shared) (H : Hp) (C : Addr) (cl : List (Str × Addr)) (fp : List Addr), PG (X.blk s H scope (compEnvC scope cl C X.env) fp) tg1 g1)
    (hg : ∀ (i : Nat) d, ds[i]? = some d → TGb b (own.map (·.2)) d (gWipe S1.g (own.map (·.2))) (gA d) g)
    (hi1 : ∀ (i : Nat) d, ds[i]? = some d → ∀ Dl acc, EVb X b scope iter1 ⟨gA d, S1.m ++ [(Dl, .lst acc)]⟩ (.d (.tuple es)) ⟨gA d, S1.m ++ [(Dl, .lst acc)]⟩)
    (hg1 : ∀ (i : Nat) d, ds[i]? = some d → ∀ (j : Nat) e, es[j]? = some e → TGb b vs1 e (gWipe (gA d) vs1) (gB d e) g1)
    (he : ∀ (i : Nat) d, ds[i]? = some d → ∀ (j : Nat) e, es[j]? = some e → ∀ Dl acc, EVb X b scope elt ⟨gB d e, S1.m ++ [(Dl, .lst acc)]⟩ (.d (y d e)) ⟨gB d e, S1.m ++ [(Dl, .lst acc)]⟩)
    {z : PyData} (ez : z = .list (ds.flatMap fun d => es.map (y d)))
    (hf : ∀ x : Value, foldedSetIterable iter X.env x = pure x := by intro _; rfl) (hf1 : ∀ (env : Env) (x : Value), foldedSetIterable iter1 env x = pure x := by intro _ _; rfl) : EV X b (.ListComp elt [⟨tg, iter, [], 0⟩, ⟨tg1, iter1, [], 0⟩] scope pos) S (.d z) S1 := by
  subst ez
  intro σ H r Q q
  refine wE_of (pe_lc2 (wi1 := iTup X.K (wEb X scope iter1)) hc hN (pi_tup (peW _)) hB hv hpg (fun _ _ _ _ _ => pts_nil) (fun s H0 C cl fp => pi_tup (X := X.blk s H0 scope (compEnvC scope cl C X.env) fp) (peWb (X := X) scope iter1 s H0 C cl fp)) hpg1 (fun _ _ _ _ _ => pts_nil) (peWb scope elt) hf hf1) (hi σ H r _ fun v H1 k1 r1 x1 a1 => ?_)
  cases k1 with
  | tup hs ha =>
    rename_i a xs
    have hq0 : SqT X.K H1 a xs := by rw [hK]; exact ex_t hide_ex hs
    refine ⟨a, rfl, ⟨xs, hq0⟩, fun D hD => ?_⟩
    have nD : D ∉ Hd b S1 := r1.rm.fresh hD
    have xl : xs.length = ds.length := DpAll.len ha
    have hh : ∀ (gg : List DV) (acc : List PyData), Hd b ⟨gg, S1.m ++ [(D, MO.lst acc)]⟩ = Hd b ⟨S1.g, S1.m ++ [(D, MO.lst [])]⟩ := fun gg acc => hd_acc _ _ _ _ _ _
    generalize hHD : Hd b ⟨S1.g, S1.m ++ [(D, MO.lst [])]⟩ = HD at hh
    have hdM : ∀ q, q ∈ HD ↔ (q ∈ Hd b S1 ∨ q = D) := fun q => by
      rw [← hHD]
      unfold Hd DS.as
      simp only [List.map_append, List.mem_append, List.map_cons, List.map_nil, List.mem_singleton]
      constructor
      · rintro (h | h | h)
        · exact .inl (.inl h)
        · exact .inl (.inr h)
        · exact .inr h
      · rintro ((h | h) | h)
        · exact .inl h
        · exact .inr (.inl h)
        · exact .inr (.inr h)
    have rw0 : Rel b ⟨gWipe S1.g (own.map (·.2)), S1.m⟩ (wipe σ (own.map (·.2))) H1 := rel_wipe (g := S1.g) (m := S1.m) r1
    have tot : ∀ i j d, ds[i]? = some d → j < es.length → ((ds.take i).flatMap (fun d => es.map (y d)) ++ (es.take j).map (y d)).length < 1000 := fun i j d hd hj => by
      have hi : i < ds.length := (List.getElem?_eq_some_iff.mp hd).1
      have e1 : ds.flatMap (fun d => es.map (y d)) = (ds.take (i + 1)).flatMap (fun d => es.map (y d)) ++ (ds.drop (i + 1)).flatMap (fun d => es.map (y d)) := by rw [← List.flatMap_append, List.take_append_drop]
      rw [e1, flat_succ hd] at hz
      simp only [List.length_append, List.length_map] at hz ⊢
      have : (es.take j).length ≤ es.length := by rw [List.length_take]; omega
      omega
    refine ⟨fun i m H => m = ds.length - i ∧ i ≤ ds.length ∧ RelM b ⟨S1.g, S1.m ++ [(D, .lst ((ds.take i).flatMap fun d => es.map (y d)))]⟩ H ∧ Ex (hide (Hd b S1) H1) (hide HD H), ⟨_, rfl, Nat.zero_le _, ?_, ?_⟩, ?_⟩
    · exact (r1.addM (a := D) (o := .lst []) (H' := upd H1 D (.lst [])) hD (Ex.new hD) ⟨[], upd_same, .nil⟩).1.rm
    · have := (r1.addM (a := D) (o := .lst []) (H' := upd H1 D (.lst [])) hD (Ex.new hD) ⟨[], upd_same, .nil⟩).2
      rw [← hHD]
      exact this
    · rintro i m H2 ⟨rfl, hle, rm, xx⟩
      have hq : SqT X.K H2 a xs := by rw [hK]; exact ex_t hide_ex (ex_t xx hs)
      by_cases hlt : i < ds.length
      · refine .inr ⟨⟨xs, xs[i]'(by omega), hq, by simp [show i < xs.length by omega]⟩, fun H' => RelM b ⟨S1.g, S1.m ++ [(D, .lst ((ds.take (i + 1)).flatMap fun d => es.map (y d)))]⟩ H' ∧ Ex (hide (Hd b S1) H1) (hide HD H'), fun H' p => ⟨ds.length - (i + 1), by omega, rfl, hlt, p⟩, fun x H' yy => ?_⟩
        obtain ⟨e0, yy⟩ := yy
        subst e0
        obtain ⟨d, hd1, hd2⟩ := dpAll_getV ha (yy xs hq)
        have hd3 := Dp.ex xx hd2
        have rw1 : Rel b ⟨gWipe S1.g (own.map (·.2)), S1.m ++ [(D, .lst ((ds.take i).flatMap fun d => es.map (y d)))]⟩ (wipe σ (own.map (·.2))) H' :=
          rel_later rw0 (by rw [hh]; exact xx) (fun q hq => by rw [hh]; exact (hdM q).mpr (.inl hq)) (relM_g rm)
        refine hg i d hd1 x _ H' _ (by show Dp _ _ _ _; rw [hh]; exact hd3) rw1 _ fun σ2 r2 e2 => ?_
        refine ⟨by rw [e2]; exact wipe_wipe σ _ _ fun _ h => h, ?_⟩
        refine tyes_run (A := fun H3 => iTup X.K (wEb X scope iter1) σ2 H3 _) ?_
        intro s0 H0 C cl fp
        refine hi1 i d hd1 D _ s0 H0 C cl fp σ2 H' r2 _ fun v4 H4 k4 r4 x4 a4 => ?_
        cases k4 with
        | tup hs4 ha4 =>
          rename_i a4' xs4
          rw [hh] at hs4 ha4 x4
          have xl4 : xs4.length = es.length := DpAll.len ha4
          have hq4 : SqT X.K H4 a4' xs4 := by rw [hK]; exact ex_t hide_ex hs4
          refine ⟨a4', rfl, ⟨xs4, hq4⟩, fun j m H => m = es.length - j ∧ j ≤ es.length ∧ RelM b ⟨S1.g, S1.m ++ [(D, .lst ((ds.take i).flatMap (fun d => es.map (y d)) ++ (es.take j).map (y d)))]⟩ H ∧ Ex (hide HD H4) (hide HD H), ⟨_, rfl, Nat.zero_le _, ?_, Ex.refl _⟩, ?_⟩
          · rw [List.take_zero, List.map_nil, List.append_nil]
            exact relM_g r4.rm
          · rintro j k H5 ⟨rfl, hle5, rm5, xx5⟩
            have hq5 : SqT X.K H5 a4' xs4 := by rw [hK]; exact ex_t hide_ex (ex_t xx5 hs4)
            by_cases hlt5 : j < es.length
            · refine .inr ⟨⟨xs4, xs4[j]'(by omega), hq5, by simp [show j < xs4.length by omega]⟩, fun H' => RelM b ⟨S1.g, S1.m ++ [(D, .lst ((ds.take i).flatMap (fun d => es.map (y d)) ++ (es.take (j + 1)).map (y d)))]⟩ H' ∧ Ex (hide HD H4) (hide HD H'), fun H' p => ⟨es.length - (j + 1), by omega, rfl, hlt5, p⟩, fun x5 H6 yy5 => ?_⟩
              obtain ⟨e5, yy5⟩ := yy5
              subst e5
              obtain ⟨e, he1, he2⟩ := dpAll_getV ha4 (yy5 xs4 hq5)
              have he3 := Dp.ex xx5 he2
              have rw5 : Rel b ⟨gWipe (gA d) vs1, S1.m ++ [(D, .lst ((ds.take i).flatMap (fun d => es.map (y d)) ++ (es.take j).map (y d)))]⟩ (wipe σ2 vs1) H6 :=
                rel_later (rel_wipe (g := gA d) r4) (by rw [hh, hh]; exact xx5) (fun q hq => by rw [hh] at hq ⊢; exact hq) (relM_g rm5)
              refine hg1 i d hd1 j e he1 x5 _ H6 _ (by show Dp _ _ _ _; rw [hh]; exact he3) rw5 _ fun σ3 r6 e6 => ?_
              refine ⟨by rw [e6]; exact wipe_wipe σ2 _ _ fun _ h => h, ?_⟩
              refine lc_step (tt := tYes) (g0 := S1.g) (M := S1.m) (M' := S1.m) (acc := (ds.take i).flatMap (fun d => es.map (y d)) ++ (es.take j).map (y d)) (c := true) (d := y d e) rfl r6 (tot i j d hd1 hlt5) (fun Q hQ => hQ H6 r6 (Ex.refl _)) (fun _ => he i d hd1 j e he1 D _) (fun h => nomatch h) fun H' rm' x' => ?_
              rw [hh, hh] at x'
              rw [if_pos rfl, List.append_assoc, ← map_succ he1] at rm'
              exact ⟨rm', xx5.trans x'⟩
            · have ej : j = es.length := by omega
              subst ej
              refine .inl ⟨⟨xs4, hq5, by omega⟩, ?_, (xx.trans x4).trans xx5⟩
              rw [flat_succ hd1]
              rw [List.take_length] at rm5
              exact rm5
      · have ei : i = ds.length := by omega
        subst ei
        refine .inl ⟨⟨xs, hq, by omega⟩, ?_⟩
        rw [List.take_length] at rm
        generalize (ds.flatMap fun d => es.map (y d)) = out at rm q
        have r3 : Rel b ⟨S1.g, S1.m ++ [(D, .lst out)]⟩ σ H2 := rel_later (m := S1.m) r1 (by rw [hh]; exact xx) (fun q hq => by rw [hh]; exact (hdM q).mpr (.inl hq)) rm
        have hfx : D ∉ b.fx := fun h => nD (List.mem_append.mpr (.inr (r1.rm.fxs D h)))
        have hin : (D, MO.lst out) ∈ (⟨S1.g, S1.m ++ [(D, .lst out)]⟩ : DS).m := List.mem_append.mpr (.inr (by simp))
        obtain ⟨r4, x4⟩ := r3.frzL hin hfx
        have em : (S1.m ++ [(D, MO.lst out)]).filter (fun p => decide (p.1 ≠ D)) = S1.m := by
          have nd : ((S1.m ++ [(D, MO.lst out)]).map (·.1)).Nodup := r3.rm.nd
          rw [List.map_append] at nd
          have hn : D ∉ S1.m.map (·.1) := fun q => (List.nodup_append.mp nd).2.2 D q D (by simp) rfl
          rw [List.filter_append]
          have e1 : S1.m.filter (fun p => decide (p.1 ≠ D)) = S1.m := List.filter_eq_self.mpr fun p hp => decide_eq_true fun e => hn (List.mem_map.mpr ⟨p, hp, e⟩)
          rw [e1]
          simp
        have hd4 : ∀ gg : List DV, Hd b ⟨gg, (S1.m ++ [(D, MO.lst out)]).filter (fun p => decide (p.1 ≠ D))⟩ = Hd b S1 := fun gg => by rw [em]; rfl
        have x5 : Ex (hide (Hd b S1) H1) (hide (Hd b S1) H2) := by
          rw [hh] at x4
          have x4' := xx.trans x4
          unfold DS.frz at x4'
          rw [hd4] at x4'
          exact x4'
        have rm5 : RelM b S1 H2 := by
          have := r4.rm
          unfold DS.frz at this
          rw [em] at this
          exact relM_g this
        refine q _ H2 ?_ (rel_later (m := S1.m) r1 x5 (fun q hq => hq) rm5) (x1.trans x5) a1
        obtain ⟨us, e1, e2⟩ := r3.rm.mem _ hin
        refine .lst (.inl (.inl (by rw [hide_out nD]; exact e1))) (DpAll.ex (fun q u e => ?_) e2)
        obtain ⟨q1, q2⟩ := hide_some e
        rw [hide_out fun z => q2 (by rw [hh]; exact (hdM q).mpr (.inl z))]
        exact q1
end
end DX
end
section
set_option Elab.async false
set_option linter.all false
set_option maxRecDepth 100000
set_option maxHeartbeats 4000000
namespace DX
open PySem PySem.Spec PyProof.Rows L2
set_option autoImplicit false
/-! what is walked, by the data that come -/
def wI (X : Cx) (tg e : Expr) : TI := fun σ H R => ∀ pins s, Inv X pins σ H s → wpAny (model X.prog X.w) X.A (eval e X.env) (fun v s1 => wpAny (model X.prog X.w) X.A (pyIter v) (PIE X pins σ tg R) X.xe s1) X.xe s
theorem piW {X : Cx} (tg e : Expr) : PI X tg e (wI X tg e) := ⟨fun pins s _ _ _ I h => h pins s I⟩
theorem wI_of {X : Cx} {tg e : Expr} {wi : TI} (h : PI X tg e wi) {σ : List (Option V)} {H : Hp} {R : It → Hp → Prop} (q : wi σ H R) : wI X tg e σ H R := fun pins s I => h.run pins s σ H R I q
def wIb (X : Cx) (scope : Scope) (tg e : Expr) : TI := fun σ H R => ∀ (s : Shared) (H0 : Hp) (C : Addr) (cl : List (Str × Addr)) (fp : List Addr), wI (X.blk s H0 scope (compEnvC scope cl C X.env) fp) tg e σ H R
theorem piWb {X : Cx} (scope : Scope) (tg e : Expr) (s : Shared) (H : Hp) (C : Addr) (cl : List (Str × Addr)) (fp : List Addr) : PI (X.blk s H scope (compEnvC scope cl C X.env) fp) tg e (wIb X scope tg e) := ⟨fun pins s' σ H' R I h => h s H C cl fp pins s' I⟩
/-- from the heap H1 on, whatever comes beside, J hands out ds -/
def JSeq (K : PySem.W.Frag) (A0 : List Addr) (J : It) (H1 : Hp) (ds : List PyData) : Prop := ∀ (i : Nat) (A : List Addr) (H2 : Hp), Ex (hide A0 H1) (hide A H2) → (∀ a ∈ A, H2 a ≠ none) →
  (∀ d, ds[i]? = some d → J.go i H2 ∧ ∀ x H', J.yld i H2 x H' → Ex H2 H' ∧ Dp K (hide A H') x d) ∧ (ds.length ≤ i → J.stop i H2)
section
variable (X : Cx) (b : Bs)
def EI (tg e : Expr) (S : DS) (ds : List PyData) (S1 : DS) : Prop := ∀ σ H, Rel b S σ H → ∀ R : It → Hp → Prop, (∀ J H1, JSeq b.K (Hd b S1) J H1 ds → Rel b S1 σ H1 → Ex (hide (Hd b S) H) (hide (Hd b S1) H1) → (∀ a ∈ Hd b S, a ∈ Hd b S1) → R J H1) → wI X tg e σ H R
def EIb (scope : Scope) (tg e : Expr) (S : DS) (ds : List PyData) (S1 : DS) : Prop := ∀ (s : Shared) (H : Hp) (C : Addr) (cl : List (Str × Addr)) (fp : List Addr), EI (X.blk s H scope (compEnvC scope cl C X.env) fp) b tg e S ds S1
end
section
variable {X : Cx} {b : Bs} {S S1 : DS} {pos : Pos}
theorem jseq_tup {K : PySem.W.Frag} {A0 : List Addr} {H1 : Hp} {a : Addr} {xs : List V} {ds : List PyData} (hs : SqT K (hide A0 H1) a xs) (ha : DpAll K (hide A0 H1) xs ds) : JSeq K A0 (Itt K a) H1 ds := by
  intro i A H2 x hA
  have hq : SqT K H2 a xs := ex_t hide_ex (ex_t x hs)
  have hl := DpAll.len ha
  refine ⟨fun d hd => ?_, fun h => ⟨xs, hq, by omega⟩⟩
  obtain ⟨v, e1, e2⟩ := dpAll_get ha hd
  refine ⟨⟨xs, v, hq, e1⟩, fun y H' yy => ?_⟩
  obtain ⟨rfl, yy⟩ := yy
  have := yy xs hq
  rw [e1] at this
  cases this
  exact ⟨Ex.refl _, Dp.ex x e2⟩
theorem jseq_lst {K : PySem.W.Frag} {A0 : List Addr} {H1 : Hp} {a : Addr} {xs : List V} {ds : List PyData} (hs : SqL K (hide A0 H1) a xs) (ha : DpAll K (hide A0 H1) xs ds) : JSeq K A0 (Itl K a) H1 ds := by
  intro i A H2 x hA
  have hq : SqL K H2 a xs := ex_l hide_ex (ex_l x hs)
  have hl := DpAll.len ha
  refine ⟨fun d hd => ?_, fun h => ⟨xs, hq, by omega⟩⟩
  obtain ⟨v, e1, e2⟩ := dpAll_get ha hd
  refine ⟨⟨xs, v, hq, e1⟩, fun y H' yy => ?_⟩
  obtain ⟨rfl, yy⟩ := yy
  have := yy xs hq
  rw [e1] at this
  cases this
  exact ⟨Ex.refl _, Dp.ex x e2⟩
theorem ei_tup {tg e : Expr} {ds : List PyData} (hK : X.K = b.K) (h : EV X b e S (.d (.tuple ds)) S1) : EI X b tg e S ds S1 := by
  intro σ H r R q
  refine wI_of (pi_tup (peW _)) (h σ H r _ fun v H1 k1 r1 x1 a1 => ?_)
  cases k1 with
  | tup hs ha =>
    refine ⟨_, rfl, ⟨_, by rw [hK]; exact ex_t hide_ex hs⟩, q _ _ ?_ r1 x1 a1⟩
    rw [hK]
    exact jseq_tup hs ha
theorem ei_lst {tg e : Expr} {ds : List PyData} (hK : X.K = b.K) (h : EV X b e S (.d (.list ds)) S1) : EI X b tg e S ds S1 := by
  intro σ H r R q
  refine wI_of (pi_list (peW _)) (h σ H r _ fun v H1 k1 r1 x1 a1 => ?_)
  cases k1 with
  | lst hs ha =>
    refine ⟨_, rfl, ⟨_, by rw [hK]; exact ex_l hide_ex hs⟩, q _ _ ?_ r1 x1 a1⟩
    rw [hK]
    exact jseq_lst hs ha
theorem jseq_rng {K : PySem.W.Frag} {A0 : List Addr} {H1 : Hp} {lo : Int} {n : Nat} : JSeq K A0 (Itr lo n) H1 ((intsFrom lo n).map .int) := by
  intro i A H2 x hA
  refine ⟨fun d hd => ?_, fun h => by rw [List.length_map, intsFrom_len] at h; exact h⟩
  have hi : i < n := by
    have := (List.getElem?_eq_some_iff.mp hd).1
    rwa [List.length_map, intsFrom_len] at this
  rw [List.getElem?_map, intsFrom_get hi] at hd
  cases (Option.some.inj hd)
  refine ⟨hi, fun y H' yy => ?_⟩
  obtain ⟨rfl, rfl⟩ := yy
  exact ⟨Ex.refl _, .int _⟩
theorem ei_rng2 {tg e1 e2 : Expr} {p1 p2 : Pos} {lo hi : Int} {S2 : DS} (hgr : Gl X "range") (hmr : X.mg "range" = none) (h1 : EV X b e1 S (.d (.int lo)) S2) (h2 : EV X b e2 S2 (.d (.int hi)) S1) (hb : -(2 ^ 62) ≤ lo ∧ lo < 2 ^ 62 ∧ -(2 ^ 62) ≤ hi ∧ hi < 2 ^ 62)
    (hs1 : starEach [e1, e2] X.env = [(false, eval e1 X.env), (false, eval e2 X.env)] := by rfl) (hs2 : starEach [e2] X.env = [(false, eval e2 X.env)] := by rfl) :
    EI X b tg (.Call (.Name "range" p1) [e1, e2] [] p2) S ((intsFrom lo (hi - lo).toNat).map .int) S1 := by
  intro σ H r R q
  refine wI_of (pi_range2 hgr hmr (pa_cons (peW e1) (pa_cons (peW e2) pa_nil hs2) (by rw [hs1, hs2])) hs1 hs2) (h1 σ H r _ fun v H0 k0 r0 x0 a0 => ?_)
  refine h2 σ H0 r0 _ fun v' H1 k1 r1 x1 a1 => ?_
  have k0' := k0.ex x1 a1
  cases k0'
  cases k1
  exact ⟨lo, hi, rfl, hb, q _ _ jseq_rng r1 (x0.trans x1) fun a ha => a1 a (a0 a ha)⟩
theorem flatD_succ {ds : List PyData} {i : Nat} {d : PyData} (h : ds[i]? = some d) (f : PyData → List PyData) : (ds.take (i + 1)).flatMap f = (ds.take i).flatMap f ++ f d := flat_succ h f
/-- [elt for tg in .. for tg1 in ..], the rest left as it is -/
theorem lc2G_run {σ : List (Option V)} {H : Hp} {Q : VK} {elt tg iter tg1 iter1 : Expr} {scope : Scope} (own : List (Str × Nat)) (vs1 : List Nat) {g g1 : TG} {ds : List PyData} (es : PyData → List PyData) (gA : PyData → List DV) (gB : PyData → PyData → List DV) (y : PyData → PyData → PyData)
    (hc : X.calm = true) (hN : X.N.Nodup) (hi : EI X b tg iter S ds S1) (hz : (ds.flatMap fun d => (es d).map (y d)).length ≤ 900) (hB : BlkOk X.N X.env.scope scope own) (hv : ∀ i ∈ vs1, i ∈ own.map (·.2))
    (hpg : ∀ (s : Shared) (H : Hp) (C : Addr) (cl : List (Str × Addr)) (fp : List Addr), PG (X.blk s H scope (compEnvC scope cl C X.env) fp) tg g)
    (hpg1 : ∀ (s : Shared) (H : Hp) (C : Addr) (cl : List (Str × Addr)) (fp : List Addr), PG (X.blk s H scope (compEnvC scope cl C X.env) fp) tg1 g1)
    (hg : ∀ (i : Nat) d, ds[i]? = some d → TGb b (own.map (·.2)) d (gWipe S1.g (own.map (·.2))) (gA d) g)
    (hi1 : ∀ (i : Nat) d, ds[i]? = some d → ∀ Dl acc, EIb X b scope tg1 iter1 ⟨gA d, S1.m ++ [(Dl, .lst acc)]⟩ (es d) ⟨gA d, S1.m ++ [(Dl, .lst acc)]⟩)
    (hg1 : ∀ (i : Nat) d, ds[i]? = some d → ∀ (j : Nat) e, (es d)[j]? = some e → TGb b vs1 e (gWipe (gA d) vs1) (gB d e) g1)
    (he : ∀ (i : Nat) d, ds[i]? = some d → ∀ (j : Nat) e, (es d)[j]? = some e → ∀ Dl acc, EVb X b scope elt ⟨gB d e, S1.m ++ [(Dl, .lst acc)]⟩ (.d (y d e)) ⟨gB d e, S1.m ++ [(Dl, .lst acc)]⟩)
    (r : Rel b S σ H) {z : PyData} (ez : z = .list (ds.flatMap fun d => (es d).map (y d)))
    (q : ∀ v H', VOk b.K (Hd b S1) H' v (.d z) → Rel b S1 σ H' → Ex (hide (Hd b S) H) (hide (Hd b S1) H') → (∀ a ∈ Hd b S, a ∈ Hd b S1) → Q v H') : tLc2 (wI X tg iter) g tYes (wIb X scope tg1 iter1) g1 tYes (wEb X scope elt) (own.map (·.2)) vs1 σ H Q := by
  subst ez
  refine hi σ H r _ fun J H1 js r1 x1 a1 => ?_
  intro D hD
  have nD : D ∉ Hd b S1 := r1.rm.fresh hD
  have hh : ∀ (gg : List DV) (acc : List PyData), Hd b ⟨gg, S1.m ++ [(D, MO.lst acc)]⟩ = Hd b ⟨S1.g, S1.m ++ [(D, MO.lst [])]⟩ := fun gg acc => hd_acc _ _ _ _ _ _
  generalize hHD : Hd b ⟨S1.g, S1.m ++ [(D, MO.lst [])]⟩ = HD at hh
  have hdM : ∀ q, q ∈ HD ↔ (q ∈ Hd b S1 ∨ q = D) := fun q => by
    rw [← hHD]
    unfold Hd DS.as
    simp only [List.map_append, List.mem_append, List.map_cons, List.map_nil, List.mem_singleton]
    constructor
    · rintro (h | h | h)
      · exact .inl (.inl h)
      · exact .inl (.inr h)
      · exact .inr h
    · rintro ((h | h) | h)
      · exact .inl h
      · exact .inr (.inl h)
      · exact .inr (.inr h)
  have rw0 : Rel b ⟨gWipe S1.g (own.map (·.2)), S1.m⟩ (wipe σ (own.map (·.2))) H1 := rel_wipe (g := S1.g) (m := S1.m) r1
  have trk : ∀ {gg : List DV} {acc : List PyData} {H : Hp}, RelM b ⟨gg, S1.m ++ [(D, .lst acc)]⟩ H → ∀ a ∈ HD, H a ≠ none := fun {gg acc H} rm a ha => rm.tracked a (by rw [hh]; exact ha)
  have tot : ∀ i j d, ds[i]? = some d → j < (es d).length → ((ds.take i).flatMap (fun d => (es d).map (y d)) ++ ((es d).take j).map (y d)).length < 1000 := fun i j d hd hj => by
    have hi : i < ds.length := (List.getElem?_eq_some_iff.mp hd).1
    have e1 : ds.flatMap (fun d => (es d).map (y d)) = (ds.take (i + 1)).flatMap (fun d => (es d).map (y d)) ++ (ds.drop (i + 1)).flatMap (fun d => (es d).map (y d)) := by rw [← List.flatMap_append, List.take_append_drop]
    rw [e1, flat_succ hd] at hz
    simp only [List.length_append, List.length_map] at hz ⊢
    have : ((es d).take j).length ≤ (es d).length := by rw [List.length_take]; omega
    omega
  refine ⟨fun i m H => m = ds.length - i ∧ i ≤ ds.length ∧ RelM b ⟨S1.g, S1.m ++ [(D, .lst ((ds.take i).flatMap fun d => (es d).map (y d)))]⟩ H ∧ Ex (hide (Hd b S1) H1) (hide HD H), ⟨_, rfl, Nat.zero_le _, ?_, ?_⟩, ?_⟩
  · exact (r1.addM (a := D) (o := .lst []) (H' := upd H1 D (.lst [])) hD (Ex.new hD) ⟨[], upd_same, .nil⟩).1.rm
  · have := (r1.addM (a := D) (o := .lst []) (H' := upd H1 D (.lst [])) hD (Ex.new hD) ⟨[], upd_same, .nil⟩).2
    rw [← hHD]
    exact this
  · rintro i m H2 ⟨rfl, hle, rm, xx⟩
    obtain ⟨jy, jst⟩ := js i HD H2 xx (trk rm)
    by_cases hlt : i < ds.length
    · obtain ⟨d, hd1⟩ : ∃ d, ds[i]? = some d := ⟨_, List.getElem?_eq_getElem hlt⟩
      obtain ⟨jgo, jyl⟩ := jy d hd1
      refine .inr ⟨jgo, fun H' => RelM b ⟨S1.g, S1.m ++ [(D, .lst ((ds.take (i + 1)).flatMap fun d => (es d).map (y d)))]⟩ H' ∧ Ex (hide (Hd b S1) H1) (hide HD H'), fun H' p => ⟨ds.length - (i + 1), by omega, rfl, hlt, p⟩, fun x H' yy => ?_⟩
      obtain ⟨eg, hd3⟩ := jyl x H' yy
      obtain ⟨rm', xg⟩ := rm.grow eg
      rw [hh] at xg
      have xx' := xx.trans xg
      have rw1 : Rel b ⟨gWipe S1.g (own.map (·.2)), S1.m ++ [(D, .lst ((ds.take i).flatMap fun d => (es d).map (y d)))]⟩ (wipe σ (own.map (·.2))) H' :=
        rel_later rw0 (by rw [hh]; exact xx') (fun q hq => by rw [hh]; exact (hdM q).mpr (.inl hq)) (relM_g rm')
      refine hg i d hd1 x _ H' _ (by show Dp _ _ _ _; rw [hh]; exact hd3) rw1 _ fun σ2 r2 e2 => ?_
      refine ⟨by rw [e2]; exact wipe_wipe σ _ _ fun _ h => h, ?_⟩
      refine tyes_run (A := fun H3 => wIb X scope tg1 iter1 σ2 H3 _) ?_
      intro s0 H0 C cl fp
      refine hi1 i d hd1 D _ s0 H0 C cl fp σ2 H' r2 _ fun J4 H4 js4 r4 x4 a4 => ?_
      rw [hh] at js4 x4
      refine ⟨fun j m H => m = (es d).length - j ∧ j ≤ (es d).length ∧ RelM b ⟨S1.g, S1.m ++ [(D, .lst ((ds.take i).flatMap (fun d => (es d).map (y d)) ++ ((es d).take j).map (y d)))]⟩ H ∧ Ex (hide HD H4) (hide HD H), ⟨_, rfl, Nat.zero_le _, ?_, Ex.refl _⟩, ?_⟩
      · rw [List.take_zero, List.map_nil, List.append_nil]
        exact relM_g r4.rm
      · rintro j k H5 ⟨rfl, hle5, rm5, xx5⟩
        obtain ⟨jy5, jst5⟩ := js4 j HD H5 xx5 (trk rm5)
        by_cases hlt5 : j < (es d).length
        · obtain ⟨e, he1⟩ : ∃ e, (es d)[j]? = some e := ⟨_, List.getElem?_eq_getElem hlt5⟩
          obtain ⟨jgo5, jyl5⟩ := jy5 e he1
          refine .inr ⟨jgo5, fun H' => RelM b ⟨S1.g, S1.m ++ [(D, .lst ((ds.take i).flatMap (fun d => (es d).map (y d)) ++ ((es d).take (j + 1)).map (y d)))]⟩ H' ∧ Ex (hide HD H4) (hide HD H'), fun H' p => ⟨(es d).length - (j + 1), by omega, rfl, hlt5, p⟩, fun x5 H6 yy5 => ?_⟩
          obtain ⟨eg5, he3⟩ := jyl5 x5 H6 yy5
          obtain ⟨rm6, xg6⟩ := rm5.grow eg5
          rw [hh] at xg6
          have xx6 := xx5.trans xg6
          have rw5 : Rel b ⟨gWipe (gA d) vs1, S1.m ++ [(D, .lst ((ds.take i).flatMap (fun d => (es d).map (y d)) ++ ((es d).take j).map (y d)))]⟩ (wipe σ2 vs1) H6 :=
            rel_later (rel_wipe (g := gA d) r4) (by rw [hh, hh]; exact xx6) (fun q hq => by rw [hh] at hq ⊢; exact hq) (relM_g rm6)
          refine hg1 i d hd1 j e he1 x5 _ H6 _ (by show Dp _ _ _ _; rw [hh]; exact he3) rw5 _ fun σ3 r6 e6 => ?_
          refine ⟨by rw [e6]; exact wipe_wipe σ2 _ _ fun _ h => h, ?_⟩
          refine lc_step (tt := tYes) (g0 := S1.g) (M := S1.m) (M' := S1.m) (acc := (ds.take i).flatMap (fun d => (es d).map (y d)) ++ ((es d).take j).map (y d)) (c := true) (d := y d e) rfl r6 (tot i j d hd1 hlt5) (fun Q hQ => hQ H6 r6 (Ex.refl _)) (fun _ => he i d hd1 j e he1 D _) (fun h => nomatch h) fun H' rm' x' => ?_
          rw [hh, hh] at x'
          rw [if_pos rfl, List.append_assoc, ← map_succ he1] at rm'
          exact ⟨rm', xx6.trans x'⟩
        · have ej : j = (es d).length := by omega
          subst ej
          refine .inl ⟨jst5 (Nat.le_refl _), ?_, (xx'.trans x4).trans xx5⟩
          rw [flat_succ hd1]
          rw [List.take_length] at rm5
          exact rm5
    · have ei : i = ds.length := by omega
      subst ei
      refine .inl ⟨jst (Nat.le_refl _), ?_⟩
      rw [List.take_length] at rm
      generalize (ds.flatMap fun d => (es d).map (y d)) = out at rm q
      have r3 : Rel b ⟨S1.g, S1.m ++ [(D, .lst out)]⟩ σ H2 := rel_later (m := S1.m) r1 (by rw [hh]; exact xx) (fun q hq => by rw [hh]; exact (hdM q).mpr (.inl hq)) rm
      have hfx : D ∉ b.fx := fun h => nD (List.mem_append.mpr (.inr (r1.rm.fxs D h)))
      have hin : (D, MO.lst out) ∈ (⟨S1.g, S1.m ++ [(D, .lst out)]⟩ : DS).m := List.mem_append.mpr (.inr (by simp))
      obtain ⟨r4, x4⟩ := r3.frzL hin hfx
      have em : (S1.m ++ [(D, MO.lst out)]).filter (fun p => decide (p.1 ≠ D)) = S1.m := by
        have nd : ((S1.m ++ [(D, MO.lst out)]).map (·.1)).Nodup := r3.rm.nd
        rw [List.map_append] at nd
        have hn : D ∉ S1.m.map (·.1) := fun q => (List.nodup_append.mp nd).2.2 D q D (by simp) rfl
        rw [List.filter_append]
        have e1 : S1.m.filter (fun p => decide (p.1 ≠ D)) = S1.m := List.filter_eq_self.mpr fun p hp => decide_eq_true fun e => hn (List.mem_map.mpr ⟨p, hp, e⟩)
        rw [e1]
        simp
      have hd4 : ∀ gg : List DV, Hd b ⟨gg, (S1.m ++ [(D, MO.lst out)]).filter (fun p => decide (p.1 ≠ D))⟩ = Hd b S1 := fun gg => by rw [em]; rfl
      have x5 : Ex (hide (Hd b S1) H1) (hide (Hd b S1) H2) := by
        rw [hh] at x4
        have x4' := xx.trans x4
        unfold DS.frz at x4'
        rw [hd4] at x4'
        exact x4'
      have rm5 : RelM b S1 H2 := by
        have := r4.rm
        unfold DS.frz at this
        rw [em] at this
        exact relM_g this
      refine q _ H2 ?_ (rel_later (m := S1.m) r1 x5 (fun q hq => hq) rm5) (x1.trans x5) a1
      obtain ⟨us, e1, e2⟩ := r3.rm.mem _ hin
      refine .lst (.inl (.inl (by rw [hide_out nD]; exact e1))) (DpAll.ex (fun q u e => ?_) e2)
      obtain ⟨q1, q2⟩ := hide_some e
      rw [hide_out fun z => q2 (by rw [hh]; exact (hdM q).mpr (.inl z))]
      exact q1
/-- [elt for tg in .. for tg1 in ..], the rest left as it is -/
theorem ev_lc2G {elt tg iter tg1 iter1 : Expr} {scope : Scope} (own : List (Str × Nat)) (vs1 : List Nat) {g g1 : TG} {ds : List PyData} (es : PyData → List PyData) (gA : PyData → List DV) (gB : PyData → PyData → List DV) (y : PyData → PyData → PyData)
    (hc : X.calm = true) (hN : X.N.Nodup) (hi : EI X b tg iter S ds S1) (hz : (ds.flatMap fun d => (es d).map (y d)).length ≤ 900) (hB : BlkOk X.N X.env.scope scope own) (hv : ∀ i ∈ vs1, i ∈ own.map (·.2))
    (hpg : ∀ (s : Shared) (H : Hp) (C : Addr) (cl : List (Str × Addr)) (fp : List Addr), PG (X.blk s H scope (compEnvC scope cl C X.env) fp) tg g)
    (hpg1 : ∀ (s : Shared) (H : Hp) (C : Addr) (cl : List (Str × Addr)) (fp : List Addr), PG (X.blk s H scope (compEnvC scope cl C X.env) fp) tg1 g1)
    (hg : ∀ (i : Nat) d, ds[i]? = some d → TGb b (own.map (·.2)) d (gWipe S1.g (own.map (·.2))) (gA d) g)
    (hi1 : ∀ (i : Nat) d, ds[i]? = some d → ∀ Dl acc, EIb X b scope tg1 iter1 ⟨gA d, S1.m ++ [(Dl, .lst acc)]⟩ (es d) ⟨gA d, S1.m ++ [(Dl, .lst acc)]⟩)
    (hg1 : ∀ (i : Nat) d, ds[i]? = some d → ∀ (j : Nat) e, (es d)[j]? = some e → TGb b vs1 e (gWipe (gA d) vs1) (gB d e) g1)
    (he : ∀ (i : Nat) d, ds[i]? = some d → ∀ (j : Nat) e, (es d)[j]? = some e → ∀ Dl acc, EVb X b scope elt ⟨gB d e, S1.m ++ [(Dl, .lst acc)]⟩ (.d (y d e)) ⟨gB d e, S1.m ++ [(Dl, .lst acc)]⟩)
    {z : PyData} (ez : z = .list (ds.flatMap fun d => (es d).map (y d)))
    (hf : ∀ x : Value, foldedSetIterable iter X.env x = pure x := by intro _; rfl) (hf1 : ∀ (env : Env) (x : Value), foldedSetIterable iter1 env x = pure x := by intro _ _; rfl) : EV X b (.ListComp elt [⟨tg, iter, [], 0⟩, ⟨tg1, iter1, [], 0⟩] scope pos) S (.d z) S1 := by
  intro σ H r Q q
  exact wE_of (pe_lc2 (wi1 := wIb X scope tg1 iter1) hc hN (piW tg iter) hB hv hpg (fun _ _ _ _ _ => pts_nil) (fun s H0 C cl fp => piWb (X := X) scope tg1 iter1 s H0 C cl fp) hpg1 (fun _ _ _ _ _ => pts_nil) (peWb scope elt) hf hf1) (lc2G_run own vs1 es gA gB y hc hN hi hz hB hv hpg hpg1 hg hi1 hg1 he r ez q)
/-- name = [elt for tg in .. for tg1 in ..], on one line -/
theorem sy_setLc2G {D : DE} {lpos py : Pos} {k : Nat} {nm : Str} {elt tg iter tg1 iter1 : Expr} {scope : Scope} (own : List (Str × Nat)) (vs1 : List Nat) {g g1 : TG} {ds : List PyData} (es : PyData → List PyData) (gA : PyData → List DV) (gB : PyData → PyData → List DV) (y : PyData → PyData → PyData)
    (hc : X.calm = true) (hN : X.N.Nodup) (hi : EI X b tg iter S ds S1) (hz : (ds.flatMap fun d => (es d).map (y d)).length ≤ 900) (hB : BlkOk X.N X.env.scope scope own) (hv : ∀ i ∈ vs1, i ∈ own.map (·.2))
    (hpg : ∀ (s : Shared) (H : Hp) (C : Addr) (cl : List (Str × Addr)) (fp : List Addr), PG (X.blk s H scope (compEnvC scope cl C X.env) fp) tg g)
    (hpg1 : ∀ (s : Shared) (H : Hp) (C : Addr) (cl : List (Str × Addr)) (fp : List Addr), PG (X.blk s H scope (compEnvC scope cl C X.env) fp) tg1 g1)
    (hg : ∀ (i : Nat) d, ds[i]? = some d → TGb b (own.map (·.2)) d (gWipe S1.g (own.map (·.2))) (gA d) g)
    (hi1 : ∀ (i : Nat) d, ds[i]? = some d → ∀ Dl acc, EIb X b scope tg1 iter1 ⟨gA d, S1.m ++ [(Dl, .lst acc)]⟩ (es d) ⟨gA d, S1.m ++ [(Dl, .lst acc)]⟩)
    (hg1 : ∀ (i : Nat) d, ds[i]? = some d → ∀ (j : Nat) e, (es d)[j]? = some e → TGb b vs1 e (gWipe (gA d) vs1) (gB d e) g1)
    (he : ∀ (i : Nat) d, ds[i]? = some d → ∀ (j : Nat) e, (es d)[j]? = some e → ∀ Dl acc, EVb X b scope elt ⟨gB d e, S1.m ++ [(Dl, .lst acc)]⟩ (.d (y d e)) ⟨gB d e, S1.m ++ [(Dl, .lst acc)]⟩)
    {z : PyData} (ez : z = .list (ds.flatMap fun d => (es d).map (y d)))
    (hy : X.N[k]? = some nm) (hyl : X.env.scope.names.lookup nm = some .local) (hl : k < S1.g.length) (hd : D.nx (S1.put k (.d z))) (hsw : swapsWith (.ListComp elt [⟨tg, iter, [], 0⟩, ⟨tg1, iter1, [], 0⟩] scope lpos) (some (.Name nm py)) pos.line X.env = pure true)
    (hf : ∀ x : Value, foldedSetIterable iter X.env x = pure x := by intro _; rfl) (hf1 : ∀ (env : Env) (x : Value), foldedSetIterable iter1 env x = pure x := by intro _ _; rfl) : SY X b (.Assign [.Name nm py] (.ListComp elt [⟨tg, iter, [], 0⟩, ⟨tg1, iter1, [], 0⟩] scope lpos) pos) S D := by
  intro σ H r E kE
  refine w1_of (ps_setLc2 (wi1 := wIb X scope tg1 iter1) hc hN hy hyl hsw (piW tg iter) hB hv hpg (fun _ _ _ _ _ => pts_nil) (fun s H0 C cl fp => piWb (X := X) scope tg1 iter1 s H0 C cl fp) hpg1 (fun _ _ _ _ _ => pts_nil) (peWb scope elt) hf hf1) ?_
  exact lc2G_run own vs1 es gA gB y hc hN hi hz hB hv hpg hpg1 hg hi1 hg1 he r (Q := fun x H1 => gName k x σ H1 E.nx) ez fun v H' k' r' x' _ => kE.nx _ _ _ hd (r'.put hl k') x'
end
end DX
end
section
set_option Elab.async false
set_option linter.all false
set_option maxRecDepth 100000
set_option maxHeartbeats 4000000
namespace DX
open PySem PySem.Spec PyProof.Rows L2
set_option autoImplicit false
section
variable {X : Cx} {b : Bs} {S S1 S2 S3 S' : DS} {x y z : DV} {pos : Pos} {D : DE}
/-- [elt for tg in .. if ..], whatever is walked -/
theorem lcG_run {σ : List (Option V)} {H : Hp} {Q : VK} {elt tg iter : Expr} {ifs : List Expr} {scope : Scope} {own : List (Str × Nat)} {g : TG} {tt : TT} {ds : List PyData} {gT : PyData → List DV} {Ms : Nat → List (Addr × MO)} {c : Nat → Bool} {y : Nat → PyData}
    (hc : X.calm = true) (hN : X.N.Nodup) (hi : EI X b tg iter S ds S1) (hz : ds.length ≤ 1000) (hB : BlkOk X.N X.env.scope scope own) (h0 : Ms 0 = S1.m) (hM : ∀ i, (Ms i).map (·.1) = S1.m.map (·.1))
    (hpg : ∀ (s : Shared) (H : Hp) (C : Addr) (cl : List (Str × Addr)) (fp : List Addr), PG (X.blk s H scope (compEnvC scope cl C X.env) fp) tg g)
    (hpt : ∀ (s : Shared) (H : Hp) (C : Addr) (cl : List (Str × Addr)) (fp : List Addr), PTs (X.blk s H scope (compEnvC scope cl C X.env) fp) ifs tt)
    (hg : ∀ (i : Nat) d, ds[i]? = some d → TGb b (own.map (·.2)) d (gWipe S1.g (own.map (·.2))) (gT d) g)
    (ht : ∀ (i : Nat) d, ds[i]? = some d → ∀ Dl acc, TTok b tt ⟨gT d, Ms i ++ [(Dl, .lst acc)]⟩ (c i))
    (he : ∀ (i : Nat) d, ds[i]? = some d → c i = true → ∀ Dl acc, EVb X b scope elt ⟨gT d, Ms i ++ [(Dl, .lst acc)]⟩ (.d (y i)) ⟨gT d, Ms (i + 1) ++ [(Dl, .lst acc)]⟩) (hno : ∀ (i : Nat) d, ds[i]? = some d → c i = false → Ms (i + 1) = Ms i)
    (r : Rel b S σ H) {z : PyData} (ez : z = .list (outs c y ds.length)) (eS : S' = ⟨S1.g, Ms ds.length⟩)
    (q : ∀ v H', VOk b.K (Hd b S') H' v (.d z) → Rel b S' σ H' → Ex (hide (Hd b S) H) (hide (Hd b S') H') → (∀ a ∈ Hd b S, a ∈ Hd b S') → Q v H') : tLc (wI X tg iter) g tt (wEb X scope elt) (own.map (·.2)) σ H Q := by
  subst ez
  subst eS
  refine hi σ H r _ fun J H1 js r1 x1 a1 => ?_
  intro D hD
  obtain ⟨Pv, p0, pe, pg, pt, ps, pd⟩ := lc_core2 (own := own) (Q := Q) (X := X) (elt := elt) (scope := scope) (tt := tt) hz r1 h0 hM hg (fun i d hd Dl acc σ2 H r Q q => ht i d hd Dl acc σ2 H r Q q) he hno (fun v H' k' r' x' => q v H' k' r' (x1.trans x') fun c hc => by
    have : Hd b ⟨S1.g, Ms ds.length⟩ = Hd b S1 := by unfold Hd DS.as; rw [hM]
    rw [this]; exact a1 c hc) D hD
  refine ⟨fun i m H => m = ds.length - i ∧ i ≤ ds.length ∧ Pv i H, ⟨_, rfl, Nat.zero_le _, p0⟩, ?_⟩
  rintro i m H2 ⟨rfl, hle, p⟩
  obtain ⟨jy, jst⟩ := js i (Hd b S1 ++ [D]) H2 (pe i H2 p) (pt i H2 p)
  by_cases hlt : i < ds.length
  · obtain ⟨d, hd1⟩ : ∃ d, ds[i]? = some d := ⟨_, List.getElem?_eq_getElem hlt⟩
    obtain ⟨jgo, jyl⟩ := jy d hd1
    refine .inr ⟨jgo, Pv (i + 1), fun H' p' => ⟨ds.length - (i + 1), by omega, rfl, hlt, p'⟩, fun x H' yy => ?_⟩
    obtain ⟨eg, hd3⟩ := jyl x H' yy
    exact ps i d x H' hd1 hd3 (pg i H2 H' p eg)
  · have ei : i = ds.length := by omega
    subst ei
    exact .inl ⟨jst (Nat.le_refl _), pd H2 p⟩
/-- [elt for tg in .. if ..], whatever is walked -/
theorem ev_lcG {elt tg iter : Expr} {ifs : List Expr} {scope : Scope} {own : List (Str × Nat)} {g : TG} {tt : TT} {ds : List PyData} {gT : PyData → List DV} {Ms : Nat → List (Addr × MO)} {c : Nat → Bool} {y : Nat → PyData}
    (hc : X.calm = true) (hN : X.N.Nodup) (hi : EI X b tg iter S ds S1) (hz : ds.length ≤ 1000) (hB : BlkOk X.N X.env.scope scope own) (h0 : Ms 0 = S1.m) (hM : ∀ i, (Ms i).map (·.1) = S1.m.map (·.1))
    (hpg : ∀ (s : Shared) (H : Hp) (C : Addr) (cl : List (Str × Addr)) (fp : List Addr), PG (X.blk s H scope (compEnvC scope cl C X.env) fp) tg g)
    (hpt : ∀ (s : Shared) (H : Hp) (C : Addr) (cl : List (Str × Addr)) (fp : List Addr), PTs (X.blk s H scope (compEnvC scope cl C X.env) fp) ifs tt)
    (hg : ∀ (i : Nat) d, ds[i]? = some d → TGb b (own.map (·.2)) d (gWipe S1.g (own.map (·.2))) (gT d) g)
    (ht : ∀ (i : Nat) d, ds[i]? = some d → ∀ Dl acc, TTok b tt ⟨gT d, Ms i ++ [(Dl, .lst acc)]⟩ (c i))
    (he : ∀ (i : Nat) d, ds[i]? = some d → c i = true → ∀ Dl acc, EVb X b scope elt ⟨gT d, Ms i ++ [(Dl, .lst acc)]⟩ (.d (y i)) ⟨gT d, Ms (i + 1) ++ [(Dl, .lst acc)]⟩) (hno : ∀ (i : Nat) d, ds[i]? = some d → c i = false → Ms (i + 1) = Ms i)
    (hf : ∀ x : Value, foldedSetIterable iter X.env x = pure x := by intro _; rfl)
    {z : PyData} (ez : z = .list (outs c y ds.length)) (eS : S' = ⟨S1.g, Ms ds.length⟩) : EV X b (.ListComp elt [⟨tg, iter, ifs, 0⟩] scope pos) S (.d z) S' := fun σ H r Q q =>
  wE_of (pe_lc hc hN (piW tg iter) hB hpg hpt (peWb scope elt) hf) (lcG_run hc hN hi hz hB h0 hM hpg hpt hg ht he hno r ez eS q)
/-- name = [..], on one line -/
theorem sy_setLcG {lpos py : Pos} {k : Nat} {nm : Str} {elt tg iter : Expr} {ifs : List Expr} {scope : Scope} {own : List (Str × Nat)} {g : TG} {tt : TT} {ds : List PyData} {gT : PyData → List DV} {Ms : Nat → List (Addr × MO)} {c : Nat → Bool} {y : Nat → PyData}
    (hc : X.calm = true) (hN : X.N.Nodup) (hi : EI X b tg iter S ds S1) (hz : ds.length ≤ 1000) (hB : BlkOk X.N X.env.scope scope own) (h0 : Ms 0 = S1.m) (hM : ∀ i, (Ms i).map (·.1) = S1.m.map (·.1))
    (hpg : ∀ (s : Shared) (H : Hp) (C : Addr) (cl : List (Str × Addr)) (fp : List Addr), PG (X.blk s H scope (compEnvC scope cl C X.env) fp) tg g)
    (hpt : ∀ (s : Shared) (H : Hp) (C : Addr) (cl : List (Str × Addr)) (fp : List Addr), PTs (X.blk s H scope (compEnvC scope cl C X.env) fp) ifs tt)
    (hg : ∀ (i : Nat) d, ds[i]? = some d → TGb b (own.map (·.2)) d (gWipe S1.g (own.map (·.2))) (gT d) g)
    (ht : ∀ (i : Nat) d, ds[i]? = some d → ∀ Dl acc, TTok b tt ⟨gT d, Ms i ++ [(Dl, .lst acc)]⟩ (c i))
    (he : ∀ (i : Nat) d, ds[i]? = some d → c i = true → ∀ Dl acc, EVb X b scope elt ⟨gT d, Ms i ++ [(Dl, .lst acc)]⟩ (.d (y i)) ⟨gT d, Ms (i + 1) ++ [(Dl, .lst acc)]⟩) (hno : ∀ (i : Nat) d, ds[i]? = some d → c i = false → Ms (i + 1) = Ms i)
    {z : PyData} (ez : z = .list (outs c y ds.length)) (eS : S' = ⟨S1.g, Ms ds.length⟩)
    (hy : X.N[k]? = some nm) (hyl : X.env.scope.names.lookup nm = some .local) (hl : k < S'.g.length) (hd : D.nx (S'.put k (.d z))) (hsw : swapsWith (.ListComp elt [⟨tg, iter, ifs, 0⟩] scope lpos) (some (.Name nm py)) pos.line X.env = pure true)
    (hf : ∀ x : Value, foldedSetIterable iter X.env x = pure x := by intro _; rfl) : SY X b (.Assign [.Name nm py] (.ListComp elt [⟨tg, iter, ifs, 0⟩] scope lpos) pos) S D := by
  intro σ H r E kE
  refine w1_of (ps_setLc hc hN hy hyl hsw (piW tg iter) hB hpg hpt (peWb scope elt) hf) ?_
  exact lcG_run hc hN hi hz hB h0 hM hpg hpt hg ht he hno r (Q := fun x H1 => gName k x σ H1 E.nx) ez eS fun v H' k' r' x' _ => kE.nx _ _ _ hd (r'.put hl k') x'
/-- no test, the rest left as it is, what comes out told by places -/
theorem ev_lcG0 {elt tg iter : Expr} {scope : Scope} (own : List (Str × Nat)) {g : TG} {ds : List PyData} (gT : PyData → List DV) (q : PyData → PyData)
    (hc : X.calm = true) (hN : X.N.Nodup) (hi : EI X b tg iter S ds S1) (hz : ds.length ≤ 1000) (hB : BlkOk X.N X.env.scope scope own)
    (hpg : ∀ (s : Shared) (H : Hp) (C : Addr) (cl : List (Str × Addr)) (fp : List Addr), PG (X.blk s H scope (compEnvC scope cl C X.env) fp) tg g)
    (hg : ∀ (i : Nat) d, ds[i]? = some d → TGb b (own.map (·.2)) d (gWipe S1.g (own.map (·.2))) (gT d) g)
    (he : ∀ (i : Nat) d, ds[i]? = some d → ∀ Dl acc, EVb X b scope elt ⟨gT d, S1.m ++ [(Dl, .lst acc)]⟩ (.d (q d)) ⟨gT d, S1.m ++ [(Dl, .lst acc)]⟩)
    {z : PyData} (ez : z = .list (ds.map q))
    (hf : ∀ x : Value, foldedSetIterable iter X.env x = pure x := by intro _; rfl) : EV X b (.ListComp elt [⟨tg, iter, [], 0⟩] scope pos) S (.d z) S1 := by
  refine ev_lcG (tt := tYes) (own := own) (gT := gT) (Ms := fun _ => S1.m) (c := fun _ => true) (y := fun i => match ds[i]? with | some d => q d | none => .none) hc hN hi hz hB rfl (fun _ => rfl) hpg (fun _ _ _ _ _ => pts_nil) hg (fun i d hd Dl acc => ttok_yes) (fun i d hd _ Dl acc => by rw [show (match ds[i]? with | some d => q d | none => .none) = q d by rw [hd]]; exact he i d hd Dl acc) (fun _ _ _ _ => rfl) hf (by rw [ez]; have := outs_picked (ds := ds) (f := fun _ => true) (g := q) (c := fun _ => true) (y := fun i => match ds[i]? with | some d => q d | none => .none) (fun i d hd => ⟨rfl, by simp only [hd]⟩); rw [this, List.filter_eq_self.mpr (fun _ _ => rfl)]) rfl
/-- one test -/
theorem ev_lcG1 {elt tg iter t : Expr} {scope : Scope} (own : List (Str × Nat)) {g : TG} {ds : List PyData} (gT : PyData → List DV) {f : PyData → Bool} (q : PyData → PyData)
    (hc : X.calm = true) (hN : X.N.Nodup) (hi : EI X b tg iter S ds S1) (hz : ds.length ≤ 1000) (hB : BlkOk X.N X.env.scope scope own)
    (hpg : ∀ (s : Shared) (H : Hp) (C : Addr) (cl : List (Str × Addr)) (fp : List Addr), PG (X.blk s H scope (compEnvC scope cl C X.env) fp) tg g)
    (hg : ∀ (i : Nat) d, ds[i]? = some d → TGb b (own.map (·.2)) d (gWipe S1.g (own.map (·.2))) (gT d) g)
    (ht : ∀ (i : Nat) d, ds[i]? = some d → ∀ Dl acc, ETb X b scope t ⟨gT d, S1.m ++ [(Dl, .lst acc)]⟩ (f d) ⟨gT d, S1.m ++ [(Dl, .lst acc)]⟩)
    (he : ∀ (i : Nat) d, ds[i]? = some d → f d = true → ∀ Dl acc, EVb X b scope elt ⟨gT d, S1.m ++ [(Dl, .lst acc)]⟩ (.d (q d)) ⟨gT d, S1.m ++ [(Dl, .lst acc)]⟩)
    {z : PyData} (ez : z = .list ((ds.filter f).map q))
    (hf : ∀ x : Value, foldedSetIterable iter X.env x = pure x := by intro _; rfl) : EV X b (.ListComp elt [⟨tg, iter, [t], 0⟩] scope pos) S (.d z) S1 := by
  refine ev_lcG (tt := wTb X scope t) (own := own) (gT := gT) (Ms := fun _ => S1.m) (c := fun i => match ds[i]? with | some d => f d | none => false) (y := fun i => match ds[i]? with | some d => q d | none => .none) hc hN hi hz hB rfl (fun _ => rfl) hpg (fun s H C cl fp => pts_one (ptWb _ _ s H C cl fp)) hg (fun i d hd Dl acc => by rw [show (match ds[i]? with | some d => f d | none => false) = f d by rw [hd]]; exact ttok_one (ht i d hd Dl acc)) (fun i d hd hc Dl acc => by rw [show (match ds[i]? with | some d => q d | none => .none) = q d by rw [hd]]; exact he i d hd (by rw [show (match ds[i]? with | some d => f d | none => false) = f d by rw [hd]] at hc; exact hc) Dl acc) (fun _ _ _ _ => rfl) hf (by rw [ez, outs_picked (f := f) (g := q)]; intro i d hd; constructor <;> simp only [hd]) rfl
/-- zip of two tuples -/
theorem ei_zipT {e1 e2 : Expr} {elts : List Expr} {kk : Nat} {tpos p1 p2 : Pos} {ds es : List PyData} (hK : X.K = b.K) (hg : Gl X "zip") (hm : X.mg "zip" = none) (h1 : EV X b e1 S (.d (.tuple ds)) S2) (h2 : EV X b e2 S2 (.d (.tuple es)) S1)
    (hs1 : starEach [e1, e2] X.env = (false, eval e1 X.env) :: starEach [e2] X.env := by rfl) (hs2 : starEach [e2] X.env = (false, eval e2 X.env) :: starEach [] X.env := by rfl) (hpl : (backTo p2 (starEach [e2] X.env)).any (·.1) = false := by rfl) :
    EI X b (.Tuple elts kk tpos) (.Call (.Name "zip" p1) [e1, e2] [] p2) S ((ds.zip es).map fun p => .tuple [p.1, p.2]) S1 := by
  intro σ H r R q
  refine wI_of (RZ.pi_zipA hg hm (pa_cons (peW e1) (pa_cons (peW e2) pa_nil hs2) hs1) hs1 hpl) (h1 σ H r _ fun v H0 k0 r0 x0 a0 => ?_)
  refine h2 σ H0 r0 _ fun v' H1 k1 r1 x1 a1 => ?_
  have k0' := k0.ex x1 a1
  cases k0' with
  | tup hs1' ha1 =>
    rename_i pa xs
    cases k1 with
    | tup hs2' ha2 =>
      rename_i pb ys
      refine ⟨pa, pb, xs, ys, rfl, .inr ⟨by rw [hK]; exact ex_t hide_ex hs1', by rw [hK]; exact ex_t hide_ex hs2', q _ _ ?_ r1 (x0.trans x1) fun a ha => a1 a (a0 a ha)⟩⟩
      rw [hK]
      intro i A H2 x hA
      have q1 : SqT b.K H2 pa xs := ex_t hide_ex (ex_t x hs1')
      have q2 : SqT b.K H2 pb ys := ex_t hide_ex (ex_t x hs2')
      have l1 := DpAll.len ha1
      have l2 := DpAll.len ha2
      refine ⟨fun d hd => ?_, fun h => ?_⟩
      · rw [List.getElem?_map] at hd
        cases hz : (ds.zip es)[i]? with
        | none => rw [hz] at hd; cases hd
        | some p =>
          rw [hz] at hd
          cases (Option.some.inj hd)
          obtain ⟨z1, z2⟩ := List.getElem?_zip_eq_some.mp hz
          obtain ⟨u, e1, e2⟩ := dpAll_get ha1 z1
          obtain ⟨w, e3, e4⟩ := dpAll_get ha2 z2
          refine ⟨⟨xs, ys, u, w, q1, q2, e1, e3⟩, fun y H' yy => ?_⟩
          obtain ⟨T, a, c, rfl, hT, rfl, y1, y2⟩ := yy
          have := y1 xs q1
          rw [e1] at this
          cases this
          have := y2 ys q2
          rw [e3] at this
          cases this
          have ex := Ex.new (o := .tup [u, w]) hT
          have nA : T ∉ A := fun h => hA T h hT
          have xg : Ex (hide A H2) (hide A (upd H2 T (.tup [u, w]))) := fun c o e => by
            obtain ⟨f1, f2⟩ := hide_some e
            rw [hide_out f2]
            exact ex c o f1
          exact ⟨ex, .tup (.inl (.inl (hide_new nA))) (.cons (Dp.ex (x.trans xg) e2) (.cons (Dp.ex (x.trans xg) e4) .nil))⟩
      · rw [List.length_map, List.length_zip] at h
        exact ⟨xs, ys, q1, q2, by omega⟩
/-- t[i:] of a tuple -/
theorem ev_fromT {e1 : Expr} {ds : List PyData} {n : Nat} {k} {p2 p3 : Pos} (hK : X.K = b.K) (h1 : EV X b e1 S (.d (.tuple ds)) S1) : EV X b (.Subscript e1 (.Slice (some (.Constant (.int (n : Int)) k p3)) none none p2) pos) S (.d (.tuple (ds.drop n))) S1 := by
  intro σ H r Q q
  refine wE_of (pe_slice sl_tupA (peW _) (po_some pe_int) po_none) (h1 σ H r _ fun v H1 k1 r1 x1 a1 => ?_)
  cases k1 with
  | tup hs ha =>
    rename_i c xs
    refine ⟨(n : Int), rfl, c, xs, rfl, by rw [hK]; exact ex_t hide_ex hs, fun hw => ?_, fun hw p hp => ?_⟩
    · have e0 : ds.drop n = ds := by
        obtain ⟨w1, _⟩ := hw
        rw [HT.sIx_nat] at w1
        have l := DpAll.len ha
        rcases Nat.eq_zero_or_pos n with e | e
        · rw [e]; rfl
        · have : ds = [] := List.length_eq_zero_iff.mp (by omega)
          rw [this]; simp
      refine q _ _ ?_ r1 x1 a1
      rw [e0]
      exact .tup hs ha
    · rw [cut_from]
      obtain ⟨r2, x2⟩ := r1.grow (Ex.new (o := .tup (xs.drop n)) hp)
      exact q _ _ (.tup (.inl (.inl (hide_new (r1.rm.fresh hp)))) (DpAll.ex x2 (dpAll_drop ha n))) r2 (x1.trans x2) a1
/-! tuples of ints compared -/
def intsD (ns : List Int) : PyData := .tuple (ns.map .int)
theorem dp_ints {K : PySem.W.Frag} {H : Hp} : ∀ {ns : List Int} {xs : List V}, DpAll K H xs (ns.map PyData.int) → xs = ns.map V.int
  | [], _, h => by cases h; rfl
  | n :: ns, _, h => by
    cases h with
    | cons h hs =>
      cases h
      rw [dp_ints hs]
      rfl
theorem rv_ltT {ns ms : List Int} (hK : X.K = b.K) : RV b (rLtT X.K) (.d (intsD ns)) (.d (intsD ms)) S (.d (.bool (HT.lexLt ns ms))) := by
  intro H u v rm hu hv Q q
  unfold intsD at hu hv
  cases hu with
  | tup h1 a1 =>
    cases hv with
    | tup h2 a2 =>
      rw [dp_ints a1] at h1
      rw [dp_ints a2] at h2
      exact ⟨_, _, ns, ms, rfl, rfl, by rw [hK]; exact ex_t hide_ex h1, by rw [hK]; exact ex_t hide_ex h2, q _ H (.bl _) (fun _ h => h) (Ex.refl _)⟩
theorem ev_ltT {e1 e2 : Expr} {ns ms : List Int} (hK : X.K = b.K) (hu : X.A.units < cLine) (h1 : EV X b e1 S (.d (intsD ns)) S1) (h2 : EV X b e2 S1 (.d (intsD ms)) S2) : EV X b (.Compare e1 [.Lt] [e2] pos) S (.d (.bool (HT.lexLt ns ms))) S2 := ev_cmp (op_ltT hu) (nobehind _ (by decide) (by decide)) h1 h2 (rv_ltT hK)
/-- i in a tuple of ints -/
theorem inV_ints (i : Int) : ∀ ns : List Int, inV (.int i) (ns.map V.int) = decide (i ∈ ns) := by
  intro ns
  induction ns with
  | nil => rfl
  | cons n ns ih =>
    have e : inV (.int i) ((n :: ns).map V.int) = (eqV (.int n) (.int i) || inV (.int i) (ns.map V.int)) := rfl
    rw [e, ih]
    have e2 : eqV (.int n) (.int i) = decide (i = n) := by
      by_cases h : i = n
      · subst h; simp [eqV]
      · have h' : ¬ n = i := fun q => h q.symm
        simp [eqV, h, h']
    rw [e2]
    simp
theorem rv_inT {i : Int} {ns : List Int} (hK : X.K = b.K) : RV b (rIn X.K false) (.d (.int i)) (.d (intsD ns)) S (.d (.bool (decide (i ∈ ns)))) := by
  intro H u v rm hu hv Q q
  unfold intsD at hv
  cases hu
  cases hv with
  | tup h2 a2 =>
    rw [dp_ints a2] at h2
    refine ⟨_, _, rfl, .inr (by rw [hK]; exact ex_t hide_ex h2), rfl, by simp [flatV], ?_⟩
    rw [if_neg (by decide), inV_ints]
    exact q _ H (.bl _) (fun _ h => h) (Ex.refl _)
theorem et_inT {e1 e2 : Expr} {i : Int} {ns : List Int} (hK : X.K = b.K) (h1 : EV X b e1 S (.d (.int i)) S1) (h2 : EV X b e2 S1 (.d (intsD ns)) S2) (hm : behindInMarks .In e2 = false := by rfl) : ET X b (.Compare e1 [.In] [e2] pos) S (decide (i ∈ ns)) S2 := et_cmp op_in_seq hm h1 h2 (rv_inT hK)
/-- -i -/
theorem ev_neg {e : Expr} {i : Int} (h : EV X b e S (.d (.int i)) S1) : EV X b (.UnaryOp .USub e pos) S (.d (.int (-i))) S1 := by
  intro σ H r Q q
  refine wE_of (pe_un un_neg (peW _)) (h σ H r _ fun v H1 k1 r1 x1 a1 => ?_)
  cases k1
  exact ⟨i, rfl, q _ H1 (.int _) r1 x1 a1⟩
/-- list(t) -/
theorem rc_listT {ds : List PyData} (hK : X.K = b.K) : RC b (fun xs H Q => ∃ p ys, xs = [V.ref p] ∧ (SqL X.K H p ys ∨ SqT X.K H p ys) ∧ ∀ l, H l = none → Q (.ref l) (upd H l (.lst ys))) [.d (.tuple ds)] S (.d (.list ds)) := by
  intro H vs rm hv Q q
  obtain ⟨v, rfl, k⟩ := vall1 hv
  cases k with
  | tup hs ha =>
    refine ⟨_, _, rfl, .inr (by rw [hK]; exact ex_t hide_ex hs), fun l hl => ?_⟩
    obtain ⟨r2, x2⟩ := rm.grow (Ex.new hl)
    exact q _ _ (.lst (.inl (.inl (hide_new (rm.fresh hl)))) (DpAll.ex x2 ha)) (Ex.new hl)
/-- t * k -/
theorem rv_repT {ds : List PyData} {k : Int} (hK : X.K = b.K) (hne : ds ≠ []) (h2 : 2 ≤ k) (h3 : k ≤ 1000) (hz : ds.length ≤ 1000) : RV b (rRepT X.K) (.d (.tuple ds)) (.d (.int k)) S (.d (.tuple (List.replicate k.toNat ds).flatten)) := by
  intro H u v rm hu hv Q q
  cases hv
  cases hu with
  | tup h1 a1 =>
    rename_i c xs
    have l := DpAll.len a1
    refine ⟨c, k, xs, rfl, rfl, by rw [hK]; exact ex_t hide_ex h1, fun e => hne (List.length_eq_zero_iff.mp (by rw [← l, e]; rfl)), h2, h3, by omega, fun p hp => ?_⟩
    obtain ⟨r2, x2⟩ := rm.grow (Ex.new (o := .tup (List.replicate k.toNat xs).flatten) hp)
    refine q _ _ (.tup (.inl (.inl (hide_new (rm.fresh hp)))) (DpAll.ex x2 ?_)) (fun σ r => (r.grow (Ex.new hp)).1) x2
    generalize k.toNat = n
    induction n with
    | zero => exact .nil
    | succ n ih => exact DpAll.append a1 ih
/-- sum(xs) -/
theorem rc_sum {ns : List Int} (hK : X.K = b.K) : RC b (rSum X.K) [.d (.list (ns.map .int))] S (.d (.int ns.sum)) := by
  intro H vs rm hv Q q
  obtain ⟨v, rfl, k⟩ := vall1 hv
  cases k with
  | lst hs ha =>
    rw [dp_ints ha] at hs
    exact ⟨_, ns, rfl, by rw [hK]; exact ex_l hide_ex hs, q _ H (.int _) (Ex.refl _)⟩
end
end DX
end
section
set_option Elab.async false
set_option linter.all false
set_option maxRecDepth 100000
set_option maxHeartbeats 4000000
/-! itertools.combinations: how it is made, what it hands out -/
namespace CB
open PySem PySem.Spec
open Sem (wp)
theorem mro_cb : mroOf (.type "itertools.combinations") = pure [.type "itertools.combinations", .type "object"] := by rw [mroOf_type]; kernel_rfl
theorem lookup_cb_new : typeLookup (.type "itertools.combinations") "__new__" = pure (some (.builtin "itertools.combinations.__new__")) := by rw [typeLookup_type, builtinLookup_eq_fast]; kernel_rfl
theorem sub_cb : isSubtype (.type "itertools.combinations") (.type "itertools.combinations") = pure true := by rw [isSubtype_type]; kernel_rfl
theorem slot_cb_init : Slot "itertools.combinations" "__init__" "object.__init__" :=
  .of (owner := "object") (n := "__init__") (by rw [typeLookup_type, builtinLookup_eq_fast]; kernel_rfl) (by decide +kernel) (by decide +kernel) (by decide +kernel)
    (by first | exact .inl (by decide +kernel) | exact .inr (by decide +kernel)) (by rw [isSubtype_type]; kernel_rfl)
theorem called_cb : TypeCalled "itertools.combinations" "itertools.combinations.__new__" "object.__init__" :=
  ⟨by decide +kernel, by decide +kernel, ⟨_, _, mro_cb⟩, madeBy_type mro_cb lookup_cb_new (by decide +kernel), by decide +kernel, sub_cb, slot_cb_init⟩
theorem typeCall_cb_2 (a b : Value) : checkTypeCall "itertools.combinations" ⟨[a, b], []⟩ = pure () := by kernel_rfl
theorem newCall_cb_2 (a b : Value) : checkBuiltinCall "itertools.combinations.__new__" ⟨[.type "itertools.combinations", a, b], []⟩ = pure () := by kernel_rfl
theorem entry_cb_new : entryFor table "itertools.combinations.__new__" = some Builtin.«itertools.combinations.__new__» := entryFor_of_tree (by kernel_rfl)
theorem slot_cb_iter : Slot "itertools.combinations" "__iter__" "itertools.combinations.__iter__" :=
  .of (owner := "itertools.combinations") (n := "__iter__") (by rw [typeLookup_type, builtinLookup_eq_fast]; kernel_rfl) (by decide +kernel) (by decide +kernel) (by decide +kernel)
    (by first | exact .inl (by decide +kernel) | exact .inr (by decide +kernel)) sub_cb
theorem slot_cb_next : Slot "itertools.combinations" "__next__" "itertools.combinations.__next__" :=
  .of (owner := "itertools.combinations") (n := "__next__") (by rw [typeLookup_type, builtinLookup_eq_fast]; kernel_rfl) (by decide +kernel) (by decide +kernel) (by decide +kernel)
    (by first | exact .inl (by decide +kernel) | exact .inr (by decide +kernel)) sub_cb
theorem entry_cb_iter : entryFor table "itertools.combinations.__iter__" = some Builtin.«dict_keyiterator.__iter__» :=
  entryFor_alias (id' := "dict_keyiterator.__iter__") (by kernel_rfl) (by first | rfl | decide +kernel | (unfold String.splitOn; simp +decide [String.splitOnAux])) (by decide +kernel) (by kernel_rfl)
theorem entry_cb_next : entryFor table "itertools.combinations.__next__" = some Builtin.«itertools.combinations.__next__» := entryFor_of_tree (by kernel_rfl)
end CB
end
section
set_option Elab.async false
set_option linter.all false
set_option maxRecDepth 100000
set_option maxHeartbeats 4000000
namespace CB
open PySem PySem.Spec
open Sem (wp)
theorem owner_cb : Manifest.owners.lookup (String.ofList ['s', 'n', 'o', 'i', 't', 'a', 'n', 'i', 'b', 'm', 'o', 'c', '.', 's', 'l', 'o', 'o', 't', 'r', 'e', 't', 'i'].reverse) = some Manifest.sig_itertools_combinations := by kernel_rfl
theorem args_cb_iter (a : Value) : argsOk "itertools.combinations.__iter__" ⟨[a], []⟩ := by
  unfold argsOk; rw [signature?_of (id := "itertools.combinations.__iter__") (n := ['_', '_', 'r', 'e', 't', 'i', '_', '_']) (o := ['s', 'n', 'o', 'i', 't', 'a', 'n', 'i', 'b', 'm', 'o', 'c', '.', 's', 'l', 'o', 'o', 't', 'r', 'e', 't', 'i']) (by kernel_rfl) owner_cb]; kernel_rfl
theorem args_cb_next (a : Value) : argsOk "itertools.combinations.__next__" ⟨[a], []⟩ := by
  unfold argsOk; rw [signature?_of (id := "itertools.combinations.__next__") (n := ['_', '_', 't', 'x', 'e', 'n', '_', '_']) (o := ['s', 'n', 'o', 'i', 't', 'a', 'n', 'i', 'b', 'm', 'o', 'c', '.', 's', 'l', 'o', 'o', 't', 'r', 'e', 't', 'i']) (by kernel_rfl) owner_cb]; kernel_rfl
theorem noDict_cb : typeHasDict (.type "itertools.combinations") = false := by decide +kernel
def ixF (idx : List Nat) : Array Value := (idx.map fun (n : Nat) => rawInt n).toArray
/-- a combinations object: its pool, how far it is, what it handed out last, the places -/
abbrev IsCb (h : Heap) (it : Addr) (pool : Addr) (mode : Int) (last : Value) (idx : List Nat) : Prop := h.get? it = some { cls := .type "itertools.combinations", dict := none, data := .fields (#[.ref pool, .int mode 0, last] ++ ixF idx), slots := #[] }
def nextC (n : Nat) (indices : List Nat) : Option (List Nat) :=
  let r := indices.length
  match (List.range r).reverse.find? fun i => indices.getD i 0 != i + n - r with
  | none => none
  | some i => some (indices.take i ++ (List.range (r - i)).map (indices.getD i 0 + 1 + ·))
def picked (items : Array Value) (idx : List Nat) : List Value := idx.map fun i => items.getD i .none
section
variable {prog : Program} {w : World} {A : Around} {E : Value → Shared → Prop} {s : Shared}
theorem set_ixF (pool : Addr) (m m' : Int) (last : Value) (idx : List Nat) : (#[Value.ref pool, .int m 0, last] ++ ixF idx).setIfInBounds 1 (.int m' 0) = #[Value.ref pool, .int m' 0, last] ++ ixF idx := by
  apply Array.ext'
  simp [ixF]
theorem set_last (pool : Addr) (m : Int) (last last' : Value) (idx : List Nat) : (#[Value.ref pool, .int m 0, last] ++ ixF idx).setIfInBounds 2 last' = #[Value.ref pool, .int m 0, last'] ++ ixF idx := by
  apply Array.ext'
  simp [ixF]
theorem handOut {it pool : Addr} {mode : Int} {last : Value} {idx idx0 : List Nat} {po : Obj} {items : Array Value} {n : Nat} {Q : Fin → Shared → Prop} (hit : IsCb s.heap it pool mode last idx0) (hp : s.heap.get? pool = some po) (hd : po.data = .seq items n) (hz : idx.length ≤ sizeLine)
    (hQ : ∀ h', IsCb h' it pool mode (.ref s.heap.objs.size) idx0 → h'.get? s.heap.objs.size = some { cls := .type "tuple", data := .seq (picked items idx).toArray } → (∀ b o, b ≠ it → s.heap.get? b = some o → h'.get? b = some o) → wpAny (model prog w) A (ret (.ref s.heap.objs.size)) Q E { s with heap := h' }) :
    wpAny (model prog w) A ((do
      let items ← Builtin.Itertools.itPoolItems (.ref pool)
      newTuple (idx.map fun i => items.getD i .none) : Sem Value) >>= fun result => do
        let before ← field (.ref it) 2
        setField (.ref it) 2 result
        letGo [before] [result]
        ret result) Q E s := by
  refine wpAny_bind (wpAny_bind ?_)
  unfold Builtin.Itertools.itPoolItems
  refine wpAny_bind (wpAny_seqItems hp hd (wpAny_pure ?_))
  refine wpAny_newTuple ?_ (by rw [List.length_map]; exact hz)
  have hit1 : IsCb (s.heap.push { cls := .type "tuple", data := .seq (picked items idx).toArray }) it pool mode last idx0 := Heap.get?_push_of_some _ hit
  refine wpAny_bind (wpAny_field hit1 rfl (x := last) (by simp [ixF]) ?_)
  refine wpAny_bind (wpAny_setField hit1 rfl (by simp [ixF]) ?_)
  refine wpAny_bind (wpAny_letGo ?_)
  have hne : it ≠ s.heap.objs.size := Nat.ne_of_lt (Heap.lt_size hit)
  refine hQ _ ?_ ?_ fun b o hb e => ?_
  · have := Heap.get?_update_self (Obj.mapFields (·.setIfInBounds 2 (Value.ref s.heap.objs.size))) hit1 rfl
    simp only [Obj.mapFields, set_last] at this
    exact this
  · exact (Heap.SameBut.update ..).extBut _ _ hne.symm (Heap.get?_push_size _ rfl)
  · exact (Heap.SameBut.update ..).extBut _ _ hb (Heap.get?_push_of_some _ e)
theorem numbers {it pool : Addr} {mode : Int} {last : Value} {idx : List Nat} {Q : List Nat → Shared → Prop} (hit : IsCb s.heap it pool mode last idx) (h : Q idx s) : wpAny (model prog w) A (Builtin.Itertools.itNumbersFrom (.ref it) 3) Q E s := by
  unfold Builtin.Itertools.itNumbersFrom
  refine wpAny_bind (wpAny_load hit (wpAny_pure ?_))
  refine cast (congrArg (fun z => Q z s) ?_) h
  have e0 : (#[Value.ref pool, .int mode 0, last] ++ ixF idx).toList.drop 3 = idx.map fun (n : Nat) => rawInt n := by simp [ixF]
  rw [e0, List.map_map]
  refine (List.map_id idx).symm.trans (List.map_congr_left fun n _ => ?_)
  show n = (((n : Nat) : Int)).toNat
  simp
/-- the first -/
theorem cb_first {it pool : Addr} {last : Value} {idx : List Nat} {po : Obj} {items : Array Value} {n : Nat} {Q : Option Value → Shared → Prop} (hit : IsCb s.heap it pool 0 last idx) (hp : s.heap.get? pool = some po) (hd : po.data = .seq items n) (hz : idx.length ≤ sizeLine) (hne : pool ≠ it)
    (hQ : ∀ h', IsCb h' it pool 1 (.ref s.heap.objs.size) idx → h'.get? s.heap.objs.size = some { cls := .type "tuple", data := .seq (picked items idx).toArray } → (∀ b o, b ≠ it → s.heap.get? b = some o → h'.get? b = some o) → Q (some (.ref s.heap.objs.size)) { s with heap := h' }) :
    wpAny (model prog w) A (callSpecial? (.ref it) "__next__") Q E s := by
  have hT : s.TypeIs (.ref it) "itertools.combinations" := ⟨_, hit, rfl⟩
  refine wpAny_callSpecial?_slot (name := Str.ofString "__next__") hT slot_cb_next (wpAny_call_entry slot_cb_next hT entry_cb_next ?_ (args_cb_next _))
  show wpAny _ _ (field (.ref it) 0 >>= _) _ _ s
  refine wpAny_bind (wpAny_field hit rfl (x := .ref pool) (by simp [ixF]) ?_)
  refine wpAny_bind (numbers hit ?_)
  show wpAny _ _ ((field (.ref it) 1 >>= _) >>= _) _ _ s
  refine wpAny_bind (wpAny_bind (wpAny_field hit rfl (x := .int 0 0) (by simp [ixF]) (wpAny_pure ?_)))
  refine wpAny_bind (wpAny_setField hit rfl (by simp [ixF]) ?_)
  have hit1 : IsCb (s.heap.update it (Obj.mapFields fun x => x.setIfInBounds 1 (rawInt 1))) it pool 1 last idx := by
    have := Heap.get?_update_self (Obj.mapFields fun x => x.setIfInBounds 1 (rawInt 1)) hit rfl
    simp only [Obj.mapFields, rawInt, set_ixF] at this
    exact this
  have hp1 := (Heap.SameBut.update s.heap it (Obj.mapFields fun x => x.setIfInBounds 1 (rawInt 1))).extBut _ _ hne hp
  have es : (s.heap.update it (Obj.mapFields fun x => x.setIfInBounds 1 (rawInt 1))).objs.size = s.heap.objs.size := (Heap.SameBut.update s.heap it _).1
  refine handOut (s := { s with heap := s.heap.update it (Obj.mapFields fun x => x.setIfInBounds 1 (rawInt 1)) }) hit1 hp1 hd hz fun h' k1 k2 k3 => ?_
  simp only [es] at k1 k2 ⊢
  exact wpAny_pure ⟨_, rfl, hQ h' k1 k2 fun b o hb e => k3 b o hb ((Heap.SameBut.update ..).extBut _ _ hb e)⟩
/-- a further one -/
theorem cb_more {it pool : Addr} {last : Value} {idx idx' : List Nat} {po : Obj} {items : Array Value} {n : Nat} {Q : Option Value → Shared → Prop} (hit : IsCb s.heap it pool 1 last idx) (hp : s.heap.get? pool = some po) (hd : po.data = .seq items n) (hz : idx'.length ≤ sizeLine) (hne : pool ≠ it) (hn : nextC items.size idx = some idx')
    (hQ : ∀ h', IsCb h' it pool 1 (.ref s.heap.objs.size) idx' → h'.get? s.heap.objs.size = some { cls := .type "tuple", data := .seq (picked items idx').toArray } → (∀ b o, b ≠ it → s.heap.get? b = some o → h'.get? b = some o) → Q (some (.ref s.heap.objs.size)) { s with heap := h' }) :
    wpAny (model prog w) A (callSpecial? (.ref it) "__next__") Q E s := by
  have hT : s.TypeIs (.ref it) "itertools.combinations" := ⟨_, hit, rfl⟩
  refine wpAny_callSpecial?_slot (name := Str.ofString "__next__") hT slot_cb_next (wpAny_call_entry slot_cb_next hT entry_cb_next ?_ (args_cb_next _))
  show wpAny _ _ (field (.ref it) 0 >>= _) _ _ s
  refine wpAny_bind (wpAny_field hit rfl (x := .ref pool) (by simp [ixF]) ?_)
  refine wpAny_bind (numbers hit ?_)
  show wpAny _ _ ((field (.ref it) 1 >>= _) >>= _) _ _ s
  refine wpAny_bind (wpAny_bind (wpAny_field hit rfl (x := .int 1 0) (by simp [ixF]) (wpAny_pure ?_)))
  show wpAny _ _ (Builtin.Itertools.itPoolItems (.ref pool) >>= _) _ _ s
  refine wpAny_bind ?_
  unfold Builtin.Itertools.itPoolItems
  refine wpAny_bind (wpAny_seqItems hp hd (wpAny_pure ?_))
  show wpAny _ _ (match nextC items.size idx with
    | some next => Builtin.Itertools.itSetNumbersFrom (.ref it) 3 next >>= _
    | none => _) _ _ s
  rw [hn]
  refine wpAny_bind ?_
  unfold Builtin.Itertools.itSetNumbersFrom
  refine wpAny_updateFields hit rfl ?_ (by simp [ixF]; omega)
  have hit1 : IsCb (s.heap.update it (Obj.mapFields fun fs => fs.extract 0 3 ++ (idx'.map fun (n : Nat) => rawInt n).toArray)) it pool 1 last idx' := by
    have := Heap.get?_update_self (Obj.mapFields fun fs => fs.extract 0 3 ++ (idx'.map fun (n : Nat) => rawInt n).toArray) hit rfl
    simp only [Obj.mapFields] at this
    have e : (#[Value.ref pool, .int 1 0, last] ++ ixF idx).extract 0 3 ++ (idx'.map fun (n : Nat) => rawInt n).toArray = #[Value.ref pool, .int 1 0, last] ++ ixF idx' := by
      apply Array.ext'
      simp [ixF]
    rw [e] at this
    exact this
  have hp1 := (Heap.SameBut.update s.heap it (Obj.mapFields fun fs => fs.extract 0 3 ++ (idx'.map fun (n : Nat) => rawInt n).toArray)).extBut _ _ hne hp
  have es : (s.heap.update it (Obj.mapFields fun fs => fs.extract 0 3 ++ (idx'.map fun (n : Nat) => rawInt n).toArray)).objs.size = s.heap.objs.size := (Heap.SameBut.update s.heap it _).1
  refine handOut (s := { s with heap := s.heap.update it (Obj.mapFields fun fs => fs.extract 0 3 ++ (idx'.map fun (n : Nat) => rawInt n).toArray) }) hit1 hp1 hd hz fun h' k1 k2 k3 => ?_
  simp only [es] at k1 k2 ⊢
  exact wpAny_pure ⟨_, rfl, hQ h' k1 k2 fun b o hb e => k3 b o hb ((Heap.SameBut.update ..).extBut _ _ hb e)⟩
/-- the end's exception -/
def StopE (e : Value) (h : Heap) : Prop := ∃ a o vs, e = .ref a ∧ h.get? a = some o ∧ o.cls = .type "StopIteration" ∧ o.data = .fields vs ∧ vs[5]? = some Value.none
theorem cb_end {it pool : Addr} {last : Value} {idx : List Nat} {po : Obj} {items : Array Value} {n : Nat} {Q : Option Value → Shared → Prop} (hh : A.handled = none) (hit : IsCb s.heap it pool 1 last idx) (hp : s.heap.get? pool = some po) (hd : po.data = .seq items n) (hn : nextC items.size idx = none)
    (hQ : ∀ e h', StopE e h' → Heap.ExtBut it s.heap h' → E e { s with heap := h' }) : wpAny (model prog w) A (callSpecial? (.ref it) "__next__") Q E s := by
  have hT : s.TypeIs (.ref it) "itertools.combinations" := ⟨_, hit, rfl⟩
  refine wpAny_callSpecial?_slot (name := Str.ofString "__next__") hT slot_cb_next (wpAny_call_entry slot_cb_next hT entry_cb_next ?_ (args_cb_next _))
  show wpAny _ _ (field (.ref it) 0 >>= _) _ _ s
  refine wpAny_bind (wpAny_field hit rfl (x := .ref pool) (by simp [ixF]) ?_)
  refine wpAny_bind (numbers hit ?_)
  show wpAny _ _ ((field (.ref it) 1 >>= _) >>= _) _ _ s
  refine wpAny_bind (wpAny_bind (wpAny_field hit rfl (x := .int 1 0) (by simp [ixF]) (wpAny_pure ?_)))
  show wpAny _ _ (Builtin.Itertools.itPoolItems (.ref pool) >>= _) _ _ s
  refine wpAny_bind ?_
  unfold Builtin.Itertools.itPoolItems
  refine wpAny_bind (wpAny_seqItems hp hd (wpAny_pure ?_))
  show wpAny _ _ (match nextC items.size idx with
    | some next => Builtin.Itertools.itSetNumbersFrom (.ref it) 3 next >>= _
    | none => setField (.ref it) 1 (rawInt 2) >>= fun _ => Builtin.Itertools.itStop) _ _ s
  rw [hn]
  refine wpAny_bind (wpAny_setField hit rfl (by simp [ixF]) ?_)
  show wpAny _ _ (newExc (.type "StopIteration") [] >>= _) _ _ _
  refine wpAny_bind ?_
  simp only [newExc, newTuple]
  refine wpAny_bind (wpAny_newObj_type ?_ (by size_fits))
  refine wpAny_bind (m := firstArgMember _ _) (wpAny_of_eq (a := Value.none) (by first | rfl | (simp only [firstArgMember]; rfl)) ?_)
  refine wpAny_newObj_type ?_ (by size_fits)
  simp only [raiseNew]
  refine wpAny_bind (wpAny_handled ?_)
  first | rw [show A.in1.handled = none from hh] | rw [hh]
  refine wpAny_bind (wpAny_pure (wpAny_throw ?_))
  refine hQ _ _ ⟨_, _, _, rfl, Heap.get?_push_size _ rfl, rfl, rfl, rfl⟩ ?_
  exact ((((Heap.SameBut.update s.heap it (Obj.mapFields fun x => x.setIfInBounds 1 (rawInt 2))).extBut).push _).push _)
theorem cb_iter {it pool : Addr} {mode : Int} {last : Value} {idx : List Nat} {Q : Value → Shared → Prop} (hit : IsCb s.heap it pool mode last idx) (h : Q (.ref it) s) : wpAny (model prog w) A (pyIter (.ref it)) Q E s := by
  have hT : s.TypeIs (.ref it) "itertools.combinations" := ⟨_, hit, rfl⟩
  refine wpAny_pyIter_slot hT slot_cb_iter (wpAny_call_entry slot_cb_iter hT entry_cb_iter ?_ (args_cb_iter _))
  show wpAny _ _ (ret (.ref it)) _ _ s
  exact wpAny_pure ⟨_, rfl, "itertools.combinations", _, hT, slot_cb_next.lookup, h⟩
/-- by pyNext -/
theorem cb_nextFirst {it pool : Addr} {last : Value} {idx : List Nat} {po : Obj} {items : Array Value} {n : Nat} {Q : Option Value → Shared → Prop} (hit : IsCb s.heap it pool 0 last idx) (hp : s.heap.get? pool = some po) (hd : po.data = .seq items n) (hz : idx.length ≤ sizeLine) (hne : pool ≠ it)
    (hQ : ∀ h', IsCb h' it pool 1 (.ref s.heap.objs.size) idx → h'.get? s.heap.objs.size = some { cls := .type "tuple", data := .seq (picked items idx).toArray } → (∀ b o, b ≠ it → s.heap.get? b = some o → h'.get? b = some o) → Q (some (.ref s.heap.objs.size)) { s with heap := h' }) :
    wpAny (model prog w) A (pyNext (.ref it)) Q E s := by
  unfold pyNext
  exact wpAny_bind (wpAny_attempt (cb_first hit hp hd hz hne fun h' a b c => wpAny_pure (hQ h' a b c)))
theorem cb_nextMore {it pool : Addr} {last : Value} {idx idx' : List Nat} {po : Obj} {items : Array Value} {n : Nat} {Q : Option Value → Shared → Prop} (hit : IsCb s.heap it pool 1 last idx) (hp : s.heap.get? pool = some po) (hd : po.data = .seq items n) (hz : idx'.length ≤ sizeLine) (hne : pool ≠ it) (hn : nextC items.size idx = some idx')
    (hQ : ∀ h', IsCb h' it pool 1 (.ref s.heap.objs.size) idx' → h'.get? s.heap.objs.size = some { cls := .type "tuple", data := .seq (picked items idx').toArray } → (∀ b o, b ≠ it → s.heap.get? b = some o → h'.get? b = some o) → Q (some (.ref s.heap.objs.size)) { s with heap := h' }) :
    wpAny (model prog w) A (pyNext (.ref it)) Q E s := by
  unfold pyNext
  exact wpAny_bind (wpAny_attempt (cb_more hit hp hd hz hne hn fun h' a b c => wpAny_pure (hQ h' a b c)))
theorem cb_nextEnd {it pool : Addr} {last : Value} {idx : List Nat} {po : Obj} {items : Array Value} {n : Nat} {Q : Option Value → Shared → Prop} (hh : A.handled = none) (hit : IsCb s.heap it pool 1 last idx) (hp : s.heap.get? pool = some po) (hd : po.data = .seq items n) (hn : nextC items.size idx = none)
    (hQ : ∀ h', Heap.ExtBut it s.heap h' → Q none { s with heap := h' }) : wpAny (model prog w) A (pyNext (.ref it)) Q E s := by
  unfold pyNext
  refine wpAny_bind (wpAny_attempt (cb_end hh hit hp hd hn fun e h' he hk => ?_))
  obtain ⟨a, o, vs, rfl, ho, hc, _⟩ := he
  refine wpAny_bind (wpAny_isInstance (T := "StopIteration") (b := true) ⟨o, ho, hc⟩ isSubtype_stop ?_)
  exact wpAny_pure (hQ _ hk)
end
end CB
end
section
set_option Elab.async false
set_option linter.all false
set_option maxRecDepth 100000
set_option maxHeartbeats 4000000
namespace CB
open PySem PySem.Spec PyProof.Rows L2
section
variable {prog : Program} {w : World} {A : Around} {E : Value → Shared → Prop} {s : Shared} {r : Addr} {a b c : Int} {t u v : Tok} {n : Nat}
theorem bind_cb (a b : Value) : Builtin.Itertools.itBindNamed "combinations" ["iterable", "r"] 2 2 [a, b] [] = pure [some a, some b] := by kernel_rfl
theorem ssize_cb {k : Nat} {tk0 : Tok} {Q : Int → Shared → Prop} (hk : k < 2 ^ 62) (h : Q k s) : wpAny (model prog w) A (Builtin.Itertools.itSsizeArg (.int k tk0)) Q E s := by
  have hn : ¬ ((decide ((k : Int) < -(2 ^ 63 : Int)) || decide ((k : Int) ≥ 2 ^ 63)) = true) := by
    have a : decide ((k : Int) < -(2 ^ 63 : Int)) = false := decide_eq_false (by omega)
    have b : decide ((k : Int) ≥ 2 ^ 63) = false := decide_eq_false (by omega)
    rw [a, b]
    decide
  unfold Builtin.Itertools.itSsizeArg
  refine wpAny_bind ?_
  show wpAny _ _ (pure (k : Int)) _ _ _
  refine wpAny_pure ?_
  show wpAny _ _ (if (decide ((k : Int) < -(2 ^ 63 : Int)) || decide ((k : Int) ≥ 2 ^ 63)) = true then _ else _) _ _ _
  rw [if_neg hn]
  exact wpAny_pure h
theorem code_cb_new {Q₁ : Value → Shared → Prop} {k : Nat} {tk0 : Tok} (hk1 : k ≤ n) (hk2 : n ≤ 1000) (hh : A.handled = none) (hr : IsRange s.heap r a b c t u v) (hsmall : Builtin.Range.small a b c = true) (hn : Builtin.Range.rangeSize a b c = n)
    (h : ∀ (h' : Heap) (tk : Nat) (acc : Array Value), (∀ b o, s.heap.get? b = some o → h'.get? b = some o) → ItemsOf (fun i v => ∃ t, v = .int (a + i * c) t) acc n →
      Q₁ (.ref (h'.objs.size + 1)) { s with heap := (h'.push { cls := .type "tuple", data := .seq acc }).push { cls := .type "itertools.combinations", data := .fields (#[.ref h'.objs.size, .int 0 0, .none] ++ ixF (List.range k)) }, toks := tk }) :
    codeAny (model prog w) A (.call (.builtin "itertools.combinations.__new__") ⟨[.type "itertools.combinations", .ref r, .int k tk0], []⟩) (wants Q₁ E) s := by
  refine codeAny_of_tree ?_
  show wpAny _ A.in1 (do checkBuiltinCall "itertools.combinations.__new__" ⟨[.type "itertools.combinations", .ref r, .int k tk0], []⟩; again (.builtin "itertools.combinations.__new__" ⟨[.type "itertools.combinations", .ref r, .int k tk0], []⟩)) _ _ s
  refine wpAny_bind (wpAny_of_eq (newCall_cb_2 _ _) (wpAny_pure ⟨plainId_quiet (by decide +kernel) _, codeAny_builtin entry_cb_new ?_⟩))
  rw [Around.under_plainId (by decide +kernel) _]
  have hsub := sub_cb
  have hd := noDict_cb
  have hh1 : A.in1.handled = none := hh
  show wpAny _ _ ((Builtin.Itertools.itClassAndRest "combinations" _ >>= _) >>= _) _ _ s
  refine wpAny_bind (wpAny_bind ?_)
  unfold Builtin.Itertools.itClassAndRest
  wp_walk
  have es : ("itertools." ++ "combinations" : String) = "itertools.combinations" := by decide
  rw [es]
  refine wpAny_of_eq sub_cb ?_
  refine wpAny_pure ?_
  show wpAny _ _ (Builtin.Itertools.itBindNamed "combinations" ["iterable", "r"] 2 2 [.ref r, .int k tk0] [] >>= _) _ _ _
  refine wpAny_bind (wpAny_of_eq (bind_cb _ _) ?_)
  show wpAny _ _ ((Builtin.Itertools.itSsizeArg (.int k tk0)) >>= _) _ _ _
  refine wpAny_bind (ssize_cb (by omega) ?_)
  refine wpAny_bind (collect_range (A := A.in1) hh1 hr hsmall hn (by omega) fun h' tk acc hk hacc => ?_)
  have hlen : acc.toList.length = n := by rw [Array.length_toList]; exact hacc.1
  show wpAny _ _ (if ((k : Int) < 0) then _ else _) _ _ _
  rw [if_neg (by omega)]
  show wpAny _ _ (if Builtin.Itertools.itTooMany (k : Int) = true then _ else _) _ _ _
  rw [if_neg (by unfold Builtin.Itertools.itTooMany; simp; omega)]
  refine wpAny_bind (wpAny_newTuple ?_ (by rw [hlen, sizeLine_eq]; omega))
  refine wpAny_pure ?_
  show wpAny _ _ (Builtin.Itertools.itNewRecord (.type "itertools.combinations") _ >>= _) _ _ _
  have e1 : ((k : Int).toNat) = k := by simp
  refine wpAny_bind ?_
  unfold Builtin.Itertools.itNewRecord
  rw [hd]
  rw [if_pos (by decide)]
  refine wpAny_newObj_type ?_ (by simp [sizeOk, sizeLine_eq]; omega)
  refine wpAny_pure ?_
  have e2 : acc.toList.toArray = acc := by simp
  rw [hlen, if_neg (by simp; omega), e1, e2]
  have e3 : ([Value.ref h'.objs.size, rawInt 0, Value.none] ++ (List.range k).map fun (i : Nat) => rawInt i).toArray = #[Value.ref h'.objs.size, .int 0 0, .none] ++ ixF (List.range k) := by
    apply Array.ext'
    simp [ixF, rawInt]
  show Q₁ _ _
  have := h h' tk acc hk hacc
  rw [← e3] at this
  have e4 : (h'.push { cls := .type "tuple", data := .seq acc }).objs.size = h'.objs.size + 1 := Heap.size_push ..
  rw [e4]
  exact this
theorem call_cb {Q : Value → Shared → Prop} {k : Nat} {tk0 : Tok} (hk1 : k ≤ n) (hk2 : n ≤ 1000) (hh : A.handled = none) (hr : IsRange s.heap r a b c t u v) (hsmall : Builtin.Range.small a b c = true) (hn : Builtin.Range.rangeSize a b c = n)
    (hQ : ∀ (h' : Heap) (tk : Nat) (acc : Array Value), (∀ b o, s.heap.get? b = some o → h'.get? b = some o) → ItemsOf (fun i v => ∃ t, v = .int (a + i * c) t) acc n →
      Q (.ref (h'.objs.size + 1)) { s with heap := (h'.push { cls := .type "tuple", data := .seq acc }).push { cls := .type "itertools.combinations", data := .fields (#[.ref h'.objs.size, .int 0 0, .none] ++ ixF (List.range k)) }, toks := tk }) :
    wpAny (model prog w) A (call (.type "itertools.combinations") [.ref r, .int k tk0]) Q E s := by
  refine callType_codes (Q₁ := fun obj s₁ => s₁.TypeIs obj "itertools.combinations" ∧ Q obj s₁) called_cb (typeCall_cb_2 _ _) F.entry_object_init
    (code_cb_new (A := A.in1) hk1 hk2 hh hr hsmall hn fun h' tk acc hk hacc => ⟨?_, hQ h' tk acc hk hacc⟩) fun obj s₁ h₁ => ?_
  · have e4 : (h'.push { cls := .type "tuple", data := .seq acc }).objs.size = h'.objs.size + 1 := Heap.size_push ..
    refine ⟨{ cls := .type "itertools.combinations", data := .fields (#[.ref h'.objs.size, .int 0 0, .none] ++ ixF (List.range k)) }, ?_, rfl⟩
    rw [← e4]
    exact Heap.get?_push_size _ rfl
  · exact ⟨h₁.1, F.args_object_init_3 obj _ _, object_init_meets called_cb.init.lookup called_cb.made (by decide) prog w A.in1 _ s₁ ⟨h₁.1, rfl, h₁.2⟩⟩
end
end CB
end
section
set_option Elab.async false
set_option linter.all false
set_option maxRecDepth 100000
set_option maxHeartbeats 4000000
namespace CB
open PySem PySem.Spec PyProof.Rows L2 DX
set_option autoImplicit false
/-- the places of all combinations, in turn -/
structure CombL (n k : Nat) (L : List (List Nat)) : Prop where
  fst : L[0]? = some (List.range k)
  nxt : ∀ i idx, L[i]? = some idx → nextC n idx = L[i + 1]?
  bd : ∀ idx ∈ L, ∀ j ∈ idx, j < n
  len : ∀ idx ∈ L, idx.length ≤ 1000
/-- the numbers at these places -/
def atV (a : Int) (idx : List Nat) : List Int := idx.map fun (j : Nat) => a + (j : Int)
def Itcb (a : Int) (L : List (List Nat)) : It := ⟨fun i _ => i < L.length, fun i H x H' => ∃ p idx, H p = none ∧ L[i]? = some idx ∧ x = .ref p ∧ H' = upd H p (.tup ((atV a idx).map V.int)), fun i _ => L.length ≤ i⟩
def TnCb (it pool : Addr) (a : Int) (n k : Nat) (L : List (List Nat)) (i : Nat) (h : Heap) : Prop :=
  i ≤ L.length ∧ it ≠ pool ∧ (∃ (po : Obj) (acc : Array Value) (c : Nat), h.get? pool = some po ∧ po.data = .seq acc c ∧ ItemsOf (fun (i : Nat) v => ∃ t, v = Value.int (a + (i : Int) * 1) t) acc n) ∧
  ((i = 0 ∧ ∃ last, IsCb h it pool 0 last (List.range k)) ∨ (∃ j idx last, i = j + 1 ∧ L[j]? = some idx ∧ IsCb h it pool 1 last idx))
theorem vals_picked {a : Int} {n : Nat} {acc : Array Value} (hacc : ItemsOf (fun (i : Nat) v => ∃ t, v = Value.int (a + (i : Int) * 1) t) acc n) : ∀ idx : List Nat, (∀ j ∈ idx, j < n) → Vals ((atV a idx).map V.int) (picked acc idx)
  | [], _ => .nil
  | j :: idx, h => by
    have hj := h j List.mem_cons_self
    refine .cons ?_ (vals_picked hacc idx fun x hx => h x (List.mem_cons_of_mem _ hx))
    obtain ⟨hsz, hg⟩ := hacc
    have e1 : acc[j]? = some (acc.getD j .none) := by
      rw [Array.getD_eq_getD_getElem?, Array.getElem?_eq_getElem (by omega)]
      rfl
    obtain ⟨t, e⟩ := hg j _ e1
    refine ⟨t, ?_⟩
    show acc.getD j .none = _
    rw [e, Int.mul_one]
theorem turn_cb {P : Program} {w : World} {K : PySem.W.Frag} {tg : Expr} (it pool : Addr) (a : Int) (n k : Nat) (L : List (List Nat)) (C : CombL n k L) : Turn P w K tg (Itcb a L) [it, pool] it (TnCb it pool a n k L) where
  mem := by simp
  obj := fun i h st b hb => by
    obtain ⟨_, _, ⟨po, acc, c, hp, hd, _⟩, hit⟩ := st
    have hb' : b = it ∨ b = pool := by simpa using hb
    rcases hb' with e | e
    · subst e
      rcases hit with ⟨_, last, h1⟩ | ⟨j, idx, last, _, _, h1⟩
      · exact ⟨_, h1, fun v z => nomatch z⟩
      · exact ⟨_, h1, fun v z => nomatch z⟩
    · subst e
      exact ⟨po, hp, fun v z => by rw [hd] at z; cases z⟩
  keep := fun i h h' st kk => by
    obtain ⟨h0, hne, ⟨po, acc, c, hp, hd, hacc⟩, hit⟩ := st
    refine ⟨h0, hne, ⟨po, acc, c, kk pool (by simp) _ hp, hd, hacc⟩, ?_⟩
    rcases hit with ⟨e, last, h1⟩ | ⟨j, idx, last, e, e2, h1⟩
    · exact .inl ⟨e, last, kk it (by simp) _ h1⟩
    · exact .inr ⟨j, idx, last, e, e2, kk it (by simp) _ h1⟩
  item := by
    intro X hP hw hK hc i pins s σ H E I hf st hg
    subst hP hw hK
    obtain ⟨f0, f1, f2, f3, f4, f5⟩ := hf it (by simp)
    have fp := hf pool (by simp)
    obtain ⟨h0, hne, ⟨po, acc, c, hp, hd, hacc⟩, hit⟩ := st
    have hlt : i < L.length := hg
    have hLi : L[i]? = some L[i] := List.getElem?_eq_getElem hlt
    have hbd := C.bd L[i] (List.getElem_mem hlt)
    have hln := C.len L[i] (List.getElem_mem hlt)
    have hrv := vals_picked hacc L[i] hbd
    have hzz : L[i].length ≤ sizeLine := by rw [sizeLine_eq]; omega
    -- what both turns come to
    have fin : ∀ h', IsCb h' it pool 1 (.ref s.heap.objs.size) L[i] → h'.get? s.heap.objs.size = some { cls := .type "tuple", data := .seq (picked acc L[i]).toArray } → (∀ b o, b ≠ it → s.heap.get? b = some o → h'.get? b = some o) →
        ∃ u, some (Value.ref s.heap.objs.size) = some u ∧ wpAny (model X.prog X.w) X.A (letOwnedTupleGo tg (.ref it) u) (fun _ s2 => ∃ x H', Inv X pins σ H' s2 ∧ RelV x u ∧ (Itcb a L).yld i H x H' ∧ TnCb it pool a n k L (i + 1) s2.heap ∧ ∀ b ∈ [it, pool], H' b = none) E { s with heap := h' } := by
      intro h' k1 k2 k3
      refine ⟨_, rfl, go_of (s := { s with heap := h' }) k1 rfl rfl (by decide) ?_⟩
      have hn : H s.heap.objs.size = none := I.hok.fresh (Nat.le_refl _)
      have I1 : Inv X pins σ (upd H s.heap.objs.size (.tup ((atV a L[i]).map V.int))) { s with heap := h' } := by
        refine I.turnedNew (t' := s.toks) (ch := [it]) (fun b o hb e => k3 b o (by simpa using hb) e) (fun b hb => ?_) (Nat.le_refl _) ?_
        · have e : b = it := by simpa using hb
          subst e
          exact ⟨f0, f1, f2, f3, f4, f5⟩
        · refine ⟨by rw [List.length_map]; unfold atV; rw [List.length_map]; exact hzz, picked acc L[i], hrv, ?_⟩
          exact ⟨_, k2, rfl, _, rfl⟩
      have hit' : it < s.heap.objs.size := by
        rcases hit with ⟨_, last, h1⟩ | ⟨j, idx, last, _, _, h1⟩
        · exact Heap.lt_size h1
        · exact Heap.lt_size h1
      have hpl : pool < s.heap.objs.size := Heap.lt_size hp
      refine ⟨.ref s.heap.objs.size, _, I1, rfl, ⟨_, L[i], hn, hLi, rfl, rfl⟩, ⟨by omega, hne, ⟨po, acc, c, k3 _ _ (Ne.symm hne) hp, hd, hacc⟩, .inr ⟨i, L[i], _, rfl, hLi, k1⟩⟩, fun b hb => ?_⟩
      have hb' : b = it ∨ b = pool := by simpa using hb
      rcases hb' with e | e
      · subst e
        rw [upd_ne (Nat.ne_of_lt hit')]
        exact f0
      · subst e
        rw [upd_ne (Nat.ne_of_lt hpl)]
        exact fp.1
    rcases hit with ⟨e, last, h1⟩ | ⟨j, idx, last, e, e2, h1⟩
    · subst e
      have e3 : L[0] = List.range k := by
        have := C.fst
        rw [hLi] at this
        exact Option.some.inj this
      rw [e3] at fin hzz
      exact cb_nextFirst h1 hp hd hzz (Ne.symm hne) fin
    · subst e
      have hnx := C.nxt j idx e2
      rw [hLi] at hnx
      have hsz : acc.size = n := hacc.1
      rw [← hsz] at hnx
      exact cb_nextMore h1 hp hd hzz (Ne.symm hne) hnx fin
  done := by
    intro X hP hw hK hc i pins s σ H E I hf st hg
    subst hP hw hK
    obtain ⟨f0, f1, f2, f3, f4, f5⟩ := hf it (by simp)
    obtain ⟨h0, hne, ⟨po, acc, c, hp, hd, hacc⟩, hit⟩ := st
    have hge : L.length ≤ i := hg
    rcases hit with ⟨e, last, h1⟩ | ⟨j, idx, last, e, e2, h1⟩
    · subst e
      have := C.fst
      rw [List.getElem?_eq_none hge] at this
      cases this
    · subst e
      have hnx := C.nxt j idx e2
      rw [List.getElem?_eq_none hge] at hnx
      have hsz : acc.size = n := hacc.1
      rw [← hsz] at hnx
      exact cb_nextEnd (I.ok.hd hc) h1 hp hd hnx fun h' eb => ⟨rfl, I.turned (t' := s.toks) (fun b o hb e => eb b o hb e) f0 f1 f3 f4 f5⟩
  self := fun A i s Q E st h => by
    obtain ⟨_, _, _, hit⟩ := st
    rcases hit with ⟨e, last, h1⟩ | ⟨j, idx, last, e, e2, h1⟩
    · exact cb_iter h1 h
    · exact cb_iter h1 h
end CB
end
section
set_option Elab.async false
set_option linter.all false
set_option maxRecDepth 100000
set_option maxHeartbeats 4000000
namespace CB
open PySem PySem.Spec PyProof.Rows L2 DX
set_option autoImplicit false
def cbData (a : Int) (L : List (List Nat)) : List PyData := L.map fun idx => .tuple ((atV a idx).map .int)
theorem jseq_cb {K : PySem.W.Frag} {A0 : List Addr} {H1 : Hp} {a : Int} {L : List (List Nat)} : JSeq K A0 (Itcb a L) H1 (cbData a L) := by
  intro i A H2 x hA
  have el : (cbData a L).length = L.length := List.length_map _
  refine ⟨fun d hd => ?_, fun h => by rw [el] at h; exact h⟩
  have hi : i < L.length := by
    have := (List.getElem?_eq_some_iff.mp hd).1
    rwa [el] at this
  refine ⟨hi, fun y H' yy => ?_⟩
  obtain ⟨p, idx, hp, e, rfl, rfl⟩ := yy
  unfold cbData at hd
  rw [List.getElem?_map, e] at hd
  cases (Option.some.inj hd)
  have nA : p ∉ A := fun h => hA p h hp
  exact ⟨Ex.new hp, .tup (.inl (.inl (hide_new nA))) (DpAll.ints _)⟩
section
variable {X : Cx} {b : Bs} {S S1 S2 S3 : DS} {pos : Pos}
theorem ei_comb {tg e1 e2 e3 : Expr} {p p1 p2 : Pos} {lo hi : Int} {k : Nat} {L : List (List Nat)} (C : CombL (hi - lo).toNat k L) (hc : X.calm = true) (hg : Gl X "combinations") (hm : X.mg "combinations" = some (.type "itertools.combinations")) (hgr : Gl X "range") (hmr : X.mg "range" = none)
    (h1 : EV X b e1 S (.d (.int lo)) S2) (h2 : EV X b e2 S2 (.d (.int hi)) S3) (h3 : EV X b e3 S3 (.d (.int (k : Int))) S1) (hb : -(2 ^ 62) ≤ lo ∧ lo < 2 ^ 62 ∧ -(2 ^ 62) ≤ hi ∧ hi < 2 ^ 62) (hk : k ≤ (hi - lo).toNat) (hz : (hi - lo).toNat ≤ 1000)
    (hs1 : starEach [e1, e2] X.env = [(false, eval e1 X.env), (false, eval e2 X.env)] := by rfl) (hs2 : starEach [e2] X.env = [(false, eval e2 X.env)] := by rfl) (hs3 : starEach [e3] X.env = [(false, eval e3 X.env)] := by rfl)
    (hs : starEach [.Call (.Name "range" p1) [e1, e2] [] p2, e3] X.env = (false, eval (.Call (.Name "range" p1) [e1, e2] [] p2) X.env) :: starEach [e3] X.env := by rfl) (hpl : (backTo pos (starEach [e3] X.env)).any (·.1) = false := by rfl) :
    EI X b tg (.Call (.Name "combinations" p) [.Call (.Name "range" p1) [e1, e2] [] p2, e3] [] pos) S (cbData lo L) S1 := by
  intro σ H r R q pins s I
  have ha : PA X [.Call (.Name "range" p1) [e1, e2] [] p2, e3] _ := pa_cons (pe_callTy (pos := p2) (T := "range") cr_range2 hgr hmr PyProof.Rows.boot_range (pa_cons (peW e1) (pa_cons (peW e2) pa_nil hs2) (by rw [hs1, hs2])) (by decide) (by decide) (by rw [hs1, hs2]) (by rw [hs2]; rfl)) (pa_cons (peW e3) pa_nil hs3) hs
  refine Call_ (ld_glob I hg hm (PyProof.Rows.callWith_type1 (thn (ha.run pos pins s σ H (fun vs H1 => ∃ a, vs = [.ref a, .int k] ∧ H1 a = some (.rng lo hi) ∧ ∀ J, JSeq b.K (Hd b S1) J H1 (cbData lo L) → R J H1) I ?_) fun us s1 ⟨vs, H1, I1, r1, q1⟩ => ?_) hs hpl))
  · refine h1 σ H r _ fun v H0 k0 r0 x0 a0 => ?_
    refine h2 σ H0 r0 _ fun v' H1 k1 r1 x1 a1 => ?_
    have k0' := k0.ex x1 a1
    cases k0'
    cases k1
    refine ⟨lo, hi, rfl, fun a ha => ?_⟩
    obtain ⟨r1', xg⟩ := r1.grow (Ex.new (o := .rng lo hi) ha)
    refine h3 σ _ r1' _ fun v3 H3 k3 r3 x3 a3 => ?_
    cases k3
    have hin : a ∉ Hd b S3 := r1.rm.fresh ha
    have e3 : hide (Hd b S1) H3 a = some (.rng lo hi) := x3 a _ (hide_new hin)
    exact ⟨a, rfl, (hide_some e3).1, fun J hJ => q J H3 hJ r3 (((x0.trans x1).trans xg).trans x3) fun c hc => a3 c (a1 c (a0 c hc))⟩
  · obtain ⟨a, rfl, ha1, q1⟩ := q1
    cases r1 with
    | cons ra rr =>
      cases rr with
      | cons rk rr =>
        cases rr
        cases ra
        obtain ⟨tk0, rfl⟩ := rk
        obtain ⟨t, u, v, hR⟩ := I1.hok a _ ha1
        have hrs : Builtin.Range.rangeSize lo hi 1 = ((hi - lo).toNat : Int) := by rw [rangeSize_one]; split <;> omega
        refine call_cb (n := (hi - lo).toNat) hk hz (I1.ok.hd hc) hR (small_one hb.1 hb.2.1 hb.2.2.1 hb.2.2.2) hrs fun h' tk acc hkp hacc => ?_
        have e4 : (h'.push { cls := .type "tuple", data := .seq acc }).objs.size = h'.objs.size + 1 := Heap.size_push ..
        have g1 : ((h'.push { cls := .type "tuple", data := .seq acc }).push { cls := .type "itertools.combinations", data := .fields (#[.ref h'.objs.size, .int 0 0, .none] ++ ixF (List.range k)) }).get? (h'.objs.size + 1) = some { cls := .type "itertools.combinations", data := .fields (#[.ref h'.objs.size, .int 0 0, .none] ++ ixF (List.range k)) } := by
          rw [← e4]
          exact Heap.get?_push_size _ rfl
        have g2 : ((h'.push { cls := .type "tuple", data := .seq acc }).push { cls := .type "itertools.combinations", data := .fields (#[.ref h'.objs.size, .int 0 0, .none] ++ ixF (List.range k)) }).get? h'.objs.size = some { cls := .type "tuple", data := .seq acc } :=
          Heap.get?_push_of_some _ (Heap.get?_push_size _ rfl)
        refine cb_iter (mode := 0) (last := .none) (idx := List.range k) (pool := h'.objs.size) g1 ?_
        have keep : ∀ b o, s1.heap.get? b = some o → ((h'.push { cls := .type "tuple", data := .seq acc }).push { cls := .type "itertools.combinations", data := .fields (#[.ref h'.objs.size, .int 0 0, .none] ++ ixF (List.range k)) }).get? b = some o := fun b o e => Heap.get?_push_of_some _ (Heap.get?_push_of_some _ (hkp b o e))
        have I2 : Inv X pins σ H1 { s1 with heap := h' } := I1.kept (t' := s1.toks) hkp
        refine ⟨h'.objs.size + 1, [h'.objs.size + 1, h'.objs.size], _, _, H1, rfl, I1.kept (t' := tk) keep, turn_cb (h'.objs.size + 1) h'.objs.size lo (hi - lo).toNat k L C, ?_, fun b hb => ?_, q1 _ jseq_cb⟩
        · exact ⟨Nat.zero_le _, Nat.succ_ne_self _, ⟨_, acc, 0, g2, rfl, hacc⟩, .inl ⟨rfl, _, g1⟩⟩
        · have hb' : b = h'.objs.size + 1 ∨ b = h'.objs.size := by simpa using hb
          have hb2 : h'.objs.size ≤ b := by
            rcases hb' with e | e
            · rw [e]; exact Nat.le_succ _
            · rw [e]; exact Nat.le_refl _
          exact I2.fpOk hb2 (I2.hok.fresh hb2)
end
end CB
end
section
set_option Elab.async false
set_option linter.all false
set_option maxRecDepth 100000
set_option maxHeartbeats 4000000
namespace DX
open PySem PySem.Spec PyProof.Rows L2
set_option autoImplicit false
theorem perm_key_unique {α : Type} (f : α → Int) : ∀ {ys zs : List α}, ys.Perm zs → ys.Pairwise (fun a c => f a ≤ f c) → zs.Pairwise (fun a c => f a < f c) → ys = zs := by
  intro ys zs
  induction zs generalizing ys with
  | nil => intro h _ _; exact h.eq_nil
  | cons z zs ih =>
    intro h h1 h2
    cases ys with
    | nil => exact absurd h.length_eq (by simp)
    | cons y ys =>
      have hz := List.pairwise_cons.mp h2
      have hy := List.pairwise_cons.mp h1
      have e : y = z := by
        have m1 : y ∈ z :: zs := h.mem_iff.mp List.mem_cons_self
        have m2 : z ∈ y :: ys := h.mem_iff.mpr List.mem_cons_self
        rcases List.mem_cons.mp m1 with e | m1
        · exact e
        · rcases List.mem_cons.mp m2 with e | m2
          · exact e.symm
          · have := hz.1 y m1
            have := hy.1 z m2
            omega
      subst e
      rw [ih (List.perm_cons y |>.mp h) hy.2 hz.2]
theorem dpAll_perm {K : PySem.W.Frag} {H : Hp} {xs ys : List V} (h : ys.Perm xs) : ∀ {ds : List PyData}, DpAll K H xs ds → ∃ ds' : List PyData, ds'.Perm ds ∧ DpAll K H ys ds' := by
  induction h with
  | nil => intro ds h; exact ⟨ds, .refl _, h⟩
  | cons x _ ih =>
    intro ds h
    cases h with
    | cons h hs =>
      obtain ⟨ds', p, q⟩ := ih hs
      exact ⟨_, p.cons _, .cons h q⟩
  | swap x y l =>
    intro ds h
    cases h with
    | cons h hs =>
      cases hs with
      | cons h' hs => exact ⟨_, .swap _ _ _, .cons h' (.cons h hs)⟩
  | trans _ _ ih1 ih2 =>
    intro ds h
    obtain ⟨d1, p1, q1⟩ := ih2 h
    obtain ⟨d2, p2, q2⟩ := ih1 q1
    exact ⟨d2, p2.trans p1, q2⟩
theorem perm_map_inv {α β : Type} (f : α → β) {zs : List β} : ∀ {ls : List α}, zs.Perm (ls.map f) → ∃ ms : List α, zs = ms.map f ∧ ms.Perm ls := by
  intro ls h
  generalize e : ls.map f = ys at h
  induction h generalizing ls with
  | nil => exact ⟨[], rfl, by rw [List.map_eq_nil_iff.mp e]⟩
  | cons x _ ih =>
    cases ls with
    | nil => cases e
    | cons a ls =>
      cases e
      obtain ⟨ms, rfl, p⟩ := ih rfl
      exact ⟨a :: ms, rfl, p.cons a⟩
  | swap x y l =>
    cases ls with
    | nil => cases e
    | cons a ls =>
      cases ls with
      | nil => cases e
      | cons c ls =>
        cases e
        exact ⟨c :: a :: ls, rfl, .swap _ _ _⟩
  | trans _ _ ih1 ih2 =>
    obtain ⟨ms, rfl, p⟩ := ih2 e
    obtain ⟨ns, rfl, p2⟩ := ih1 rfl
    exact ⟨ns, rfl, p2.trans p⟩
section
variable {X : Cx} {b : Bs} {S S1 S2 S3 S' : DS} {x y z : DV} {pos : Pos} {D : DE}
/-- sorted(xs) of tuples of as many ints each -/
theorem rc_sortT {d : Nat} {B : Int} {ls ms : List (List Int)} (hK : X.K = b.K) (hz : ls.length < 64) (hb : ∀ l ∈ ls, l.length = d ∧ TS.Bd B l) (hp : ms.Perm ls) (hs : ms.Pairwise fun a c => TS.code B a < TS.code B c) :
    RC b (rSortU X.K d B) [.d (.list (ls.map intsD))] S (.d (.list (ms.map intsD))) := by
  intro H vs rm hv Q q
  obtain ⟨v, rfl, k⟩ := vall1 hv
  cases k with
  | lst hs1 ha =>
    rename_i a xs
    have tup : ∀ {x : V} {n : List Int} {A : List Addr} {H0 : Hp}, Dp b.K (hide A H0) x (intsD n) → TupI X.K H0 x n := fun {x n A H0} h => by
      unfold intsD at h
      cases h with
      | tup h1 a1 =>
        rw [dp_ints a1] at h1
        exact ⟨_, rfl, by rw [hK]; exact ex_t hide_ex h1⟩
    refine ⟨a, xs, rfl, by rw [hK]; exact ex_l hide_ex hs1, by rw [DpAll.len ha, List.length_map]; exact hz, fun x hx => ?_, fun ys p py ps hp0 => ?_⟩
    · obtain ⟨i, hi⟩ := List.getElem?_of_mem hx
      obtain ⟨dd, e1, e2⟩ := dpAll_getV ha hi
      obtain ⟨l, hl, rfl⟩ := List.mem_map.mp (List.mem_of_getElem? e1)
      exact ⟨l, tup e2, (hb l hl).1, (hb l hl).2⟩
    · obtain ⟨ds', p1, p2⟩ := dpAll_perm py ha
      obtain ⟨ks, rfl, p3⟩ := perm_map_inv intsD p1
      have hk : ks.Pairwise fun a c => TS.code B a ≤ TS.code B c := by
        refine List.pairwise_iff_getElem.mpr fun i j hi hj hij => ?_
        obtain ⟨u, e1, e2⟩ := dpAll_get p2 (i := i) (d := intsD ks[i]) (by rw [List.getElem?_map, List.getElem?_eq_getElem hi]; rfl)
        obtain ⟨w, e3, e4⟩ := dpAll_get p2 (i := j) (d := intsD ks[j]) (by rw [List.getElem?_map, List.getElem?_eq_getElem hj]; rfl)
        obtain ⟨li, ei⟩ := List.getElem?_eq_some_iff.mp e1
        obtain ⟨lj, ej⟩ := List.getElem?_eq_some_iff.mp e3
        have := List.pairwise_iff_getElem.mp ps i j li lj hij
        rw [ei, ej] at this
        exact this _ _ (tup e2) (tup e4)
      have e := perm_key_unique (TS.code B) (p3.trans hp.symm) hk hs
      subst e
      obtain ⟨r2, x2⟩ := rm.grow (Ex.new (o := .lst ys) hp0)
      exact q _ _ (.lst (.inl (.inl (hide_new (rm.fresh hp0)))) (DpAll.ex x2 p2)) (Ex.new hp0)
end
end DX
end
section
set_option Elab.async false
set_option linter.all false
set_option maxRecDepth 100000
set_option maxHeartbeats 4000000
namespace DX
open PySem PySem.Spec PyProof.Rows L2
set_option autoImplicit false
section
variable {X : Cx} {b : Bs} {S S1 S2 S3 S' : DS} {x y z : DV} {pos : Pos} {D : DE}
theorem ev_ifS {c e1 e2 : Expr} {t : Bool} (h : ET X b c S t S1) (h1 : t = true → EV X b e1 S1 x S') (h2 : t = false → EV X b e2 S1 x S') : EV X b (.IfExp c e1 e2 pos) S x S' := by
  intro σ H r Q q
  refine wE_of (pe_ifExp (ptW _) (peW _) (peW _)) (h σ H r _ fun H1 r1 x1 a1 => ?_)
  cases t with
  | true => exact h1 rfl σ H1 r1 Q fun v H2 k2 r2 x2 a2 => q v H2 k2 r2 (x1.trans x2) fun a ha => a2 a (a1 a ha)
  | false => exact h2 rfl σ H1 r1 Q fun v H2 k2 r2 x2 a2 => q v H2 k2 r2 (x1.trans x2) fun a ha => a2 a (a1 a ha)
/-- a call that reads a list that will change, and answers a truth value -/
theorem ev_callRd {k : Nat} {fa : Addr} {fd : FuncData} {ps : List Str} {f : List PyData → PyData → Prop} {nm : Str} {p : Pos} {e1 e2 : Expr} {d1 : PyData} {a : Addr} {ms : List PyData} {c : Bool} {E : XK} {CX : CXT}
    (F : FnOk X.prog X.w X.K X.mg X.base CX k fa fd ps (FP X.K f)) (hK : X.K = b.K) (hr : Room k X.A) (hg : Gl X nm) (hm : X.mg nm = some (.ref fa)) (kp : PySem.W.keepIn X.K (.ref fa) = true) (hb : L2.Binds X.K fd ps []) (hx : Passes CX X E)
    (ha : EA X b [e1, e2] S [.d d1, .m a] S1) (hin : (a, MO.lst ms) ∈ S1.m) (hf : f [d1, .list ms] (.bool c)) (hdb : (nm == ("__debug__" : Str)) = false := by decide)
    (he : starEach [e1, e2] X.env = (false, eval e1 X.env) :: starEach [e2] X.env := by rfl) (hpl : (backTo pos (starEach [e2] X.env)).any (·.1) = false := by rfl) : EV X b (.Call (.Name nm p) [e1, e2] [] pos) S (.d (.bool c)) S1 := by
  intro σ H r Q q
  refine wE_of (pe_call F hr hg hm kp hb .nil hx (paW _) hdb he hpl) (ha σ H r _ fun vs H1 k1 r1 x1 a1 => ?_)
  show FP X.K f (vs ++ []) H1 Q E
  rw [List.append_nil, hK]
  obtain ⟨u, v, rfl, ku, kv⟩ := vall2 k1
  obtain ⟨rfl, hA⟩ := kv
  obtain ⟨us, e1, e2⟩ := r1.rm.mem _ hin
  have sub : Ex (hide (Hd b S1) H1) (hide ((Hd b S1).filter fun c => decide (c ≠ a)) H1) := hide_sub fun c hc => (List.mem_filter.mp hc).1
  have ea : hide ((Hd b S1).filter fun c => decide (c ≠ a)) H1 a = some (.lst us) := by
    rw [hide_out (by simp)]
    exact e1
  refine ⟨(Hd b S1).filter fun c => decide (c ≠ a), [d1, .list ms], .bool c, fun c hc => r1.rm.tracked c (List.mem_filter.mp hc).1, .cons (Dp.ex sub ku) (.cons (.lst (.inl (.inl ea)) (DpAll.ex sub e2)) .nil), hf, fun v H2 x2 k2 => ?_⟩
  obtain ⟨r2, x3⟩ := r1.grow x2
  cases k2
  exact q _ H2 (.bl _) r2 (x1.trans x3) a1
/-- x not in a list that will change -/
theorem rv_notInM {d : PyData} {a : Addr} {ms : List PyData} (hK : X.K = b.K) (hin : (a, MO.lst ms) ∈ S.m) (s1 : SeqAt.shaped d = true) (s2 : SeqAt.shaped (.list ms) = true) : RV b (rNotInD X.K) (.d d) (.m a) S (.d (.bool (!ms.any fun z => PyData.eqv z d))) := by
  intro H u v rm hu hv Q q
  obtain ⟨rfl, hA⟩ := hv
  obtain ⟨us, e1, e2⟩ := rm.mem _ hin
  exact ⟨d, ms, by rw [hK]; exact Dp.ex hide_ex hu, by rw [hK]; exact .lst (.inl (.inl e1)) (DpAll.ex hide_ex e2), s1, s2, q _ H (.bl _) (fun _ h => h) (Ex.refl _)⟩
theorem et_notInM {e1 e2 : Expr} {d : PyData} {a : Addr} {ms : List PyData} (hK : X.K = b.K) (hu : X.A.units + 65 < cLine) (h1 : EV X b e1 S (.d d) S1) (h2 : EV X b e2 S1 (.m a) S2) (hin : (a, MO.lst ms) ∈ S2.m) (s1 : SeqAt.shaped d = true) (s2 : SeqAt.shaped (.list ms) = true) (hm : behindInMarks .NotIn e2 = false := by rfl) :
    ET X b (.Compare e1 [.NotIn] [e2] pos) S (!ms.any fun z => PyData.eqv z d) S2 := et_cmp (op_notInD hu) hm h1 h2 (rv_notInM hK hin s1 s2)
/-- x (not) in a list of data -/
theorem rv_notInD {d : PyData} {ms : List PyData} (hK : X.K = b.K) (s1 : SeqAt.shaped d = true) (s2 : SeqAt.shaped (.list ms) = true) : RV b (rNotInD X.K) (.d d) (.d (.list ms)) S (.d (.bool (!ms.any fun z => PyData.eqv z d))) := by
  intro H u v rm hu hv Q q
  exact ⟨d, ms, by rw [hK]; exact Dp.ex hide_ex hu, by rw [hK]; exact Dp.ex hide_ex hv, s1, s2, q _ H (.bl _) (fun _ h => h) (Ex.refl _)⟩
theorem et_notInD {e1 e2 : Expr} {d : PyData} {ms : List PyData} (hK : X.K = b.K) (hu : X.A.units + 65 < cLine) (h1 : EV X b e1 S (.d d) S1) (h2 : EV X b e2 S1 (.d (.list ms)) S2) (s1 : SeqAt.shaped d = true) (s2 : SeqAt.shaped (.list ms) = true) (hm : behindInMarks .NotIn e2 = false := by rfl) :
    ET X b (.Compare e1 [.NotIn] [e2] pos) S (!ms.any fun z => PyData.eqv z d) S2 := et_cmp (op_notInD hu) hm h1 h2 (rv_notInD hK s1 s2)
/-- name = list(t), a list that will change -/
theorem sy_newLF {nm : Str} {i : Nat} {e : Expr} {pos' p p2 : Pos} {ds : List PyData} (hK : X.K = b.K) (hg : Gl X "list") (hm : X.mg "list" = none) (h : EV X b e S (.d (.tuple ds)) S1) (hN : X.N.Nodup) (hi : X.N[i]? = some nm) (hx : Loc X.env.scope nm) (hl : i < S1.g.length) (hd : ∀ a, D.nx ((S1.add a (.lst ds)).put i (.m a)))
    (he : starEach [e] X.env = (false, eval e X.env) :: starEach [] X.env := by rfl) (hpl : (backTo p2 (starEach [] X.env)).any (·.1) = false := by rfl)
    (hs : swapsWith (.Call (.Name "list" p) [e] [] p2) (some (.Name nm pos')) pos.line X.env = pure false := by rfl) (hf : X.fn nm = true ∨ X.env.scope.names.lookup nm = some .local := by first | exact .inl rfl | exact .inr rfl) : SY X b (.Assign [.Name nm pos'] (.Call (.Name "list" p) [e] [] p2) pos) S D := by
  intro σ H r E k
  refine w1_of (ps_set hN hi hx (pe_callTy call_list_of hg hm (by decide +kernel) (pa_cons (peW _) pa_nil he) (by decide) (by decide) he hpl) hs hf) (h σ H r _ fun v H1 k1 r1 x1 a1 => ?_)
  cases k1 with
  | tup hs1 hv =>
    rename_i c vs
    refine ⟨c, vs, rfl, .inr (by rw [hK]; exact ex_t hide_ex hs1), fun a ha => ?_⟩
    have x2 : Ex (hide (Hd b S1) H1) (hide (Hd b S1 ++ [a]) (upd H1 a (.lst vs))) := fun c u e => by
      obtain ⟨e1, e2⟩ := hide_some e
      have hne := ne_of_none e1 ha
      rw [hide_out (by intro q; rcases List.mem_append.mp q with q | q; exact e2 q; exact hne (List.mem_singleton.mp q)), upd_ne hne]
      exact e1
    obtain ⟨r2, x3⟩ := r1.addM (o := .lst ds) ha (Ex.new (o := .lst vs) ha) ⟨vs, upd_same, DpAll.ex x2 hv⟩
    refine k.nx _ _ _ (hd a) (r2.put hl ⟨rfl, by rw [hd_add]; simp⟩) ?_
    exact x1.trans x3
/-- for tg in .., whatever is walked -/
theorem sy_forG {tg iter : Expr} {body : List Stmt} {g : TG} {ds : List PyData} (hp : PassesOwn (model X.prog X.w) X.A X.env X.xe) (hc : X.calm = true) (hi : EI X b tg iter S ds S1) (hg : PG X tg g) (W : Nat → DS → Prop) (h0 : W 0 S1)
    (hs : ∀ (i : Nat) d S', ds[i]? = some d → W i S' → ∃ S2, TG' b (.d d) S' S2 g ∧ Hd b S2 = Hd b S' ∧ SX X b body S2 { D with nx := W (i + 1), ct := W (i + 1), bk := D.nx }) (hd : ∀ S', W ds.length S' → D.nx S')
    (hf : ∀ x : Value, foldedSetIterable iter X.env x = pure x := by intro _; rfl) : SY X b (.For tg iter body [] pos) S D := by
  intro σ H r E k
  refine w1_of (ps_for hp hc (piW tg iter) hg (pssW _) hf) (hi σ H r _ fun J H1 js r1 x1 a1 => ?_)
  refine ⟨fun i m σ' H' => m = ds.length - i ∧ i ≤ ds.length ∧ ∃ S', W i S' ∧ Rel b S' σ' H' ∧ Ex (hide (Hd b S1) H1) (hide (Hd b S') H'), ⟨_, rfl, Nat.zero_le _, S1, h0, r1, Ex.refl _⟩, ?_⟩
  rintro i m σ2 H2 ⟨rfl, hle, S', w, r', e⟩
  obtain ⟨jy, jst⟩ := js i (Hd b S') H2 e r'.rm.tracked
  by_cases hlt : i < ds.length
  · obtain ⟨d, hd1⟩ : ∃ d, ds[i]? = some d := ⟨_, List.getElem?_eq_getElem hlt⟩
    obtain ⟨jgo, jyl⟩ := jy d hd1
    obtain ⟨S2, ht, hh, hb⟩ := hs i d S' hd1 w
    refine .inr ⟨jgo, fun σ' H' => ∃ S3, W (i + 1) S3 ∧ Rel b S3 σ' H' ∧ Ex (hide (Hd b S1) H1) (hide (Hd b S3) H'), fun σ' H' p => ⟨ds.length - (i + 1), by omega, rfl, hlt, p⟩, fun v H3 yy => ?_⟩
    obtain ⟨eg, hd3⟩ := jyl v H3 yy
    obtain ⟨r3, xg⟩ := r'.grow eg
    refine ht v σ2 H3 hd3 r3 _ fun σ4 r4 => ?_
    have eh : Ex (hide (Hd b S1) H1) (hide (Hd b S2) H3) := by rw [hh]; exact e.trans xg
    exact hb σ4 H3 r4 _ ⟨fun S5 σ5 H5 d5 r5 e5 => ⟨S5, d5, r5, eh.trans e5⟩, fun y S5 v5 H5 d5 vo r5 e5 => k.rt y S5 v5 H5 d5 vo r5 ((x1.trans eh).trans e5), fun S5 σ5 H5 d5 r5 e5 => k.nx S5 σ5 H5 d5 r5 ((x1.trans eh).trans e5), fun S5 σ5 H5 d5 r5 e5 => ⟨S5, d5, r5, eh.trans e5⟩⟩
  · have ei : i = ds.length := by omega
    subst ei
    exact .inl ⟨jst (Nat.le_refl _), k.nx _ _ _ (hd S' w) r' (x1.trans e)⟩
/-- range(n) -/
theorem ei_rng1 {tg e1 : Expr} {p1 p2 : Pos} {hi : Int} (hgr : Gl X "range") (hmr : X.mg "range" = none) (h1 : EV X b e1 S (.d (.int hi)) S1) (hb : -(2 ^ 62) ≤ hi ∧ hi < 2 ^ 62)
    (hs1 : starEach [e1] X.env = [(false, eval e1 X.env)] := by rfl) :
    EI X b tg (.Call (.Name "range" p1) [e1] [] p2) S ((intsFrom 0 hi.toNat).map .int) S1 := by
  intro σ H r R q
  refine wI_of (pi_range1 hgr hmr (pa_cons (peW e1) pa_nil hs1) hs1) (h1 σ H r _ fun v H0 k0 r0 x0 a0 => ?_)
  cases k0
  exact ⟨hi, rfl, hb.1, hb.2, q _ _ jseq_rng r0 x0 a0⟩
/-- name = [.. if ..], on one line, by the data walked -/
theorem sy_setLcG1 {lpos py : Pos} {k : Nat} {nm : Str} {elt tg iter t : Expr} {scope : Scope} (own : List (Str × Nat)) {g : TG} {ds : List PyData} (gT : PyData → List DV) {f : PyData → Bool} (q : PyData → PyData)
    (hc : X.calm = true) (hN : X.N.Nodup) (hi : EI X b tg iter S ds S1) (hz : ds.length ≤ 1000) (hB : BlkOk X.N X.env.scope scope own)
    (hpg : ∀ (s : Shared) (H : Hp) (C : Addr) (cl : List (Str × Addr)) (fp : List Addr), PG (X.blk s H scope (compEnvC scope cl C X.env) fp) tg g)
    (hg : ∀ (i : Nat) d, ds[i]? = some d → TGb b (own.map (·.2)) d (gWipe S1.g (own.map (·.2))) (gT d) g)
    (ht : ∀ (i : Nat) d, ds[i]? = some d → ∀ Dl acc, ETb X b scope t ⟨gT d, S1.m ++ [(Dl, .lst acc)]⟩ (f d) ⟨gT d, S1.m ++ [(Dl, .lst acc)]⟩)
    (he : ∀ (i : Nat) d, ds[i]? = some d → f d = true → ∀ Dl acc, EVb X b scope elt ⟨gT d, S1.m ++ [(Dl, .lst acc)]⟩ (.d (q d)) ⟨gT d, S1.m ++ [(Dl, .lst acc)]⟩)
    {z : PyData} (ez : z = .list ((ds.filter f).map q))
    (hy : X.N[k]? = some nm) (hyl : X.env.scope.names.lookup nm = some .local) (hl : k < S1.g.length) (hd : D.nx (S1.put k (.d z))) (hsw : swapsWith (.ListComp elt [⟨tg, iter, [t], 0⟩] scope lpos) (some (.Name nm py)) pos.line X.env = pure true)
    (hf : ∀ x : Value, foldedSetIterable iter X.env x = pure x := by intro _; rfl) : SY X b (.Assign [.Name nm py] (.ListComp elt [⟨tg, iter, [t], 0⟩] scope lpos) pos) S D := by
  refine sy_setLcG (S' := S1) (tt := wTb X scope t) (own := own) (gT := gT) (Ms := fun _ => S1.m) (c := fun i => match ds[i]? with | some d => f d | none => false) (y := fun i => match ds[i]? with | some d => q d | none => .none) hc hN hi hz hB rfl (fun _ => rfl) hpg (fun s H C cl fp => pts_one (ptWb _ _ s H C cl fp)) hg (fun i d hd Dl acc => by rw [show (match ds[i]? with | some d => f d | none => false) = f d by rw [hd]]; exact ttok_one (ht i d hd Dl acc)) (fun i d hd hc Dl acc => by rw [show (match ds[i]? with | some d => q d | none => .none) = q d by rw [hd]]; exact he i d hd (by rw [show (match ds[i]? with | some d => f d | none => false) = f d by rw [hd]] at hc; exact hc) Dl acc) (fun _ _ _ _ => rfl) (by rw [ez, outs_picked (f := f) (g := q)]; intro i d hd; constructor <;> simp only [hd]) rfl hy hyl hl hd hsw hf
end
end DX
end
section
set_option Elab.async false
set_option linter.all false
set_option maxRecDepth 100000
set_option maxHeartbeats 4000000
namespace KC
open PySem PySem.Spec PyProof.Rows L2 DX
set_option autoImplicit false
def topS (i : Nat) : Stmt := PySem.Challenge.pw_treespace_k12_whole_texts.main.body.getD i (.Pass ⟨0, 0, 0, 0⟩)
abbrev s_is_whole : Stmt := topS 6
abbrev N_is_whole : List Str := ["value"]
abbrev P_is_whole : List Str := ["value"]
theorem sc_is_whole : FnScope N_is_whole P_is_whole (defScope s_is_whole) := ⟨rfl, rfl, rfl, by decide +kernel, rfl, by decide +kernel, by decide +kernel⟩
abbrev s_is_pair : Stmt := topS 7
abbrev N_is_pair : List Str := ["value"]
abbrev P_is_pair : List Str := ["value"]
theorem sc_is_pair : FnScope N_is_pair P_is_pair (defScope s_is_pair) := ⟨rfl, rfl, rfl, by decide +kernel, rfl, by decide +kernel, by decide +kernel⟩
abbrev s_is_fraction : Stmt := topS 8
abbrev N_is_fraction : List Str := ["value", "top", "low"]
abbrev P_is_fraction : List Str := ["value"]
theorem sc_is_fraction : FnScope N_is_fraction P_is_fraction (defScope s_is_fraction) := ⟨rfl, rfl, rfl, by decide +kernel, rfl, by decide +kernel, by decide +kernel⟩
abbrev s_rises : Stmt := topS 9
abbrev N_rises : List Str := ["values", "value", "following"]
abbrev P_rises : List Str := ["values"]
theorem sc_rises : FnScope N_rises P_rises (defScope s_rises) := ⟨rfl, rfl, rfl, by decide +kernel, rfl, by decide +kernel, by decide +kernel⟩
abbrev s_is_many : Stmt := topS 14
abbrev N_is_many : List Str := ["value"]
abbrev P_is_many : List Str := ["value"]
theorem sc_is_many : FnScope N_is_many P_is_many (defScope s_is_many) := ⟨rfl, rfl, rfl, by decide +kernel, rfl, by decide +kernel, by decide +kernel⟩
abbrev s_is_lot : Stmt := topS 15
abbrev N_is_lot : List Str := ["many", "value", "tip"]
abbrev P_is_lot : List Str := ["many", "value"]
theorem sc_is_lot : FnScope N_is_lot P_is_lot (defScope s_is_lot) := ⟨rfl, rfl, rfl, by decide +kernel, rfl, by decide +kernel, by decide +kernel⟩
abbrev s_lots_fit : Stmt := topS 16
abbrev N_lots_fit : List Str := ["one", "other", "common", "tip"]
abbrev P_lots_fit : List Str := ["one", "other"]
theorem sc_lots_fit : FnScope N_lots_fit P_lots_fit (defScope s_lots_fit) := ⟨rfl, rfl, rfl, by decide +kernel, rfl, by decide +kernel, by decide +kernel⟩
abbrev s_is_shape : Stmt := topS 17
abbrev N_is_shape : List Str := ["many", "value", "one", "other", "lot"]
abbrev P_is_shape : List Str := ["many", "value"]
theorem sc_is_shape : FnScope N_is_shape P_is_shape (defScope s_is_shape) := ⟨rfl, rfl, rfl, by decide +kernel, rfl, by decide +kernel, by decide +kernel⟩
abbrev s_is_length : Stmt := topS 18
abbrev N_is_length : List Str := ["value", "top", "low"]
abbrev P_is_length : List Str := ["value"]
theorem sc_is_length : FnScope N_is_length P_is_length (defScope s_is_length) := ⟨rfl, rfl, rfl, by decide +kernel, rfl, by decide +kernel, by decide +kernel⟩
abbrev s_is_roads : Stmt := topS 19
abbrev N_is_roads : List Str := ["many", "value", "road"]
abbrev P_is_roads : List Str := ["many", "value"]
theorem sc_is_roads : FnScope N_is_roads P_is_roads (defScope s_is_roads) := ⟨rfl, rfl, rfl, by decide +kernel, rfl, by decide +kernel, by decide +kernel⟩
abbrev s_is_tree : Stmt := topS 20
abbrev N_is_tree : List Str := ["value"]
abbrev P_is_tree : List Str := ["value"]
theorem sc_is_tree : FnScope N_is_tree P_is_tree (defScope s_is_tree) := ⟨rfl, rfl, rfl, by decide +kernel, rfl, by decide +kernel, by decide +kernel⟩
abbrev s_check_tree : Stmt := topS 22
abbrev N_check_tree : List Str := ["value"]
abbrev P_check_tree : List Str := ["value"]
theorem sc_check_tree : FnScope N_check_tree P_check_tree (defScope s_check_tree) := ⟨rfl, rfl, rfl, by decide +kernel, rfl, by decide +kernel, by decide +kernel⟩
abbrev s_text_of : Stmt := topS 26
abbrev N_text_of : List Str := ["tree", "many", "roads", "parts", "lot", "top", "low", "length", "tip"]
abbrev P_text_of : List Str := ["tree"]
theorem sc_text_of : FnScope N_text_of P_text_of (defScope s_text_of) := ⟨rfl, rfl, rfl, by decide +kernel, rfl, by decide +kernel, by decide +kernel⟩
abbrev s_number_of : Stmt := topS 27
abbrev N_number_of : List Str := ["word", "sign"]
abbrev P_number_of : List Str := ["word"]
theorem sc_number_of : FnScope N_number_of P_number_of (defScope s_number_of) := ⟨rfl, rfl, rfl, by decide +kernel, rfl, by decide +kernel, by decide +kernel⟩
abbrev s_road_of : Stmt := topS 28
abbrev N_road_of : List Str := ["part", "lot_text", "_", "length_text", "top", "stroke", "low_text", "lot", "low", "word"]
abbrev P_road_of : List Str := ["part"]
theorem sc_road_of : FnScope N_road_of P_road_of (defScope s_road_of) := ⟨rfl, rfl, rfl, by decide +kernel, rfl, by decide +kernel, by decide +kernel⟩
abbrev s_write : Stmt := topS 29
abbrev N_write : List Str := ["tree"]
abbrev P_write : List Str := ["tree"]
theorem sc_write : FnScope N_write P_write (defScope s_write) := ⟨rfl, rfl, rfl, by decide +kernel, rfl, by decide +kernel, by decide +kernel⟩
abbrev s_read : Stmt := topS 30
abbrev N_read : List Str := ["text", "many", "_", "rest", "tree", "part"]
abbrev P_read : List Str := ["text"]
theorem sc_read : FnScope N_read P_read (defScope s_read) := ⟨rfl, rfl, rfl, by decide +kernel, rfl, by decide +kernel, by decide +kernel⟩
abbrev s_law_taken : Stmt := topS 32
abbrev N_law_taken : List Str := ["row", "many", "cell", "found"]
abbrev P_law_taken : List Str := ["row", "many"]
theorem sc_law_taken : FnScope N_law_taken P_law_taken (defScope s_law_taken) := ⟨rfl, rfl, rfl, by decide +kernel, rfl, by decide +kernel, by decide +kernel⟩
abbrev s_law_pick : Stmt := topS 33
abbrev N_law_pick : List Str := ["row", "things"]
abbrev P_law_pick : List Str := ["row", "things"]
theorem sc_law_pick : FnScope N_law_pick P_law_pick (defScope s_law_pick) := ⟨rfl, rfl, rfl, by decide +kernel, rfl, by decide +kernel, by decide +kernel⟩
abbrev s_law_alike : Stmt := topS 34
abbrev N_law_alike : List Str := ["found", "due", "k"]
abbrev P_law_alike : List Str := ["found", "due"]
theorem sc_law_alike : FnScope N_law_alike P_law_alike (defScope s_law_alike) := ⟨rfl, rfl, rfl, by decide +kernel, rfl, by decide +kernel, by decide +kernel⟩
abbrev s_law_fr : Stmt := topS 35
abbrev N_law_fr : List Str := ["top", "low", "a", "b"]
abbrev P_law_fr : List Str := ["top", "low"]
theorem sc_law_fr : FnScope N_law_fr P_law_fr (defScope s_law_fr) := ⟨rfl, rfl, rfl, by decide +kernel, rfl, by decide +kernel, by decide +kernel⟩
abbrev s_law_fit : Stmt := topS 36
abbrev N_law_fit : List Str := ["one", "other", "both", "tip"]
abbrev P_law_fit : List Str := ["one", "other"]
theorem sc_law_fit : FnScope N_law_fit P_law_fit (defScope s_law_fit) := ⟨rfl, rfl, rfl, by decide +kernel, rfl, by decide +kernel, by decide +kernel⟩
abbrev s_law_all_fit : Stmt := topS 37
abbrev N_law_all_fit : List Str := ["lot", "lots", "other"]
abbrev P_law_all_fit : List Str := ["lot", "lots"]
theorem sc_law_all_fit : FnScope N_law_all_fit P_law_all_fit (defScope s_law_all_fit) := ⟨rfl, rfl, rfl, by decide +kernel, rfl, by decide +kernel, by decide +kernel⟩
abbrev s_law_lots : Stmt := topS 38
abbrev N_law_lots : List Str := ["many", "found", "tip", "lot"]
abbrev P_law_lots : List Str := ["many"]
theorem sc_law_lots : FnScope N_law_lots P_law_lots (defScope s_law_lots) := ⟨rfl, rfl, rfl, by decide +kernel, rfl, by decide +kernel, by decide +kernel⟩
abbrev s_law_length : Stmt := topS 39
abbrev N_law_length : List Str := ["row", "way"]
abbrev P_law_length : List Str := ["row"]
theorem sc_law_length : FnScope N_law_length P_law_length (defScope s_law_length) := ⟨rfl, rfl, rfl, by decide +kernel, rfl, by decide +kernel, by decide +kernel⟩
abbrev s_law_shape : Stmt := topS 40
abbrev N_law_shape : List Str := ["row", "many", "held", "roads", "found", "turn", "free", "lot"]
abbrev P_law_shape : List Str := ["row", "many", "held", "roads"]
theorem sc_law_shape : FnScope N_law_shape P_law_shape (defScope s_law_shape) := ⟨rfl, rfl, rfl, by decide +kernel, rfl, by decide +kernel, by decide +kernel⟩
abbrev s_law_tree : Stmt := topS 41
abbrev N_law_tree : List Str := ["row", "many", "held", "roads", "lot"]
abbrev P_law_tree : List Str := ["row", "many", "held"]
theorem sc_law_tree : FnScope N_law_tree P_law_tree (defScope s_law_tree) := ⟨rfl, rfl, rfl, by decide +kernel, rfl, by decide +kernel, by decide +kernel⟩
abbrev s_law_told : Stmt := topS 42
abbrev N_law_told : List Str := ["work", "e"]
abbrev P_law_told : List Str := ["work"]
theorem sc_law_told : FnScope N_law_told P_law_told (defScope s_law_told) := ⟨rfl, rfl, rfl, by decide +kernel, rfl, by decide +kernel, by decide +kernel⟩
abbrev s_law : Stmt := topS 43
abbrev N_law : List Str := ["script", "row", "tree", "due", "lot", "length", "at", "sign", "bent", "told", "found", "odd_odds", "odd", "e", "tip"]
abbrev P_law : List Str := ["script"]
theorem sc_law : FnScope N_law P_law (defScope s_law) := ⟨rfl, rfl, rfl, by decide +kernel, rfl, by decide +kernel, by decide +kernel⟩
structure Tx (K : PySem.W.Frag) (mg : Str → Option Value) where
  d_is_whole : Def1 K mg "is_whole" s_is_whole P_is_whole
  d_is_pair : Def1 K mg "is_pair" s_is_pair P_is_pair
  d_is_fraction : Def1 K mg "is_fraction" s_is_fraction P_is_fraction
  d_rises : Def1 K mg "rises" s_rises P_rises
  d_is_many : Def1 K mg "is_many" s_is_many P_is_many
  d_is_lot : Def1 K mg "is_lot" s_is_lot P_is_lot
  d_lots_fit : Def1 K mg "lots_fit" s_lots_fit P_lots_fit
  d_is_shape : Def1 K mg "is_shape" s_is_shape P_is_shape
  d_is_length : Def1 K mg "is_length" s_is_length P_is_length
  d_is_roads : Def1 K mg "is_roads" s_is_roads P_is_roads
  d_is_tree : Def1 K mg "is_tree" s_is_tree P_is_tree
  d_check_tree : Def1 K mg "check_tree" s_check_tree P_check_tree
  d_text_of : Def1 K mg "text_of" s_text_of P_text_of
  d_number_of : Def1 K mg "number_of" s_number_of P_number_of
  d_road_of : Def1 K mg "road_of" s_road_of P_road_of
  d_write : Def1 K mg "write" s_write P_write
  d_read : Def1 K mg "read" s_read P_read
  d_law_taken : Def1 K mg "_law_taken" s_law_taken P_law_taken
  d_law_pick : Def1 K mg "_law_pick" s_law_pick P_law_pick
  d_law_alike : Def1 K mg "_law_alike" s_law_alike P_law_alike
  d_law_fr : Def1 K mg "_law_fr" s_law_fr P_law_fr
  d_law_fit : Def1 K mg "_law_fit" s_law_fit P_law_fit
  d_law_all_fit : Def1 K mg "_law_all_fit" s_law_all_fit P_law_all_fit
  d_law_lots : Def1 K mg "_law_lots" s_law_lots P_law_lots
  d_law_length : Def1 K mg "_law_length" s_law_length P_law_length
  d_law_shape : Def1 K mg "_law_shape" s_law_shape P_law_shape
  d_law_tree : Def1 K mg "_law_tree" s_law_tree P_law_tree
  d_law_told : Def1 K mg "_law_told" s_law_told P_law_told
  d_law : Def1 K mg "law" s_law P_law
  c_TreeError : Addr
  m_TreeError : mg "TreeError" = some (.ref c_TreeError)
  c_BadTree : Addr
  m_BadTree : mg "BadTree" = some (.ref c_BadTree)
  c_BadText : Addr
  m_BadText : mg "BadText" = some (.ref c_BadText)
  i_gcd : mg "gcd" = some (.builtin "math.gcd")
  g_FEWEST_TIPS : ∃ t, mg "FEWEST_TIPS" = some (Value.int (3) t)
  g_MOST_TIPS : ∃ t, mg "MOST_TIPS" = some (Value.int (6) t)
  g_LONGEST : ∃ t, mg "LONGEST" = some (Value.int (500) t)
  g_DIGITS : ∃ t, mg "DIGITS" = some (Value.str ("0123456789") t)
  g_MOST_DIGITS : ∃ t, mg "MOST_DIGITS" = some (Value.int (3) t)
  n_ValueError : mg "ValueError" = none
  n_all : mg "all" = none
  n_bool : mg "bool" = none
  n_int : mg "int" = none
  n_isinstance : mg "isinstance" = none
  n_len : mg "len" = none
  n_list : mg "list" = none
  n_max : mg "max" = none
  n_range : mg "range" = none
  n_sorted : mg "sorted" = none
  n_str : mg "str" = none
  n_tuple : mg "tuple" = none
  n_zip : mg "zip" = none
end KC
end
section
set_option Elab.async false
set_option linter.all false
set_option maxRecDepth 100000
set_option maxHeartbeats 4000000
namespace DX
open PySem PySem.Spec PyProof.Rows L2
set_option autoImplicit false
/-! errors of the program's own: raised without arguments -/
abbrev veB : List Value := [.type "ValueError", .type "Exception", .type "BaseException", .type "object"]
/-- what the written part says of an own error class -/
structure ExcK (K : PySem.W.Frag) (C : Addr) : Prop where
  ex : PySem.W.excIn K C veB "ValueError.__new__" = true
  kp : PySem.W.keepIn K (.ref C) = true
  sb : PySem.W.subIn K (.ref C) (.type "BaseException") = some true
  ty : PySem.W.typeIn K (.ref C) = some (.type "type")
theorem pmk_bare {X : Cx} {C : Addr} {x : Str} {p pos : Pos} (T : ExcK X.K C) (gC : X.mg x = some (.ref C)) (hg : Gl X x) (hdb : (x == ("__debug__" : Str)) = false := by decide) :
    PMk X (.Call (.Name x p) [] [] pos) (fun _ H Q => Q (.ref C) none H) := by
  intro pins s σ H Q I h
  have r : Raises X (.ref C) := raises_own T.sb T.ty
  refine wpAny_Call_Name_kw (ld_glob I hg gC ?_ hdb)
  refine PySem.W.callWith_K0 (first := []) I.kIn T.kp ?_
  show wpAny _ _ (call (.ref C) []) _ _ _
  obtain ⟨bm, N, nm, qn, bs, hdct, sn, sub, ab, col, dd, k0, k1, k2, k3, k5, mN, hC, hN, hni, hT⟩ := exc_obj I.kIn T.ex
  refine wpAny_call_exc_subT PySem.F.excBase_ValueError hT hC hN hni (fun h' e hm => ?_) (by show 0 ≤ sizeLine; omega)
  exact mk_of I hm r h (I.hok.gone hm.new)
section
variable {X : Cx} {b : Bs} {S : DS} {D : DE} {pos : Pos}
theorem sy_raise0 {C : Addr} {x : Str} {p p2 : Pos} {EE : XK} (T : ExcK X.K C) (gC : X.mg x = some (.ref C)) (hg : Gl X x) (hc : X.calm = true) (tk : Takes X (fun cls d _ H => EE cls d H)) (hE : ∀ H', RelM b S H' → EE (.ref C) none H')
    (hdb : (x == ("__debug__" : Str)) = false := by decide) : SY X b (.Raise (some (.Call (.Name x p) [] [] p2)) none pos) S D := fun σ H r E k =>
  w1_of (ps_raise hc tk (pmk_bare T gC hg hdb)) (hE H r.rm)
end
end DX
end
section
set_option Elab.async false
set_option linter.all false
set_option maxRecDepth 100000
set_option maxHeartbeats 4000000
namespace DX
open PySem PySem.Spec PyProof.Rows L2
set_option autoImplicit false
section
variable {X : Cx} {b : Bs} {S S1 : DS} {D : DE} {pos lpos py : Pos}
/-- name = [..] over a tuple, on one line -/
theorem sy_setLcT {i : Nat} {nm : Str} {elt tg iter : Expr} {scope : Scope} (own : List (Str × Nat)) {g : TG} {ds : List PyData} (gT : PyData → List DV) (q : PyData → PyData)
    (hK : X.K = b.K) (hc : X.calm = true) (hN : X.N.Nodup) (hy : X.N[i]? = some nm) (hyl : X.env.scope.names.lookup nm = some .local) (hi : EV X b iter S (.d (.tuple ds)) S1) (hz : ds.length ≤ 1000) (hB : BlkOk X.N X.env.scope scope own)
    (hpg : ∀ (s : Shared) (H : Hp) (C : Addr) (cl : List (Str × Addr)) (fp : List Addr), PG (X.blk s H scope (compEnvC scope cl C X.env) fp) tg g)
    (hg : ∀ (i : Nat) d, ds[i]? = some d → TGb b (own.map (·.2)) d (gWipe S1.g (own.map (·.2))) (gT d) g)
    (he : ∀ (i : Nat) d, ds[i]? = some d → ∀ Dl acc, EVb X b scope elt ⟨gT d, S1.m ++ [(Dl, .lst acc)]⟩ (.d (q d)) ⟨gT d, S1.m ++ [(Dl, .lst acc)]⟩)
    {z : PyData} (ez : z = .list (ds.map q)) (hl : i < S1.g.length) (hd : D.nx (S1.put i (.d z)))
    (hsw : swapsWith (.ListComp elt [⟨tg, iter, [], 0⟩] scope lpos) (some (.Name nm py)) pos.line X.env = pure true)
    (hf : ∀ x : Value, foldedSetIterable iter X.env x = pure x := by intro _; rfl) : SY X b (.Assign [.Name nm py] (.ListComp elt [⟨tg, iter, [], 0⟩] scope lpos) pos) S D := by
  intro σ H r E k
  have eo : PyData.list (outs (fun _ => true) (fun i => match ds[i]? with | some d => q d | none => .none) ds.length) = z := by
    rw [ez, outs_picked (ds := ds) (f := fun _ => true) (g := q) (fun i d h => ⟨rfl, by simp only [h]⟩), List.filter_eq_self.mpr (fun _ _ => rfl)]
  refine w1_of (ps_setLc hc hN hy hyl hsw (pi_tup (peW _)) hB hpg (fun _ _ _ _ _ => pts_nil) (peWb scope elt) hf) (hi σ H r _ fun v H1 k1 r1 x1 a1 => ?_)
  cases k1 with
  | tup hs ha =>
    rename_i a xs
    refine ⟨a, rfl, ⟨xs, by rw [hK]; exact ex_t hide_ex hs⟩, fun Dl hD => ?_⟩
    obtain ⟨Pv, p0, pe, pg, pt, ps, pd⟩ := lc_core2 (own := own) (Q := fun x H1 => gName i x σ H1 E.nx) (X := X) (elt := elt) (scope := scope) (tt := tYes) (Ms := fun _ => S1.m) (c := fun _ => true) (y := fun i => match ds[i]? with | some d => q d | none => .none) hz r1 rfl (fun _ => rfl) hg (fun i d hd Dl acc σ2 H r Q q => ttok_yes σ2 H r Q q)
      (fun i d hd _ Dl acc => by rw [show (match ds[i]? with | some d => q d | none => .none) = q d by rw [hd]]; exact he i d hd Dl acc) (fun _ _ _ _ => rfl) (fun v H' k' r' x' => by
        rw [eo] at k'
        exact k.nx _ _ _ hd (r'.put hl k') (x1.trans x')) Dl hD
    exact lc_tup (K := X.K) Pv p0 (fun i H _ h => by rw [hK]; exact ex_t hide_ex (ex_t (pe i H h) hs)) (fun i x H hx h => by obtain ⟨d, h1, h2⟩ := dpAll_getV ha hx; exact ps i d x H h1 (Dp.ex (pe i H h) h2) h) (by rw [DpAll.len ha]; exact pd)
end
end DX
end
section
set_option Elab.async false
set_option linter.all false
set_option maxRecDepth 100000
set_option maxHeartbeats 4000000
namespace DX
open PySem PySem.Spec PyProof.Rows L2
set_option autoImplicit false
def isNoneD : PyData → Bool
  | .none => true
  | _ => false
theorem dp_typeA {K : PySem.W.Frag} {H H' : Hp} (ex : Ex H H') {v : V} {d : PyData} (h : Dp K H v d) : ∃ t, TyX K H' v t ∧ ∀ T, isCls T → PySem.W.kitOne K t (.type T) = some (isInst d T) := by
  have tab := kit_tab
  cases h with
  | non => exact ⟨_, .base .non, fun T hT => kit_ty (tab T hT).1⟩
  | bl c => exact ⟨_, .base (.bl c), fun T hT => kit_ty (tab T hT).2.1⟩
  | int i => exact ⟨_, .base (.int i), fun T hT => kit_ty (tab T hT).2.2.1⟩
  | str x => exact ⟨_, .base (.str x), fun T hT => kit_ty (tab T hT).2.2.2.1⟩
  | lst hs _ =>
    refine ⟨.type "list", ?_, fun T hT => kit_ty (tab T hT).2.2.2.2.1⟩
    rcases hs with (h | ⟨o, h⟩) | ⟨o, its, n, h1, h2, _⟩
    · exact .base (.lst (ex _ _ h))
    · exact .base (.frz (ex _ _ h))
    · exact .kList h1 h2
  | tup hs _ =>
    refine ⟨.type "tuple", ?_, fun T hT => kit_ty (tab T hT).2.2.2.2.2⟩
    rcases hs with (h | ⟨o, h⟩) | ⟨o, its, n, h1, h2, _⟩
    · exact .base (.tup (ex _ _ h))
    · exact .fTuple (ex _ _ h)
    · exact .kTuple h1 h2
section
variable {X : Cx} {b : Bs} {S S1 : DS} {D : DE} {pos : Pos}
/-- isinstance of data and two built-in classes -/
theorem ev_isi2 {p tp q1 q2 : Pos} {k : Nat} {e : Expr} {n1 n2 : Str} {T1 T2 : String} {d : PyData} (hK : X.K = b.K) (hg : Gl X "isinstance") (hm : X.mg "isinstance" = none) (hg1 : Gl X n1) (hm1 : X.mg n1 = none) (hv1 : bootBuiltins n1 = some (.type T1)) (hT1 : isCls T1)
    (hg2 : Gl X n2) (hm2 : X.mg n2 = none) (hv2 : bootBuiltins n2 = some (.type T2)) (hT2 : isCls T2) (h : EV X b e S (.d d) S1) (hn1 : n1 ≠ "__name__" := by decide) (hd1 : (n1 == ("__debug__" : Str)) = false := by decide) (hn2 : n2 ≠ "__name__" := by decide) (hd2 : (n2 == ("__debug__" : Str)) = false := by decide)
    (hs1 : starEach [.Name n1 q1, .Name n2 q2] X.env = (false, eval (.Name n1 q1) X.env) :: starEach [.Name n2 q2] X.env := by rfl) (hs2 : starEach [.Name n2 q2] X.env = (false, eval (.Name n2 q2) X.env) :: starEach [] X.env := by rfl)
    (he : starEach [e, .Tuple [.Name n1 q1, .Name n2 q2] k tp] X.env = (false, eval e X.env) :: starEach [.Tuple [.Name n1 q1, .Name n2 q2] k tp] X.env := by rfl) (he2 : starEach [.Tuple [.Name n1 q1, .Name n2 q2] k tp] X.env = (false, eval (.Tuple [.Name n1 q1, .Name n2 q2] k tp) X.env) :: starEach [] X.env := by rfl) (hpl : (backTo pos (starEach [.Tuple [.Name n1 q1, .Name n2 q2] k tp] X.env)).any (·.1) = false := by rfl) :
    EV X b (.Call (.Name "isinstance" p) [e, .Tuple [.Name n1 q1, .Name n2 q2] k tp] [] pos) S (.d (.bool (isInst d T1 || isInst d T2))) S1 := by
  intro σ H r Q q
  refine wE_of (pe_callB call_isiT hg hm (by decide +kernel) (pa_cons (peW e) (pa_cons (pe_tup (pa_cons (pe_bltn (v := .ty T1) hg1 hm1 hv1 rfl hn1 hd1) (pa_cons (pe_bltn (v := .ty T2) hg2 hm2 hv2 rfl hn2 hd2) pa_nil hs2) hs1)) pa_nil he2) he) (by decide) (by decide) he hpl) ?_
  refine h σ H r _ fun v H1 k1 r1 x1 a1 => ?_
  refine ⟨by show 2 ≤ sizeLine; rw [sizeLine_eq]; omega, fun tp hp => ?_⟩
  obtain ⟨r2, x2⟩ := r1.grow (Ex.new (o := .tup [.ty T1, .ty T2]) hp)
  obtain ⟨t, t1, t2⟩ := dp_typeA (hide_ex.trans (Ex.new (o := .tup [.ty T1, .ty T2]) hp)) k1
  refine ⟨v, tp, [.ty T1, .ty T2], t, [.type T1, .type T2], _, rfl, upd_same, .cons (.ty T1) (.cons (.ty T2) .nil), by rw [hK]; exact t1, ?_, q _ _ (.bl _) r2 (x1.trans x2) a1⟩
  rw [hK]
  refine kitAny_cons (t2 T1 hT1) (fun hb => ?_) fun hb => ?_
  · refine kitAny_cons (t2 T2 hT2) (fun hb2 => ?_) fun hb2 => ?_
    · rw [hb, hb2]; rfl
    · rw [hb2, Bool.or_true]
  · rw [hb, Bool.true_or]
theorem rv_isN {d : PyData} : RV b (fun x y H Q => y = .non ∧ Q (.bl (decide (x = .non))) H) (.d d) (.d .none) S (.d (.bool (isNoneD d))) := by
  intro H u v rm hu hv Q q
  cases hv
  refine ⟨rfl, q _ H ?_ (fun _ h => h) (Ex.refl _)⟩
  cases hu with
  | non => exact .bl _
  | bl c => rw [decide_eq_false (by intro e; cases e)]; exact .bl _
  | int i => rw [decide_eq_false (by intro e; cases e)]; exact .bl _
  | str x => rw [decide_eq_false (by intro e; cases e)]; exact .bl _
  | lst hs _ => rw [decide_eq_false (by intro e; cases e)]; exact .bl _
  | tup hs _ => rw [decide_eq_false (by intro e; cases e)]; exact .bl _
theorem et_isN {e1 : Expr} {d : PyData} {j} {p2 : Pos} (h1 : EV X b e1 S (.d d) S1) : ET X b (.Compare e1 [.Is] [.Constant .none j p2] pos) S (isNoneD d) S1 := et_cmp op_isN (nobehind _ (by decide) (by decide)) h1 ev_non rv_isN
/-- a comprehension over range(n), with one test -/
theorem ev_lcR1i {elt tg e t : Expr} {p1 p2 : Pos} {scope : Scope} (own : List (Str × Nat)) {g : TG} {n : Nat} (gT : PyData → List DV) (c : Nat → Bool) (y : Nat → PyData)
    (hK : X.K = b.K) (hc : X.calm = true) (hN : X.N.Nodup) (hgr : Gl X "range") (hmr : X.mg "range" = none) (h : EV X b e S (.d (.int (n : Int))) S1) (hz : n ≤ 1000) (hB : BlkOk X.N X.env.scope scope own)
    (hpg : ∀ (s : Shared) (H : Hp) (C : Addr) (cl : List (Str × Addr)) (fp : List Addr), PG (X.blk s H scope (compEnvC scope cl C X.env) fp) tg g)
    (hg : ∀ i : Nat, i < n → TGb b (own.map (·.2)) (.int (i : Int)) (gWipe S1.g (own.map (·.2))) (gT (.int (i : Int))) g)
    (ht : ∀ i : Nat, i < n → ∀ Dl acc, ETb X b scope t ⟨gT (.int (i : Int)), S1.m ++ [(Dl, .lst acc)]⟩ (c i) ⟨gT (.int (i : Int)), S1.m ++ [(Dl, .lst acc)]⟩)
    (he : ∀ i : Nat, i < n → c i = true → ∀ Dl acc, EVb X b scope elt ⟨gT (.int (i : Int)), S1.m ++ [(Dl, .lst acc)]⟩ (.d (y i)) ⟨gT (.int (i : Int)), S1.m ++ [(Dl, .lst acc)]⟩)
    {z : PyData} (ez : z = .list (outs c y n))
    (hs1 : starEach [e] X.env = [(false, eval e X.env)] := by rfl) (hf : ∀ x : Value, foldedSetIterable (.Call (.Name "range" p1) [e] [] p2) X.env x = pure x := by intro _; rfl) :
    EV X b (.ListComp elt [⟨tg, .Call (.Name "range" p1) [e] [] p2, [t], 0⟩] scope pos) S (.d z) S1 := by
  subst ez
  intro σ H r Q q
  refine wE_of (pe_lc hc hN (pi_range1 hgr hmr (pa_cons (peW e) pa_nil hs1) hs1) hB hpg (fun s H C cl fp => pts_one (ptWb scope t s H C cl fp)) (peWb scope elt) hf) (h σ H r _ fun v H1 k1 r1 x1 a1 => ?_)
  cases k1
  refine ⟨(n : Int), rfl, by omega, by omega, fun D hD => ?_⟩
  have hlen : ((intsFrom 0 n).map PyData.int).length = n := by rw [List.length_map, intsFrom_len]
  have get : ∀ {i : Nat} {d : PyData}, ((intsFrom 0 n).map PyData.int)[i]? = some d → i < n ∧ d = .int (i : Int) := fun {i d} e => by
    have hi : i < n := by
      have := (List.getElem?_eq_some_iff.mp e).1
      rwa [hlen] at this
    rw [List.getElem?_map, intsFrom_get hi, Int.zero_add] at e
    exact ⟨hi, (Option.some.inj e).symm⟩
  obtain ⟨Pv, p0, pe, pg, pt, ps, pd⟩ := lc_core2 (own := own) (Q := Q) (X := X) (elt := elt) (scope := scope) (tt := wTb X scope t) (c := c) (y := y) (Ms := fun _ => S1.m) (ds := (intsFrom 0 n).map PyData.int) (by rw [hlen]; exact hz) r1 rfl (fun _ => rfl)
    (fun i d e => by obtain ⟨h, rfl⟩ := get e; exact hg i h) (fun i d e Dl acc σ2 H r Q q => by obtain ⟨h, rfl⟩ := get e; exact ttok_one (ht i h Dl acc) σ2 H r Q q) (fun i d e => by obtain ⟨h, rfl⟩ := get e; exact he i h) (fun _ _ _ _ => rfl)
    (fun v H' k' r' x' => by
      rw [hlen] at k'
      exact q v H' k' r' (x1.trans x') a1) D hD
  refine lc_range (lo := 0) (n := n) Pv p0 (fun i H hi h => ps i (.int (i : Int)) _ H ?_ (by rw [Int.zero_add]; exact .int _) h) (fun H h => pd H ?_)
  · rw [List.getElem?_map, intsFrom_get hi, Int.zero_add]
    rfl
  · rw [List.length_map, intsFrom_len]
    exact h
end
end DX
end
section
set_option Elab.async false
set_option linter.all false
set_option maxRecDepth 100000
set_option maxHeartbeats 4000000
namespace DX
open PySem PySem.Spec PyProof.Rows L2 LamX
set_option autoImplicit false
/-! ### several except clauses, each with a name -/
def goneE (D : Ends) (i : Nat) : Ends := { nx := fun σ' H' => D.nx (σ'.set i none) H', rt := D.rt, bk := fun σ' H' => D.bk (σ'.set i none) H', ct := fun σ' H' => D.ct (σ'.set i none) H' }
def wMA (K : PySem.W.Frag) (Wo : WX) (D : Ends) : List (Value × Nat × TS) → WX
  | [] => Wo
  | x :: r => fun cls d σ H => ∃ b, PySem.W.exmOne K cls x.1 = some b ∧ (b = true → ∀ a, H a = none → x.2.2 (goneE D x.2.1) (σ.set x.2.1 (some (.ref a))) H) ∧ (b = false → wMA K Wo D r cls d σ H)
inductive HdA (X : Cx) : List ExceptHandler → List (Value × Nat × TS) → Prop
  | nil : HdA X [] []
  | cons {x n : Str} {c : Value} {i : Nat} {ts : TS} {b0 : Stmt} {su : List Stmt} {p1 p2 : Pos} {hds : List ExceptHandler} {l : List (Value × Nat × TS)} (hc : Names X x c) (hi : X.N[i]? = some n) (hn : X.env.kindOf n = some .local)
      (hs : ∀ (a : Addr) (pn : List (Addr × Obj)), PSs (X.suite a pn) (b0 :: su) ts) (r : HdA X hds l) : HdA X (.ExceptHandler (some (.Name x p1)) (some n) (b0 :: su) p2 :: hds) ((c, i, ts) :: l)
theorem ps_tryA {X : Cx} {body : List Stmt} {h0 : ExceptHandler} {hds : List ExceptHandler} {l : List (Value × Nat × TS)} {pos : Pos} {tb : WX → TS} {Wo : WX} (hs : X.stack = X.env :: X.outer) (hf : X.env.frame = some X.env.locals) (hN : X.N.Nodup) (tk : Takes X Wo)
    (hb : ∀ (W : WX) (pn : List (Addr × Obj)) (xe : Value → Shared → Prop), Takes (X.tr pn xe) W → PassesOwn (model X.prog X.w) X.A X.env xe → PSs (X.tr pn xe) body (tb W)) (hh : HdA X (h0 :: hds) l) : PS X (.Try body (h0 :: hds) [] [] pos) (fun D σ H => tb (wMA X.K Wo D l) D σ H) := by
  refine ⟨fun pins s σ H D I h => ?_⟩
  have ok := I.ok
  have hfr : X.A.frames = some (X.env :: X.outer) := by rw [ok.frames, hs]
  let xe' : Value → Shared → Prop := fun e s1 => wpAny (model X.prog X.w) X.A (noteFrame e X.env) (fun _ s2 => wpAny (model X.prog X.w) X.A (setFlight e none) (fun _ s3 => wpAny (model X.prog X.w) X.A (handleBy e X.env (h0 :: hds)) (SP X pins D) X.xe s3) X.xe s2) X.xe s1
  have hrun := hb (wMA X.K Wo D l) (X.pn ++ pins) xe' (fun u s' xx => ?_) PassesOwn.looking
  · refine wpAny_Try_except (wpAny_mono (hrun.run [] s σ H D (I.toTry _) h) (fun f s1 hsp => ?_) fun e s1 he => he)
    cases f with
    | next =>
      obtain ⟨σ1, H1, J, q⟩ := hsp
      exact wpAny_execs_nil ⟨σ1, H1, J.ofTry ok, q⟩
    | brk =>
      obtain ⟨σ1, H1, J, q⟩ := hsp
      exact ⟨σ1, H1, J.ofTry ok, q⟩
    | cont =>
      obtain ⟨σ1, H1, J, q⟩ := hsp
      exact ⟨σ1, H1, J.ofTry ok, q⟩
    | ret u =>
      obtain ⟨v, σ1, H1, J, r, q⟩ := hsp
      exact ⟨v, σ1, H1, J.ofTry ok, r, q⟩
  · obtain ⟨a, B, sI, pins', σ1, H1, cls, d, rfl, J0, nb, up, sky, na, os, ag, w⟩ := xx
    have J : Inv X pins σ1 H1 sI := J0.ofTry ok
    have sky1 : Sky B (X.env :: X.outer) a (Zc cls d) X.env.locals s'.heap := by rw [← hs]; exact sky
    show wpAny (model X.prog X.w) X.A (noteFrame (.ref a) X.env) _ _ _
    refine Sky.land Zc.steady hfr hf sky1 fun h3 fl3 up3 => ?_
    have J3 : Inv X pins σ1 H1 { s' with heap := h3 } := J.landed nb fl3.1 (up.trans up3) os ag
    obtain ⟨oe3, vs3, he3, hz3, hd3⟩ := fl3.there
    have off : a ∉ frs (X.env :: X.outer) := fun hm => by
      obtain ⟨_, o1, e1, no⟩ := fl3.2.2.1.mem hm
      rw [he3] at e1
      cases e1
      exact no _ hd3
    have nL : a ≠ X.env.locals := fun z => off (List.mem_filterMap.mpr ⟨X.env, List.mem_cons_self, by rw [hf, z]⟩)
    have nF : a ∉ X.fs := fun hm => by
      obtain ⟨e, he, q⟩ := List.mem_filterMap.mp hm
      exact off (List.mem_filterMap.mpr ⟨e, List.mem_cons_of_mem _ he, q⟩)
    have S3 := J3.suite he3 hd3 na nL nF
    have go : ∀ {hs1 : List ExceptHandler} {l1 : List (Value × Nat × TS)}, HdA X hs1 l1 → wMA X.K Wo D l1 cls d σ1 H1 → wpAny (model X.prog X.w) X.A (handleBy (.ref a) X.env hs1) (SP X pins D) X.xe { s' with heap := h3 } := by
      intro hs1 l1 hk
      induction hk with
      | nil =>
        intro w
        refine wpAny_handleBy_nil ?_
        obtain ⟨k1, k2, k3, oe, vs, T, oT, ts', he, hz, hd, h1, hr⟩ := id fl3
        unfold PySem.passOn
        refine wpAny_bind (wpAny_field he hd h1 ?_)
        rw [if_neg (show ¬ ((Value.ref T == Value.none) = true) from by simp)]
        have fin : wpAny (model X.prog X.w) X.A (setFlight (.ref a) X.env.frame) (fun _ s4 => wpAny (model X.prog X.w) X.A (throw (.ref a) : Sem Flow) (SP X pins D) X.xe s4) X.xe { s' with heap := h3 } := by
          rw [hf]
          refine HandSPX.setFlight_upZ fl3 fun h4 hh4 up4 => wpAny_throw (tk _ _ ?_)
          exact ⟨a, B, sI, pins, σ1, H1, cls, d, rfl, J, nb, (up.trans up3).trans up4, .inr (.inr (by rw [hs]; exact hh4)), na, os, ag, w⟩
        first
          | exact wpAny_bind (wpAny_pure (wpAny_bind fin))
          | exact wpAny_bind fin
      | @cons x n c i ts b0 su p1 p2 hs2 l2 hc hi hn hsu r ih =>
        intro w
        obtain ⟨b, hb1, hyes, hno⟩ := w
        refine wpAny_handleBy_cons (codeAny_handlers_test ?_) (by intro q; cases q)
        have LT : PySem.W.Looks (model X.prog X.w) h3 (typeOf (.ref a)) cls := fun A Q E s k q => wpAny_typeOf_ref (k _ _ he3) (by rw [hz3.1]; exact q)
        have LM := PySem.W.exm_one (M := model X.prog X.w) (J3.kIn) LT hb1
        have test : ∀ {Q : Value → Shared → Prop} {E : Value → Shared → Prop}, Q c { s' with heap := h3 } → wpAny (model X.prog X.w) (X.A.mark (some (.ref a))) (eval (.Name x p1) X.env) Q E { s' with heap := h3 } := fun {Q E} q => by
          obtain ⟨hg, hdbg, hm | ⟨hm, hv, hnn⟩⟩ := hc
          · exact ld_glob (X := X.suite a ((a, oe3) :: (X.pn ++ pins))) S3 hg hm q hdbg
          · exact ld_blt (X := X.suite a ((a, oe3) :: (X.pn ++ pins))) S3 hg hm hv q hnn hdbg
        refine test (LM.here ?_)
        cases b with
        | false =>
          show wpAny _ X.A (handleBy (.ref a) X.env hs2) _ _ _
          exact ih (hno rfl)
        | true =>
          refine codeAny_handlers_suite_as ?_
          refine HandSPX.lands_againZ fl3 fun h4 fl4 up4 => ?_
          have J4 : Inv X pins σ1 H1 { s' with heap := h4 } := J.landed nb fl4.1 ((up.trans up3).trans up4) os ag
          obtain ⟨oe4, vs4, he4, hz4, hd4⟩ := fl4.there
          have S4 := J4.suite he4 hd4 na nL nF
          refine store_ok (X := X.suite a ((a, oe4) :: (X.pn ++ pins))) (v := .ref a) S4 hN hi (.inl hn) rfl (fun s5 S5 => ?_) (.inr hn)
          have endq : ∀ {σ6 : L2.St} {H6 : Hp} {s6 : Shared} {Q : Shared → Prop}, Inv (X.suite a ((a, oe4) :: (X.pn ++ pins))) [] σ6 H6 s6 → (∀ s7, Inv X pins (σ6.set i none) H6 s7 → Q s7) →
              wpAny (model X.prog X.w) X.A (do bindName X.env n .none; unbindBehindTheSuite X.env n p2) (fun _ s7 => Q s7) X.xe s6 := fun {σ6 H6 s6 Q} S6 hq => gone_ok (S6.unsuite ok) hN hi hn hq
          refine wpAny_mono ((hsu a ((a, oe4) :: (X.pn ++ pins))).run [] s5 _ H1 _ S5 (hyes rfl a na)) (fun f s6 hsp => ?_) (fun _ _ z => False.elim z)
          cases f with
          | next =>
            obtain ⟨σ6, H6, S6, q6⟩ := hsp
            exact endq S6 fun s7 J7 => ⟨_, _, J7, q6⟩
          | brk =>
            obtain ⟨σ6, H6, S6, q6⟩ := hsp
            exact endq S6 fun s7 J7 => ⟨_, _, J7, q6⟩
          | cont =>
            obtain ⟨σ6, H6, S6, q6⟩ := hsp
            exact endq S6 fun s7 J7 => ⟨_, _, J7, q6⟩
          | ret u =>
            obtain ⟨v6, σ6, H6, S6, r6, q6⟩ := hsp
            exact endq S6 fun s7 J7 => ⟨_, _, _, J7, r6, q6⟩
    exact go hh w
/-! ### lambdas with or without one default, made -/
section
variable {X : Cx} {pins : List (Addr × Obj)} {σ : L2.St} {H : Hp} {s : Shared}
def ExtP (P : Addr) (H H' : Hp) : Prop := ∀ b o, H b = some o → b ≠ P → H' b = some o
abbrev lamQ (X : Cx) : Str := X.env.qual ++ "<lambda>"
theorem lam_tail {c P : Addr} {params : Arguments} {body : Expr} {scope : Scope} {pos : Pos} {dV : Value} {E : Value → Shared → Prop} {Q : Value → Shared → Prop} (I : Inv X pins σ H s) (TB : TabB X.base X.mg c P) (hcode : X.env.code = .ref c) (hT : TabS H P (lamQ X))
    (hfree : ∀ y ∈ scope.names, y.2 = .free → ∃ c, X.env.cells.lookup y.1 = some c)
    (h : ∀ (f c' : Addr) (doc pm ctv : Value) (H1 : Hp) (s' : Shared), Inv X pins σ H1 s' → ExtP P H H1 → TabS H1 P (lamQ X) → s'.heap.get? f = some (PySem.W.kdv_obj "<lambda>" (lamQ X) params (.expr body) scope (cloFrom X.env.cells scope.names []) dV doc pm c' ctv) →
      H1 f = none → f ∉ frs X.stack → H1 c' = some (CodeO c' (lamQ X)) → (∀ b o, s.heap.get? b = some o → b ≠ P → s'.heap.get? b = some o ∧ (H b = none → H1 b = none)) → Q (.ref f) s') :
    wpAny (model X.prog X.w) X.A (makeTail "<lambda>" (lamQ X) params (.expr body) scope X.env dV .none none pos pos.line) Q E s := by
  obtain ⟨ps, hP, ht, ha⟩ := id hT
  have bP : s.heap.BuiltinsAt X.mg P := TB.bm.keeps I.bk
  have hP' : s.heap.get? P = some { cls := .none, data := .fields ps } := I.hok P _ hP
  have nofr : ∀ f, s.heap.objs.size ≤ f → f ∉ frs X.stack := fun f hf z => by
    rcases List.mem_cons.mp (I.stkSub _ z) with e | e
    · have h1 := I.lt
      rw [← e] at h1
      exact Nat.lt_irrefl _ (Nat.lt_of_lt_of_le h1 hf)
    · exact I.nofs hf e
  cases hc : codeAmong pos ps.toList with
  | none =>
    refine PySem.W.kdv_makeTail (mg := X.mg) (c := c) (P := P) (ps := ps) (closure_ok hfree) I.ok.glob (I.mod.glob.keeps I.bk) hcode (TB.code.keeps I.bk) hP' ht hc TB.gP bP fun c' ctv doc h' tk hx hge hlt hrec htb => ?_
    obtain ⟨c2, oc, vs, t, e2, hoc, hd, hv⟩ := hrec
    cases e2
    have hsz : s.heap.objs.size ≤ h'.objs.size := Nat.le_trans hge (Nat.le_of_lt hlt)
    have nC : H c' = none := I.hok.fresh hge
    have I1 := inv_table (t' := tk) (more := #[rawInt pos.line, rawInt pos.col, .ref c']) (h' := h'.push (PySem.W.kdv_obj "<lambda>" (lamQ X) params (.expr body) scope (cloFrom X.env.cells scope.names []) dV doc ((X.mg "__name__").getD .none) c' ctv)) I hP
      (fun b o hb e => Heap.get?_push_of_some _ (hx b o hb e)) (Heap.get?_push_of_some _ htb) hge ⟨oc, vs, t, Heap.get?_push_of_some _ hoc, hd, hv⟩
    have eL : (ps ++ #[rawInt pos.line, rawInt pos.col, .ref c']).toList = ps.toList ++ [rawInt pos.line, rawInt pos.col, .ref c'] := by simp
    have hE : ExtP P H (upd (upd H P (.tbl (ps ++ #[rawInt pos.line, rawInt pos.col, .ref c']))) c' (CodeO c' (lamQ X))) := fun b o e n => by
      rw [upd_ne (ne_of_none e nC), upd_ne n]
      exact e
    have gone : ∀ b, b < s.heap.objs.size → b ≠ P → H b = none → upd (upd H P (.tbl (ps ++ #[rawInt pos.line, rawInt pos.col, .ref c']))) c' (CodeO c' (lamQ X)) b = none := fun b hb n e => by
      rw [upd_ne (show b ≠ c' by omega), upd_ne n]
      exact e
    have n1 : h'.objs.size ≠ c' := Nat.ne_of_gt hlt
    have n2 : h'.objs.size ≠ P := Nat.ne_of_gt (Nat.lt_of_lt_of_le (Heap.lt_size hP') hsz)
    refine h h'.objs.size c' doc ((X.mg "__name__").getD .none) ctv _ _ I1 hE ⟨_, by rw [upd_ne (ne_of_none hP nC), upd_same], by rw [eL]; exact PySem.TriplesOk_snoc _ _ _ _ ht, fun p' cv hcv => ?_⟩ (Heap.get?_push_size _ rfl) ?_ (nofr _ hsz) upd_same fun b o e n => ⟨Heap.get?_push_of_some _ (hx b o n e), gone b (Heap.lt_size e) n⟩
    · rw [eL] at hcv
      rcases among_app _ ht hcv with z | z
      · obtain ⟨c0, e1, e2⟩ := ha p' cv z
        exact ⟨c0, e1, hE _ _ e2 fun e => by rw [e, hP] at e2; exact codeO_ne ps (Option.some.inj e2).symm⟩
      · exact ⟨c', z, upd_same⟩
    · rw [upd_ne n1, upd_ne n2]
      exact I.hok.fresh hsz
  | some cv =>
    obtain ⟨c', e, hco⟩ := ha pos cv hc
    subst e
    refine PySem.W.kdv_makeTailHit (mg := X.mg) (c := c) (P := P) (ps := ps) (closure_ok hfree) I.ok.glob (I.mod.glob.keeps I.bk) hcode (TB.code.keeps I.bk) hP' ht hc bP fun ctv doc h' tk hx hsz => ?_
    have I1 : Inv X pins σ H { s with heap := h'.push (PySem.W.kdv_obj "<lambda>" (lamQ X) params (.expr body) scope (cloFrom X.env.cells scope.names []) dV doc ((X.mg "__name__").getD .none) c' ctv), toks := tk } := I.kept fun b o e => Heap.get?_push_of_some _ (hx b o e)
    exact h h'.objs.size c' doc ((X.mg "__name__").getD .none) ctv H _ I1 (fun _ _ e _ => e) hT (Heap.get?_push_size _ rfl) (I.hok.fresh hsz) (nofr _ hsz) hco fun b o e _ => ⟨Heap.get?_push_of_some _ (hx b o e), fun e => e⟩
/-! ### the lambda's names, its body entered -/
structure LamA (N : List Str) (sc scope : Scope) : Prop where
  kind : scope.kind = .function
  co : scope.isCoroutine = false
  gen : scope.isGenerator = false
  own : ∀ y ∈ scope.names, y.2 ≠ .cell ∧ (y.2 = .local → y.1 ∉ N)
  free : ∀ y ∈ scope.names, y.2 = .free → sc.names.lookup y.1 = some .cell ∨ sc.names.lookup y.1 = some .free
theorem LamA.has {scope : Scope} (L : LamA X.N X.env.scope scope) (ok : X.Ok) : ∀ y ∈ scope.names, y.2 = .free → ∃ c, X.env.cells.lookup y.1 = some c := fun y hy e => by
  rcases L.free y hy e with k | k
  · exact ok.has _ (.inl k)
  · exact ok.has _ (.inr k)
theorem lamA_start {HZ : Hp} {s1 : Shared} {A : Around} {outer : List Env} {E : XK} {scope : Scope} {f c' : Addr} {h1 : Heap} {tk : Nat} {bnd : List (Str × Value)} (I : Inv X pins σ H s) (L : LamA X.N X.env.scope scope) (e0 : Env0 X.prog X.w X.K X.mg X.base A outer s1 HZ) (hd : A.handled = none)
    (un : Un (frs X.stack) [] H HZ s.heap s1.heap) (hns : h1.Ns s1.heap.objs.size fun y => bnd.reverse.lookup y) (kp : ∀ b o, s1.heap.get? b = some o → h1.get? b = some o) : Inv (lamCx X A outer s1 HZ E scope f c') [] σ HZ { s1 with heap := h1, toks := tk } := by
  have hfree := L.has I.ok
  have back : ∀ {y c}, (cloFrom X.env.cells scope.names []).lookup y = some c → X.env.cells.lookup y = some c := fun {y c} e => by
    rcases cloFrom_mem (PySem.mem_of_lookup e) with hm | ⟨q1, q2⟩
    · cases hm
    · obtain ⟨c1, hc⟩ := hfree _ q1 rfl
      have hc : X.env.cells.lookup y = some c1 := hc
      have e2 : c = c1 := by rw [q2, hc] <;> rfl
      rw [e2]
      exact hc
  have look : ∀ {y}, scope.names.lookup y = some .free → ∃ c, (cloFrom X.env.cells scope.names []).lookup y = some c := fun {y} hl => mem_lookup (cloFrom_has (cells := X.env.cells) (acc := []) (PySem.mem_of_lookup hl))
  have cellK : ∀ {c : Addr} {v : Option Value}, H c = none → s.heap.IsCell c v → h1.IsCell c v := fun {c v} n ⟨o, ho, hd⟩ => by
    obtain ⟨sl, q⟩ := un.any ho n (by simp)
    exact ⟨_, kp _ _ q, hd⟩
  have noA : ∀ b : Addr, b ∉ (lamCx X A outer s1 HZ E scope f c').ex := fun b z => absurd (show b ∈ ([] : List Addr) from z) (by simp)
  refine ⟨⟨e0.mod, L.kind, rfl, rfl, Nat.le_refl _, fun y z c e1 e2 => I.ok.inj y z c (back e1) (back e2), fun y hy => ?_, fun y c z _ => ?_, fun _ => hd, Around.frames_deeper e0.frames, .inr ⟨rfl, rfl⟩, fun b z => absurd z (noA b), e0.bs, e0.bsz, fun b _ _ => noA b,
      fun b z => absurd z (noA b), e0.funs, e0.frf⟩,
    rfl, e0.bare, Un.kept kp, ⟨_, hns, fun i y v e1 e2 e3 => ?_⟩, fun y c e => ?_, e0.hok.fresh (Nat.le_refl _), fun y c e => ?_, fun q hq => absurd (show q ∈ ([] : List (Addr × Obj)) ++ [] from hq) (by simp), e0.hok.kept kp, I.len⟩
  · have hy : scope.names.lookup y = some .cell ∨ scope.names.lookup y = some .free := hy
    rcases hy with hy | hy
    · exact absurd rfl (L.own _ (PySem.mem_of_lookup hy)).1
    · exact look hy
  · have z : false = true := z
    cases z
  · have e3 : Vis scope y := e3
    rcases e3 with k | k | k
    · exact absurd (List.mem_of_getElem? e1) ((L.own _ (PySem.mem_of_lookup k)).2 rfl)
    · exact absurd rfl (L.own _ (PySem.mem_of_lookup k)).1
    · obtain ⟨m, hn, hl⟩ := I.loc
      have hvis : Vis X.env.scope y := (L.free _ (PySem.mem_of_lookup k) rfl).elim (fun k => .inr (.inl k)) (fun k => .inr (.inr k))
      obtain ⟨w', r, q⟩ := hl i y v e1 e2 hvis
      obtain ⟨c2, h2⟩ := look k
      refine ⟨w', r, .inr ⟨.inr k, c2, h2, ?_⟩⟩
      have c1 := back h2
      rcases q with ⟨k', _⟩ | ⟨_, c3, e', z⟩
      · have k' : X.env.scope.names.lookup y = some .local := k'
        rcases L.free _ (PySem.mem_of_lookup k) rfl with k2 | k2 <;> rw [show X.env.scope.names.lookup y = _ from k2] at k' <;> cases k'
      · rw [c1] at e'
        cases e'
        exact cellK (I.freeC y _ c1) z
  · obtain ⟨w', z⟩ := I.cell y c (back e)
    exact ⟨w', cellK (I.freeC y c (back e)) z⟩
  · obtain ⟨v, o, ho, hd⟩ := I.cell y c (back e)
    exact un.free c o ho (I.freeC y c (back e)) (by simp)
/-- work(), in the def that got the lambda -/
theorem pe_actA {CXg : CXT} {Eg : XK} {Ng : List Str} {qg : Str} {sg : Scope} {g f c' : Addr} {cdg doc pm ctv dV : Value} {params : Arguments} {body : Expr} {scope : Scope} {k i : Nat} {a : Str} {pn : List (Addr × Obj)} {xe : Value → Shared → Prop} {W : WX} {E : XK} {tb : TE} {p1 p2 : Pos} {bnd : List (Str × Value)}
    (I : Inv X pins σ H s) (L : LamA X.N X.env.scope scope) (hf : s.heap.get? f = some (PySem.W.kdv_obj "<lambda>" (lamQ X) params (.expr body) scope (cloFrom X.env.cells scope.names []) dV doc pm c' ctv)) (hfn : H f = none) (hfr : f ∉ frs X.stack)
    (hbind : ∀ s1 : Shared, (∀ b o, s.heap.get? b = some o → H b = none → b ∉ frs X.stack → s1.heap.get? b = some o) → BindsTo s1 (PySem.W.kdv_fn "<lambda>" (lamQ X) params (.expr body) scope (cloFrom X.env.cells scope.names []) dV doc pm (.ref c') ctv) ⟨[], []⟩ bnd) (hbl : ∀ y ∈ bnd, scope.names.lookup y.1 = some .local)
    (tk : Takes ((cxOf CXg X.prog X.w X.K X.mg X.base Ng qg sg g cdg X.A X.stack s H Eg).tr pn xe) W) (hW : ∀ cls d σ' H', E cls d H' → W cls d σ' H') (hr : Room (k + 1) (X.A.deeper (envOfC qg sg s.heap.objs.size g cdg)))
    (hbody : ∀ (A : Around) (outer : List Env) (s : Shared) (H : Hp), Room k (A.deeper (lamEnv X scope s.heap.objs.size f c')) → PE (lamCx X A outer s H E scope f c') body tb)
    (hN : Ng[i]? = some a) (hv : Vis sg a) (hd : (a == ("__debug__" : Str)) = false := by decide) (hcd : (a == ("__classdict__" : Str)) = false := by decide) :
    PE ((cxOf CXg X.prog X.w X.K X.mg X.base Ng qg sg g cdg X.A X.stack s H Eg).tr pn xe) (.Call (.Name a p1) [] [] p2)
      (fun σZ HZ Q => σZ[i]? = some (some (.ref f)) ∧ HZ c' = some (CodeO c' (lamQ X)) ∧ tb σ HZ Q) := by
  refine ⟨fun pinsZ sZ σZ HZ Q IZ h => ?_⟩
  obtain ⟨hs, hc, ht⟩ := h
  refine wpAny_Call_Name_kw (thn ((pe_var (pos := p1) (i := i) hN hv hd hcd).run pinsZ sZ σZ HZ (fun v H1 => v = .ref f ∧ H1 = HZ) IZ ⟨.ref f, hs, rfl, rfl⟩) fun u s1 ⟨v, H1, I1, r1, q1⟩ => ?_)
  obtain ⟨ev, eH⟩ := q1
  subst ev
  rw [eH] at I1
  obtain rfl : u = Value.ref f := r1
  have keep : ∀ b o, s.heap.get? b = some o → H b = none → b ∉ frs X.stack → s1.heap.get? b = some o := fun b o e n nf => I1.base.keep b o e n nf (fun z => nomatch (show b ∈ ([] : List Addr) from z))
  have of1 := keep f _ hf hfn hfr
  refine PySem.W.callWith_F0 ⟨_, _, _, _, of1⟩ ?_
  have un : Un (frs X.stack) [] H HZ s.heap s1.heap := I1.base
  obtain ⟨⟨oc, vs, t, hoc, hdc, hvc⟩, _, _⟩ := I1.hok c' _ hc
  have rc : codeAny (model X.prog X.w) (X.A.deeper (envOfC qg sg s.heap.objs.size g cdg)) (.call (.ref f) ⟨[], []⟩) (CR (L2.CX X.prog X.w) (envOfC qg sg s.heap.objs.size g cdg :: X.stack) X.prog X.w HZ s1 Q E) s1 := by
    refine PySem.W.kla_callFunE hr.depth of1 rfl L.co L.gen rfl ⟨c', oc, vs, t, rfl, hoc, hdc, hvc⟩ ?_
    refine hbind s1 keep _ _ _ _ ?_
    refine wpAny_newFunctionEnv (fun y hy => (L.own y hy).1) hbl (fun h1 hns hsb => ⟨I1.nolimit.fresh _ hsb, ?_⟩) L.kind
    show codeAny _ _ (.expr body (lamEnv X scope s1.heap.objs.size f c')) _ _
    have kp : ∀ b o, s1.heap.get? b = some o → h1.get? b = some o := fun b o e => hsb.extBut b o (Nat.ne_of_lt (Heap.lt_size e)) (Heap.get?_push_of_some _ e)
    have J : Inv (lamCx X (X.A.deeper (envOfC qg sg s.heap.objs.size g cdg)) (envOfC qg sg s.heap.objs.size g cdg :: X.stack) s1 HZ E scope f c') [] σ HZ { s1 with heap := h1, toks := s1.toks + bnd.length } :=
      lamA_start I L I1.env0 hr.hd un hns kp
    refine PySem.W.kla_codeExpr (wpAny_mono ((hbody _ _ s1 HZ (hr.deeper _)).run [] _ _ HZ Q J ht) (fun v s' hq => ?_) fun e s' hq => hq)
    obtain ⟨w', H', J', rv, q⟩ := hq
    exact ⟨w', H', J'.os, J'.bare, J'.base, J'.hok, rv, q⟩
  have hx : Passes (L2.CX X.prog X.w) ((cxOf CXg X.prog X.w X.K X.mg X.base Ng qg sg g cdg X.A X.stack s H Eg).tr pn xe) E := passes_call tk hW
  refine wpAny_call (codeAny_mono rc fun r s' hq => ?_)
  cases r with
  | error e => exact hx pinsZ σZ HZ s1 e s' I1 hq
  | ok fl =>
    cases fl with
    | ret u => exact I1.after hq
    | next => exact False.elim hq
    | brk => exact False.elim hq
    | cont => exact False.elim hq
/-- told: try: work() / except A as e: .. / except B as e: .. / except C as e: .. -/
def TTold3 (K : PySem.W.Frag) (l : List (Addr × Str)) : (XK → Hp → VK → Prop) → Hp → VK → Prop := fun tl H Q =>
  ∃ Ech : XK, (∀ cls d H', Ech cls d H' → ∃ C r, (C, r) ∈ l ∧ cls = .ref C ∧ Q (.str r) H') ∧ tl Ech H fun _ _ => False
end
end DX
end
section
set_option Elab.async false
set_option linter.all false
set_option maxRecDepth 100000
set_option maxHeartbeats 4000000
namespace DX
open PySem PySem.Spec PyProof.Rows L2 LamX
set_option autoImplicit false
/-! ### lambdas handed to a def that calls them and tells the error -/
def Tell3 (l : List (Addr × Str)) : (XK → Hp → VK → Prop) → Hp → VK → Prop := fun tl H Q =>
  ∃ Ech : XK, (∀ cls d H', Ech cls d H' → ∃ C r, (C, r) ∈ l ∧ cls = .ref C ∧ Q (.str r) H') ∧ ∀ Q' : VK, tl Ech H Q'
/-- how a lambda is made, whatever its defaults -/
def LamMk (X : Cx) (P : Addr) (params : Arguments) (body : Expr) (scope : Scope) (lpos : Pos) : Prop :=
  ∀ (pins : List (Addr × Obj)) (σ : L2.St) (H : Hp) (s : Shared) (E : Value → Shared → Prop) (Q : Value → Shared → Prop), Inv X pins σ H s → TabS H P (lamQ X) →
    (∀ (f c' : Addr) (doc pm ctv dV : Value) (bnd : List (Str × Value)) (H1 : Hp) (s' : Shared), Inv X pins σ H1 s' → ExtP P H H1 → TabS H1 P (lamQ X) → s'.heap.get? f = some (PySem.W.kdv_obj "<lambda>" (lamQ X) params (.expr body) scope (cloFrom X.env.cells scope.names []) dV doc pm c' ctv) →
      H1 f = none → f ∉ frs X.stack → H1 c' = some (CodeO c' (lamQ X)) → (∀ s1 : Shared, (∀ b o, s'.heap.get? b = some o → H1 b = none → b ∉ frs X.stack → s1.heap.get? b = some o) → BindsTo s1 (PySem.W.kdv_fn "<lambda>" (lamQ X) params (.expr body) scope (cloFrom X.env.cells scope.names []) dV doc pm (.ref c') ctv) ⟨[], []⟩ bnd) →
      (∀ y ∈ bnd, scope.names.lookup y.1 = some .local) → Q (.ref f) s') → wpAny (model X.prog X.w) X.A (eval (.Lambda params body scope lpos) X.env) Q E s
section
variable {X : Cx}
theorem lamMk0 {c P : Addr} {params : Arguments} {body : Expr} {scope : Scope} {lpos : Pos} (TB : TabB X.base X.mg c P) (hcode : X.env.code = .ref c) (L : LamA X.N X.env.scope scope) (hdef : defaultsOf params X.env = ([], []))
    (hb : ∀ (cl : List (Str × Addr)) (doc pm cv ctv : Value), bindArgs (PySem.W.kdv_fn "<lambda>" (lamQ X) params (.expr body) scope cl .none doc pm cv ctv) ⟨[], []⟩ = pure []) : LamMk X P params body scope lpos := by
  intro pins σ H s E Q I hT h
  refine PySem.W.kla_eval hdef ?_
  rw [makeFunction_eq]
  simp only [List.zip_nil_right, List.filterMap_nil, List.isEmpty_nil, if_true, pure_bind]
  refine lam_tail I TB hcode hT (L.has I.ok) fun f c' doc pm ctv H1 s' I1 e1 t1 hf nf nfr hc _ => ?_
  exact h f c' doc pm ctv .none [] H1 s' I1 e1 t1 hf nf nfr hc (fun s1 _ => .of_eq (hb _ _ _ _ _)) fun y hy => by cases hy
theorem lamMk1 {c P : Addr} {params : Arguments} {body : Expr} {scope : Scope} {lpos : Pos} {a : Str} {n : Int} {j} {dp : Pos} (TB : TabB X.base X.mg c P) (hcode : X.env.code = .ref c) (L : LamA X.N X.env.scope scope) (hdf : params.defaults = [.Constant (.int n) j dp]) (hkw : params.kw_defaults = [])
    (ha : scope.names.lookup a = some .local)
    (hb : ∀ (cl : List (Str × Addr)) (T : Addr) (doc pm cv ctv : Value), ∃ k : Option (Array Value) → Sem (List (Str × Value)), bindArgs (PySem.W.kdv_fn "<lambda>" (lamQ X) params (.expr body) scope cl (.ref T) doc pm cv ctv) ⟨[], []⟩ = seqItems? (.ref T) >>= k ∧ ∀ v : Value, k (some #[v]) = pure [(a, v)]) : LamMk X P params body scope lpos := by
  intro pins σ H s E Q I hT h
  refine PySem.W.kdv_lam (by rw [hdf]; rfl) hkw ?_
  rw [hdf]
  refine PySem.W.kdv_all1 (thn ((pe_int (X := X) (i := n) (j := j) (pos := dp)).run pins s σ H (fun v H1 => v = .int n ∧ H1 = H) I ⟨rfl, rfl⟩) fun u s1 ⟨v, H1, I1, r1, ev, eH⟩ => ?_)
  subst ev
  rw [eH] at I1
  refine PySem.W.kdv_all0 ?_
  rw [makeFunction_eq]
  simp only [List.zip_nil_right, List.filterMap_nil, List.isEmpty_nil, List.isEmpty_cons, Bool.false_eq_true, if_false, if_true, pure_bind]
  refine wpAny_bind (wpAny_newTextTuple ?_)
  have I2 : Inv X pins σ H { s1 with heap := s1.heap.push (PySem.W.kdv_tup [u]) } := I1.kept fun b o e => Heap.get?_push_of_some _ e
  have hg : (s1.heap.push (PySem.W.kdv_tup [u])).get? s1.heap.objs.size = some (PySem.W.kdv_tup [u]) := Heap.get?_push_size _ rfl
  have nT : H s1.heap.objs.size = none := I1.hok.fresh (Nat.le_refl _)
  have neP : s1.heap.objs.size ≠ P := fun e => by
    obtain ⟨ps, hP, _⟩ := hT
    rw [e, hP] at nT
    cases nT
  have nfr : s1.heap.objs.size ∉ frs X.stack := fun z => by
    rcases List.mem_cons.mp (I1.stkSub _ z) with e | e
    · have h1 := I1.lt
      rw [← e] at h1
      exact Nat.lt_irrefl _ h1
    · exact I1.nofs (Nat.le_refl _) e
  refine lam_tail I2 TB hcode hT (L.has I.ok) fun f c' doc pm ctv H1 s' I3 e1 t1 hf nf nfr2 hc kp => ?_
  obtain ⟨g1, g2⟩ := kp _ _ hg neP
  refine h f c' doc pm ctv (.ref s1.heap.objs.size) [(a, u)] H1 s' I3 e1 t1 hf nf nfr2 hc (fun s2 kk => ?_) fun y hy => ?_
  · obtain ⟨k, k1, k2⟩ := hb (cloFrom X.env.cells scope.names []) s1.heap.objs.size doc pm (.ref c') ctv
    exact BindsTo.of_defaults rfl (kk _ _ g1 (g2 nT) nfr) rfl k1 (k2 u)
  · rw [List.mem_singleton] at hy
    rw [hy]
    exact ha
def tLamP (P : Addr) (q : Str) (TT : (XK → Hp → VK → Prop) → Hp → VK → Prop) (t : XK → TE) : TE := fun σ H Q => TabS H P q ∧ ∀ H1, ExtP P H H1 → TabS H1 P q → TT (fun E H' Q' => t E σ H' Q') H1 Q
theorem pe_lamP {TT : (XK → Hp → VK → Prop) → Hp → VK → Prop} {x a : Str} {g P : Addr} {k : Nat} {st : Stmt} {fd : FuncData} {Ng : List Str} {params : Arguments} {body : Expr} {scope : Scope} {t : XK → TE} {p lpos pos : Pos} (hg : Gl X x) (hm : X.mg x = some (.ref g)) (F : Fun X.K x x st g fd) (hb : L2.Binds X.K fd [a] []) (Sg : FnScope Ng [a] (defScope st)) (hNg : Ng[0]? = some a) (hva : Vis (defScope st) a)
    (hG : ∀ cdv : Value, GivesTo X Ng x (defScope st) g cdv (defBody st) a (lamQ X) TT) (hmk : LamMk X P params body scope lpos) (hr : Room (k + 2) X.A) (L : LamA X.N X.env.scope scope)
    (hbody : ∀ (A : Around) (outer : List Env) (s : Shared) (H : Hp) (E : XK) (f c' : Addr), Room k (A.deeper (lamEnv X scope s.heap.objs.size f c')) → PE (lamCx X A outer s H E scope f c') body (t E))
    (hdb : (x == ("__debug__" : Str)) = false := by decide) (hd : (a == ("__debug__" : Str)) = false := by decide) (hcd : (a == ("__classdict__" : Str)) = false := by decide) :
    PE X (.Call (.Name x p) [.Lambda params body scope lpos] [] pos) (tLamP P (lamQ X) TT t) := by
  obtain ⟨oc, od, kV, doc0, pm0, an, cdv, ct, osl, rfl, lk, hcg⟩ := F.ex
  refine ⟨fun pins s σ H Q I h => ?_⟩
  obtain ⟨hT, h⟩ := h
  refine wpAny_Call_Name_kw (ld_glob I hg hm ?_ hdb)
  refine PySem.W.callWith_K (h₀ := X.base) I.ok.mod.kin F.kp ?_ (by rfl) (by rfl)
  show wpAny _ _ (spliced ((false, eval (.Lambda params body scope lpos) X.env) :: backTo pos (starEach [] X.env))) _ _ s
  refine Calls.spliced_cons (hmk pins σ H s _ _ I hT fun f c' doc pm ctv dV bnd H1 s' I1 e1 t1 hf nf nfr hco hbind hbl => ?_)
  refine Calls.spliced_nil ⟨I1.kIn, ?_⟩
  have rc : codeAny (model X.prog X.w) X.A (.call (.ref g) ⟨[.ref f], []⟩) (CR C8.CX0 X.stack X.prog X.w H1 s' Q C8.E0) s' := by
    refine run_ofS (N := Ng) (ps := [a]) (us := [.ref f]) (vs := [.ref f]) lk hcg Sg hr I1.env0 (hb s' [.ref f] I1.kIn rfl) (.cons rfl .nil) rfl fun hr' => ?_
    obtain ⟨t', ht', hq'⟩ := hG cdv f c' s' H1 Q (fun E H' Q' => t E σ H' Q') (fun W pn xe E p1 p2 tk hW => pe_actA (i := 0) I1 L hf nf nfr hbind hbl tk hW hr' (fun A outer s H hr2 => hbody A outer s H E f c' hr2) hNg hva hd hcd) hco (h H1 e1 t1)
    exact ⟨t', ht'.nox, hq'⟩
  refine wpAny_call (codeAny_mono rc fun r s2 hq => ?_)
  cases r with
  | error e => exact (show False from hq).elim
  | ok fl =>
    cases fl with
    | ret u => exact I1.after hq
    | next => exact False.elim hq
    | brk => exact False.elim hq
    | cont => exact False.elim hq
end
/-! over data -/
section
variable {X : Cx} {b : Bs} {S S1 : DS} {pos p lpos : Pos}
theorem setM_same {m : List (Addr × MO)} {a : Addr} {o : MO} (nd : (m.map (·.1)).Nodup) (h : (a, o) ∈ m) : setM m a o = m := by
  unfold setM
  have : ∀ q ∈ m, (if q.1 = a then (a, o) else q) = q := fun q hq => by
    by_cases e : q.1 = a
    · rw [if_pos e]
      obtain ⟨c, mo⟩ := q
      have e : c = a := e
      subst e
      have := uniqM (S := ⟨[], m⟩) nd h hq
      rw [this]
    · rw [if_neg e]
  rw [List.map_congr_left this, List.map_id']
theorem Rel.tabbed {σ : List (Option V)} {H H1 : Hp} {P : Addr} {q : Str} (r : Rel b S σ H) (hin : (P, MO.tab q) ∈ S.m) (e : ExtP P H H1) (t : TabS H1 P q) : Rel b S σ H1 ∧ Ex (hide (Hd b S) H) (hide (Hd b S) H1) := by
  have h := r.setm (H' := H1) (o' := .tab q) hin (fun c u h n => e c u h n) t
  have es : S.setm P (.tab q) = S := by
    unfold DS.setm
    rw [setM_same r.rm.nd hin]
  rw [es] at h
  exact h
/-- the reading of a lambda's body -/
def wEl (X : Cx) (k : Nat) (scope : Scope) (body : Expr) (E : XK) : TE := fun σ H Q => ∀ (A : Around) (outer : List Env) (s : Shared) (H0 : Hp) (f c' : Addr), Room k (A.deeper (lamEnv X scope s.heap.objs.size f c')) → wE (lamCx X A outer s H0 E scope f c') body σ H Q
/-- a call that ends in an error -/
theorem wE_err {EE : XK} {k : Nat} {fa : Addr} {fd : FuncData} {ps : List Str} {f : List PyData → Res → Prop} {nm : Str} {e : Expr} {es : List Expr} {ds : List PyData} {C : Addr} (F : FnOk X.prog X.w X.K X.mg X.base (L2.CX X.prog X.w) k fa fd ps (FX X.K f)) (hK : X.K = b.K) (hr : Room k X.A) (hm : X.mg nm = some (.ref fa)) (kp : PySem.W.keepIn X.K (.ref fa) = true) (hb : L2.Binds X.K fd ps []) (hx : Passes (L2.CX X.prog X.w) X EE)
    (ha : EA X b (e :: es) S (ds.map .d) S) (hf : f ds (.err C)) {σ : List (Option V)} {H : Hp} (r : Rel b S σ H) (hE : ∀ H', Rel b S σ H' → Ex (hide (Hd b S) H) (hide (Hd b S) H') → EE (.ref C) none H') {Q : VK} (hg : Gl X nm := by rfl) (hdb : (nm == ("__debug__" : Str)) = false := by decide)
    (he : starEach (e :: es) X.env = (false, eval e X.env) :: starEach es X.env := by rfl) (hpl : (backTo pos (starEach es X.env)).any (·.1) = false := by rfl) : wE X (.Call (.Name nm p) (e :: es) [] pos) σ H Q := by
  refine wE_of (pe_call F hr hg hm kp hb .nil hx (paW _) hdb he hpl) (ha σ H r _ fun vs H1 k1 r1 x1 a1 => ?_)
  show FX X.K f (vs ++ []) H1 Q EE
  rw [List.append_nil, hK]
  refine ⟨Hd b S, ds, _, r1.rm.tracked, vall_d k1, hf, fun d' e => (by cases e), fun C' e H2 x2 => ?_⟩
  cases e
  obtain ⟨r2, x3⟩ := r1.grow x2
  exact hE H2 r2 (x1.trans x3)
/-- told(lambda: ..) -/
theorem ev_tell {l : List (Addr × Str)} {x a : Str} {g P C : Addr} {r : Str} {k : Nat} {st : Stmt} {fd : FuncData} {Ng : List Str} {params : Arguments} {body : Expr} {scope : Scope} (hin : (P, MO.tab (lamQ X)) ∈ S.m) (hm : X.mg x = some (.ref g)) (F : Fun X.K x x st g fd) (hb : L2.Binds X.K fd [a] []) (Sg : FnScope Ng [a] (defScope st)) (hNg : Ng[0]? = some a) (hva : Vis (defScope st) a)
    (hG : ∀ cdv : Value, GivesTo X Ng x (defScope st) g cdv (defBody st) a (lamQ X) (Tell3 l)) (hmk : LamMk X P params body scope lpos) (hr : Room (k + 2) X.A) (L : LamA X.N X.env.scope scope) (hCl : (C, r) ∈ l)
    (hbody : ∀ (σ : List (Option V)) (H : Hp) (E : XK), Rel b S σ H → (∀ H', Rel b S σ H' → Ex (hide (Hd b S) H) (hide (Hd b S) H') → E (.ref C) none H') → ∀ Q : VK, wEl X k scope body E σ H Q) (hg : Gl X x := by rfl)
    (hdb : (x == ("__debug__" : Str)) = false := by decide) (hd : (a == ("__debug__" : Str)) = false := by decide) (hcd : (a == ("__classdict__" : Str)) = false := by decide) :
    EV X b (.Call (.Name x p) [.Lambda params body scope lpos] [] pos) S (.d (.str r)) S := by
  intro σ H rl Q q
  refine wE_of (pe_lamP (t := wEl X k scope body) hg hm F hb Sg hNg hva hG hmk hr L (fun A outer s H0 E f c' hr2 => ⟨fun pins s' σ' H' Q' I h => h A outer s H0 f c' hr2 pins s' I⟩) hdb hd hcd) ?_
  refine ⟨rl.rm.mem _ hin, fun H1 e1 t1 => ?_⟩
  obtain ⟨r1, x1⟩ := rl.tabbed hin e1 t1
  refine ⟨fun cls d H' => cls = .ref C ∧ Rel b S σ H' ∧ Ex (hide (Hd b S) H1) (hide (Hd b S) H'), fun cls d H' ⟨h1, h2, h3⟩ => ⟨C, r, hCl, h1, q _ H' (.str r) h2 (x1.trans h3) fun _ h => h⟩, fun Q' => ?_⟩
  exact hbody σ H1 _ r1 (fun H' h2 h3 => ⟨rfl, h2, h3⟩) Q'
/-- the lambda's names, looked at -/
def lamAB (N : List Str) (sc scope : Scope) : Bool := decide (scope.kind = .function) && !scope.isCoroutine && !scope.isGenerator && scope.names.all fun y => !decide (y.2 = .cell) && (!decide (y.2 = .local) || !decide (y.1 ∈ N)) && (!decide (y.2 = .free) || decide (sc.names.lookup y.1 = some .cell) || decide (sc.names.lookup y.1 = some .free))
theorem lamA_by {N : List Str} {sc scope : Scope} (h : lamAB N sc scope = true) : LamA N sc scope := by
  unfold lamAB at h
  simp only [Bool.and_eq_true, Bool.or_eq_true, Bool.not_eq_true', decide_eq_true_eq, decide_eq_false_iff_not, List.all_eq_true] at h
  obtain ⟨⟨⟨h1, h2⟩, h3⟩, h4⟩ := h
  refine ⟨h1, h2, h3, fun y hy => ⟨(h4 y hy).1.1, fun e => ?_⟩, fun y hy e => ?_⟩
  · rcases (h4 y hy).1.2 with z | z
    · exact absurd e z
    · exact z
  · rcases (h4 y hy).2 with (z | z) | z
    · exact absurd e z
    · exact .inl z
    · exact .inr z
end
end DX
end
section
set_option Elab.async false
set_option linter.all false
set_option maxRecDepth 100000
set_option maxHeartbeats 4000000
set_option exponentiation.threshold 300000
namespace KC
open PySem PySem.Spec PyProof.Rows L2 DX
set_option autoImplicit false
/-! mathematics -/
def frD (p : Int × Int) : PyData := .tuple [.int p.1, .int p.2]
def red (t l : Int) : Int × Int := (t / (Nat.gcd t.natAbs l.natAbs : Nat), l / (Nat.gcd t.natAbs l.natAbs : Nat))
def Sz (n : Nat) (i : Int) : Prop := i.natAbs < 2 ^ n
theorem Sz.mul {a b : Nat} {i j : Int} (h : Sz a i) (g : Sz b j) : Sz (a + b) (i * j) := wide_lt h g
theorem Sz.mono {a b : Nat} {i : Int} (h : Sz a i) (g : a ≤ b) : Sz b i := Nat.lt_of_lt_of_le h (Nat.pow_le_pow_right (by decide) g)
theorem Sz.add {a : Nat} {i j : Int} (h : Sz a i) (g : Sz a j) : Sz (a + 1) (i + j) := by
  unfold Sz at *
  rw [Nat.pow_succ]
  omega
theorem Sz.cm {a b : Nat} {i j : Int} (h : Sz a i) (g : Sz b j) (hab : a + b ≤ 134217728) : CMulX i j := mulx_ok h g hab
theorem Sz.dv {a : Nat} {i j : Int} (h0 : 0 < j) (h : Sz a j) (ha : a ≤ 9000) (h1 : 0 < a) : CDivW i j := wide_div h0 h h1 ha
/-- reduced: of ints within 2 ^ 8000, low above 0 -/
def r_reduced (ds : List PyData) (d : PyData) : Prop := ∃ t l, ds = [.int t, .int l] ∧ 0 < l ∧ Sz 8000 l ∧ d = frD (red t l)
section
/-- fractions: below 2 ^ n, low above 0 -/
def Fr (n : Nat) (p : Int × Int) : Prop := 0 < p.2 ∧ Sz n p.1 ∧ Sz n p.2
def fadd (p q : Int × Int) : Int × Int := red (p.1 * q.2 + q.1 * p.2) (p.2 * q.2)
def fmul (p q : Int × Int) : Int × Int := red (p.1 * q.1) (p.2 * q.2)
def r_fplus (ds : List PyData) (d : PyData) : Prop := ∃ p q, ds = [frD p, frD q] ∧ Fr 3000 p ∧ Fr 3000 q ∧ d = frD (fadd p q)
def r_ftimes (ds : List PyData) (d : PyData) : Prop := ∃ p q, ds = [frD p, frD q] ∧ Fr 3000 p ∧ Fr 3000 q ∧ d = frD (fmul p q)
end
theorem Sz.nat {n a : Nat} (h : n < 2 ^ a) : Sz a (n : Int) := by unfold Sz; rw [Int.natAbs_natCast]; exact h
/-! checks -/
def isWhole : PyData → Bool
  | .int _ => true
  | _ => false
def isPair : PyData → Bool
  | .tuple [_, _] => true
  | _ => false
def isFrac : PyData → Bool
  | .tuple [.int t, .int l] => decide (0 < l) && decide (((Nat.gcd t.natAbs l.natAbs : Nat) : Int) = 1)
  | _ => false
theorem isWhole_eq (x : PyData) : (isInst x "int" && !isInst x "bool") = isWhole x := by
  cases x <;> rfl
def r_of (g : PyData → Bool) (ds : List PyData) (d : PyData) : Prop := ∃ x, ds = [x] ∧ d = .bool (g x)
theorem Str.isInt : bootBuiltins "int" = some (.type "int") := by decide +kernel
theorem Str.isBool : bootBuiltins "bool" = some (.type "bool") := by decide +kernel
theorem Str.isTuple : bootBuiltins "tuple" = some (.type "tuple") := by decide +kernel
theorem isFrac_inv {x : PyData} (h : isFrac x = true) : ∃ t l, x = .tuple [.int t, .int l] ∧ 0 < l ∧ Nat.gcd t.natAbs l.natAbs = 1 := by
  unfold isFrac at h
  split at h
  · rename_i t l
    rw [Bool.and_eq_true] at h
    have := of_decide_eq_true h.2
    exact ⟨t, l, rfl, of_decide_eq_true h.1, by omega⟩
  · cases h
section
variable {P : Program} {w : World} {K : PySem.W.Frag} {mg : Str → Option Value} {base : Heap}
theorem ok_is_whole (T : Tx K mg) : FnOk P w K mg base CX0 1 T.d_is_whole.fa T.d_is_whole.fd P_is_whole (FP K (r_of isWhole)) := by
  refine fp_ok T.d_is_whole.F sc_is_whole (fun ds d h => ?_) fun cdv A outer s H E b hK hr ds d h => ?_
  · obtain ⟨x, rfl, _⟩ := h
    rfl
  · obtain ⟨x, rfl, rfl⟩ := h
    rw [← isWhole_eq]
    exact sx_one (sy_retF (ev_and (ev_isi hK.symm rfl T.n_isinstance rfl T.n_int Str.isInt (.inl rfl) (vn 0)) fun _ => (ev_one (ev_not (ev_isi hK.symm rfl T.n_isinstance rfl T.n_bool Str.isBool (.inr (.inl rfl)) (vn 0))))))
theorem ok_is_pair (T : Tx K mg) : FnOk P w K mg base CX0 1 T.d_is_pair.fa T.d_is_pair.fd P_is_pair (FP K (r_of isPair)) := by
  refine fp_ok T.d_is_pair.F sc_is_pair (fun ds d h => ?_) fun cdv A outer s H E b hK hr ds d h => ?_
  · obtain ⟨x, rfl, _⟩ := h
    rfl
  · obtain ⟨x, rfl, rfl⟩ := h
    have key : ∃ n : Int, isPair x = (isInst x "tuple" && decide (n = 2)) ∧ (isInst x "tuple" = true → ∃ xs, x = .tuple xs ∧ n = (xs.length : Int)) := by
      cases x with
      | tuple xs =>
        refine ⟨(xs.length : Int), ?_, fun _ => ⟨xs, rfl, rfl⟩⟩
        match xs with
        | [] => rfl
        | [_] => rfl
        | [_, _] => rfl
        | a :: c :: e :: r =>
          have : ¬ (((a :: c :: e :: r).length : Int) = 2) := by simp; omega
          rw [decide_eq_false this]
          rfl
      | _ => exact ⟨0, rfl, fun h => by cases h⟩
    obtain ⟨n, e1, e2⟩ := key
    rw [e1]
    refine sx_one (sy_retF (ev_and (ev_isi hK.symm rfl T.n_isinstance rfl T.n_tuple Str.isTuple (.inr (.inr (.inr (.inl rfl)))) (vn 0)) fun h => ?_))
    obtain ⟨xs, rfl, rfl⟩ := e2 h
    exact ev_one (ev_eqI (ev_callB call_len_seq rfl T.n_len PySem.boot_len (ea_cons (vn 0) ea_nil) (rc_lenT hK.symm)) ev_int)
theorem ok_is_fraction (T : Tx K mg) : FnOk P w K mg base CX0 2 T.d_is_fraction.fa T.d_is_fraction.fd P_is_fraction (FP K (r_of isFrac)) := by
  refine fp_ok T.d_is_fraction.F sc_is_fraction (fun ds d h => ?_) fun cdv A outer s H E b hK hr ds d h => ?_
  · obtain ⟨x, rfl, _⟩ := h
    rfl
  · obtain ⟨x, rfl, rfl⟩ := h
    refine sx_cons (sy_if (t := !isPair x) (et_not (et_val (ev_call (ok_is_pair T) hK.symm hr rfl T.d_is_pair.m T.d_is_pair.F.kp T.d_is_pair.b pass0 (ds := [x]) (ea_cons (vn 0) ea_nil) ⟨x, rfl, rfl⟩))) (fun h => ?_) fun h => ?_)
    · have e : isFrac x = false := by
        cases hx : isFrac x with
        | false => rfl
        | true =>
          obtain ⟨t, l, rfl, _⟩ := isFrac_inv hx
          cases h
      rw [e]
      exact sx_one (sy_retF ev_bl)
    · refine sx_nil ?_
      obtain ⟨t, l, rfl⟩ : ∃ t l, x = .tuple [t, l] := by
        cases x with
        | tuple xs =>
          match xs with
          | [] => cases h
          | [_] => cases h
          | [t, l] => exact ⟨t, l, rfl⟩
          | _ :: _ :: _ :: _ => cases h
        | _ => cases h
      refine sx_cons (sy_unpack (vn 0) (pg_tup rfl (pgs_cons (pg_name (i := 1) sc_is_fraction.nd rfl (.inl rfl)) (pgs_cons (pg_name (i := 2) sc_is_fraction.nd rfl (.inl rfl)) pgs_nil))) (tg_tup hK.symm rfl (.cons (tg_name li) rfl (.cons (tg_name li) rfl .nil))) rfl ?_)
      by_cases ht : isWhole t = true
      · obtain ⟨i, rfl⟩ : ∃ i, t = .int i := by cases t <;> first | (cases ht; done) | exact ⟨_, rfl⟩
        by_cases hl : isWhole l = true
        · obtain ⟨j, rfl⟩ : ∃ i, l = .int i := by cases l <;> first | (cases hl; done) | exact ⟨_, rfl⟩
          have e : isFrac (.tuple [.int i, .int j]) = (isWhole (.int i) && (isWhole (.int j) && (decide (0 < j) && decide (((Nat.gcd i.natAbs j.natAbs : Nat) : Int) = 1)))) := by
            rfl
          rw [e]
          exact sx_one (sy_retF (ev_and (ev_call (ok_is_whole T) hK.symm (hr.mono (by decide)) rfl T.d_is_whole.m T.d_is_whole.F.kp T.d_is_whole.b pass0 (ds := [.int i]) (ea_cons (vn 1) ea_nil) ⟨_, rfl, rfl⟩) fun _ => (ev_and (ev_call (ok_is_whole T) hK.symm (hr.mono (by decide)) rfl T.d_is_whole.m T.d_is_whole.F.kp T.d_is_whole.b pass0 (ds := [.int j]) (ea_cons (vn 2) ea_nil) ⟨_, rfl, rfl⟩) fun _ => (ev_and (ev_gt (vn 2) ev_int) fun _ => (ev_one (ev_eqI (ev_callF cr_gcd rfl T.i_gcd (ea_cons (vn 1) (ea_cons (vn 2) ea_nil)) rc_gcd) ev_int))))))
        · have e : isFrac (.tuple [.int i, l]) = (isWhole (.int i) && (isWhole l && false)) := by cases l <;> first | rfl | exact (hl rfl).elim
          rw [e]
          refine sx_one (sy_retF (ev_and (ev_call (ok_is_whole T) hK.symm (hr.mono (by decide)) rfl T.d_is_whole.m T.d_is_whole.F.kp T.d_is_whole.b pass0 (ds := [.int i]) (ea_cons (vn 1) ea_nil) ⟨_, rfl, rfl⟩) fun _ => (ev_and (ev_call (ok_is_whole T) hK.symm (hr.mono (by decide)) rfl T.d_is_whole.m T.d_is_whole.F.kp T.d_is_whole.b pass0 (ds := [l]) (ea_cons (vn 2) ea_nil) ⟨_, rfl, rfl⟩) fun h => (hl h).elim)))
      · have e : isFrac (.tuple [t, l]) = (isWhole t && false) := by cases t <;> first | rfl | exact (ht rfl).elim
        rw [e]
        refine sx_one (sy_retF (ev_and (ev_call (ok_is_whole T) hK.symm (hr.mono (by decide)) rfl T.d_is_whole.m T.d_is_whole.F.kp T.d_is_whole.b pass0 (ds := [t]) (ea_cons (vn 1) ea_nil) ⟨_, rfl, rfl⟩) fun h => (ht h).elim))
end
theorem isPair_inv {x : PyData} (h : isPair x = true) : ∃ t l, x = .tuple [t, l] := by
  cases x with
  | tuple xs =>
    match xs with
    | [] => cases h
    | [_] => cases h
    | [t, l] => exact ⟨t, l, rfl⟩
    | _ :: _ :: _ :: _ => cases h
  | _ => cases h
theorem isWhole_inv {x : PyData} (h : isWhole x = true) : ∃ i, x = .int i := by
  cases x <;> first | (cases h; done) | exact ⟨_, rfl⟩
theorem all_map_id {α : Type} (f : α → Bool) (xs : List α) : (xs.map f).all id = true ↔ ∀ x ∈ xs, f x = true := by
  rw [List.all_eq_true]
  constructor
  · intro h x hx
    exact h (f x) (List.mem_map.mpr ⟨x, hx, rfl⟩)
  · intro h y hy
    obtain ⟨x, hx, rfl⟩ := List.mem_map.mp hy
    exact h x hx
/-! fractions as rationals -/
def qP (q : Rat) : Int × Int := (q.num, (q.den : Int))
abbrev qD (q : Rat) : PyData := frD (qP q)
def QS (n : Nat) (q : Rat) : Prop := q.num.natAbs < 2 ^ n ∧ q.den < 2 ^ n
theorem QS.mono {n m : Nat} {q : Rat} (h : QS n q) (k : n ≤ m) : QS m q := ⟨Nat.lt_of_lt_of_le h.1 (Nat.pow_le_pow_right (by decide) k), Nat.lt_of_lt_of_le h.2 (Nat.pow_le_pow_right (by decide) k)⟩
theorem QS.fr {n : Nat} {q : Rat} (h : QS n q) : Fr n (qP q) := ⟨by have := q.den_nz; show (0 : Int) < (q.den : Int); omega, h.1, Sz.nat h.2⟩
theorem red_norm (t : Int) (l : Nat) (h : l ≠ 0) : red t (l : Int) = qP (Rat.normalize t l h) := by
  rw [Rat.normalize_eq h]
  unfold red qP
  rw [Int.natAbs_natCast]
  refine Prod.ext rfl ?_
  show (l : Int) / _ = ((l / _ : Nat) : Int)
  rw [Int.natCast_ediv]
theorem red_mk (t : Int) (l : Nat) (h : l ≠ 0) : red t (l : Int) = qP (mkRat t l) := by
  rw [red_norm t l h]
  unfold mkRat
  rw [dif_neg h]
theorem fadd_q (p q : Rat) : fadd (qP p) (qP q) = qP (p + q) := by
  rw [Rat.add_def, ← red_norm]
  show red (p.num * (q.den : Int) + q.num * (p.den : Int)) ((p.den : Int) * (q.den : Int)) = _
  rw [Int.natCast_mul]
theorem fmul_q (p q : Rat) : fmul (qP p) (qP q) = qP (p * q) := by
  rw [Rat.mul_def, ← red_norm]
  show red (p.num * q.num) ((p.den : Int) * (q.den : Int)) = _
  rw [Int.natCast_mul]
theorem qD_zero : qD 0 = .tuple [.int 0, .int 1] := rfl
theorem qP_int (i : Int) : qP (i : Rat) = (i, 1) := rfl
def r_qplus (ds : List PyData) (d : PyData) : Prop := ∃ p q : Rat, ds = [qD p, qD q] ∧ QS 3000 p ∧ QS 3000 q ∧ d = qD (p + q)
def r_qtimes (ds : List PyData) (d : PyData) : Prop := ∃ p q : Rat, ds = [qD p, qD q] ∧ QS 3000 p ∧ QS 3000 q ∧ d = qD (p * q)
section
variable {P : Program} {w : World} {K : PySem.W.Frag} {mg : Str → Option Value} {base : Heap}
/-- a promise that asks more, or tells of other names -/
theorem FnOk.weak {k : Nat} {CX : CXT} {fa : Addr} {fd : FuncData} {ps : List Str} {R R' : List PyData → PyData → Prop} (h : FnOk P w K mg base CX k fa fd ps (FP K R)) (i : ∀ ds d, R' ds d → R ds d) : FnOk P w K mg base CX k fa fd ps (FP K R') := by
  refine ⟨fun vs H Q E ⟨A, ds, d, h1, h2, h3, h4⟩ => h.len vs H Q E ⟨A, ds, d, h1, h2, i _ _ h3, h4⟩, fun A outer s H args us vs Q E hr e b v ⟨A', ds, d, h1, h2, h3, h4⟩ => h.run A outer s H args us vs Q E hr e b v ⟨A', ds, d, h1, h2, i _ _ h3, h4⟩⟩
end
end KC
end
section
set_option Elab.async false
set_option linter.all false
set_option maxRecDepth 100000
set_option maxHeartbeats 4000000
set_option exponentiation.threshold 300000
namespace KC
open PySem PySem.Spec PyProof.Rows L2 DX
set_option autoImplicit false
/-! the drawing of numbers -/
structure Row where
  sc : List Int
  pos : Nat
  seed : Int
  stock : Int
abbrev msOf (sc : List Int) (p s t : Int) : List PyData := [.list (sc.map .int), .int p, .int s, .int t]
def Row.ms (R : Row) : List PyData := msOf R.sc (R.pos : Int) R.seed R.stock
structure Row.Ok (R : Row) : Prop where
  s0 : 0 ≤ R.seed
  s1 : R.seed < 2147483647
  t0 : 0 ≤ R.stock
def Row.step (R : Row) (m : Int) : Int × Row :=
  if 0 < R.stock then (R.stock % m, { R with stock := R.stock / m })
  else if R.sc.length < R.pos + 1 then (((R.seed * 48271 + 11) % 2147483647 / 7) % m, { R with pos := R.pos + 1, seed := (R.seed * 48271 + 11) % 2147483647 })
  else (R.sc.getD R.pos 0 % m, { R with pos := R.pos + 1, seed := (R.seed * 48271 + R.sc.getD R.pos 0 + 11) % 2147483647, stock := if 10 ^ 18 ≤ R.sc.getD R.pos 0 then R.sc.getD R.pos 0 / m else R.stock })
theorem Row.step_ok {R : Row} (h : R.Ok) {m : Int} (hm : 0 < m) : (R.step m).2.Ok ∧ 0 ≤ (R.step m).1 ∧ (R.step m).1 < m := by
  unfold Row.step
  have em := fun i : Int => And.intro (Int.emod_nonneg i (show m ≠ 0 by omega)) (Int.emod_lt_of_pos i hm)
  have e2 := fun i : Int => And.intro (Int.emod_nonneg i (show (2147483647 : Int) ≠ 0 by decide)) (Int.emod_lt_of_pos i (show (0 : Int) < 2147483647 by decide))
  have s0 := h.s0
  have s1 := h.s1
  have t0 := h.t0
  split
  · exact ⟨⟨s0, s1, Int.ediv_nonneg t0 (by omega)⟩, em _⟩
  · split
    · exact ⟨⟨(e2 _).1, (e2 _).2, t0⟩, em _⟩
    · refine ⟨⟨(e2 _).1, (e2 _).2, ?_⟩, em _⟩
      dsimp only
      split
      · exact Int.ediv_nonneg (by omega) (by omega)
      · exact t0
def r_taken (ms ds : List PyData) (d : PyData) (ms' : List PyData) : Prop := ∃ (R : Row) (m : Int), R.Ok ∧ ms = R.ms ∧ ds = [.int m] ∧ 0 < m ∧ Sz 60 m ∧ d = .int (R.step m).1 ∧ ms' = (R.step m).2.ms
theorem setm1 {g : List DV} {a : Addr} {o o' : MO} : DS.setm ⟨g, [(a, o)]⟩ a o' = ⟨g, [(a, o')]⟩ := by
  unfold DS.setm setM
  simp
section
variable {P : Program} {w : World} {K : PySem.W.Frag} {mg : Str → Option Value} {base : Heap}
abbrev gTk (a : Addr) (m : Int) (x2 x3 : DV) (sc : List Int) (p s t : Int) : DS := ⟨[.m a, .d (.int m), x2, x3], [(a, .lst (msOf sc p s t))]⟩
theorem ok_law_taken (T : Tx K mg) : FnOk P w K mg base CX0 1 T.d_law_taken.fa T.d_law_taken.fd P_law_taken (MP K r_taken) := by
  refine mp_ok T.d_law_taken.F sc_law_taken (fun ms ds d ms' h => ?_) fun cdv A outer s H E b a hK hfx hr ms ds d ms' h => ?_
  · obtain ⟨R, m, _, _, rfl, _⟩ := h
    rfl
  · obtain ⟨R, m, hR, rfl, rfl, m0, mz, rfl, rfl⟩ := h
    obtain ⟨sc, p, sd, st⟩ := R
    obtain ⟨s0, s1, t0⟩ := hR
    have s0 : 0 ≤ sd := s0
    have s1 : sd < 2147483647 := s1
    have t0 : 0 ≤ st := t0
    show SX _ _ _ (gTk a m .no .no sc (p : Int) sd st) _
    have hin : ∀ {g p s t}, (a, MO.lst (msOf sc p s t)) ∈ (⟨g, [(a, .lst (msOf sc p s t))]⟩ : DS).m := List.mem_singleton.mpr rfl
    refine sx_cons (sy_if (et_gt (ev_ixM hK.symm (vn 0) ev_int hin rfl) ev_int) (fun h => ?_) fun h => ?_)
    · have h : 0 < st := of_decide_eq_true h
      have e : (⟨sc, p, sd, st⟩ : Row).step m = (st % m, ⟨sc, p, sd, st / m⟩) := by unfold Row.step; rw [if_pos h]
      rw [e]
      refine sx_cons (sy_asg (i := 3) (ev_mod (ev_callTy call_int1 rfl T.n_int (by decide +kernel) (ea_cons (ev_ixM hK.symm (vn 0) ev_int hin rfl) ea_nil) rc_int) (vn 1) m0) sc_law_taken.nd rfl (.inl rfl) li ?_)
      refine sx_cons (sy_setItem (j := 3) (ev_fdiv (ev_ixM hK.symm (vn 0) ev_int hin rfl) (vn 1) (mz.dv m0 (by decide) (by decide))) (vn 0) ev_int hin li ?_)
      show SX _ _ _ (DS.setm ⟨[.m a, .d (.int m), .no, .d (.int (st % m))], [(a, .lst (msOf sc (p : Int) sd st))]⟩ a _) _
      rw [setm1]
      exact sx_one (sy_retM (S1 := gTk a m .no (.d (.int (st % m))) sc (p : Int) sd (st / m)) (vn 3) (List.mem_singleton.mpr rfl))
    · have h : ¬ 0 < st := of_decide_eq_false h
      have e : (⟨sc, p, sd, st⟩ : Row).step m = (if sc.length < p + 1 then (((sd * 48271 + 11) % 2147483647 / 7) % m, ⟨sc, p + 1, (sd * 48271 + 11) % 2147483647, st⟩)
          else (sc.getD p 0 % m, ⟨sc, p + 1, (sd * 48271 + sc.getD p 0 + 11) % 2147483647, if 10 ^ 18 ≤ sc.getD p 0 then sc.getD p 0 / m else st⟩)) := by unfold Row.step; rw [if_neg h]
      rw [e]
      have zs : Sz 31 sd := by unfold Sz; omega
      have cm : CMulX sd 48271 := zs.cm (b := 16) (show (48271 : Int).natAbs < 2 ^ 16 by decide) (by decide)
      refine sx_nil (sx_cons (sy_setItem (j := 1) (ev_add (ev_ixM hK.symm (vn 0) ev_int hin rfl) ev_int) (vn 0) ev_int hin li ?_))
      show SX _ _ _ (DS.setm ⟨[.m a, .d (.int m), .no, .no], [(a, .lst (msOf sc (p : Int) sd st))]⟩ a _) _
      rw [setm1]
      show SX _ _ _ (gTk a m .no .no sc ((p : Int) + 1) sd st) _
      refine sx_cons (sy_if (et_gt (ev_ixM hK.symm (vn 0) ev_int hin rfl) (ev_callB call_len_seq rfl T.n_len PySem.boot_len (ea_cons (ev_ixM hK.symm (vn 0) ev_int hin rfl) ea_nil) (rc_lenL hK.symm))) (fun h2 => ?_) fun h2 => ?_)
      · have h2 : ((sc.map PyData.int).length : Int) < (p : Int) + 1 := of_decide_eq_true h2
        rw [List.length_map] at h2
        have h2 : sc.length < p + 1 := by omega
        rw [if_pos h2]
        refine sx_cons (sy_setItem (j := 2) (ev_mod (ev_callTy call_int1 rfl T.n_int (by decide +kernel) (ea_cons (ev_add (ev_mul (ev_ixM hK.symm (vn 0) ev_int hin rfl) ev_int cm) ev_int) ea_nil) rc_int) ev_int (by decide)) (vn 0) ev_int hin li ?_)
        show SX _ _ _ (DS.setm ⟨[.m a, .d (.int m), .no, .no], [(a, .lst (msOf sc ((p : Int) + 1) sd st))]⟩ a _) _
        rw [setm1]
        exact sx_one (sy_retM (S1 := gTk a m .no .no sc ((p : Int) + 1) ((sd * 48271 + 11) % 2147483647) st) (ev_mod (ev_callTy call_int1 rfl T.n_int (by decide +kernel) (ea_cons (ev_fdiv (ev_ixM hK.symm (vn 0) ev_int hin rfl) ev_int (Sz.dv (a := 3) (by decide) (show (7 : Int).natAbs < 2 ^ 3 by decide) (by decide) (by decide))) ea_nil) rc_int) (vn 1) m0) (List.mem_singleton.mpr rfl))
      · have h2 : ¬ ((sc.map PyData.int).length : Int) < (p : Int) + 1 := of_decide_eq_false h2
        rw [List.length_map] at h2
        have h2 : ¬ sc.length < p + 1 := by omega
        have hp : p < sc.length := by omega
        rw [if_neg h2]
        refine sx_nil ?_
        have at0 : atI (sc.map PyData.int) ((p : Int) + 1 - 1) = some (.int (sc.getD p 0)) := by
          have : (p : Int) + 1 - 1 = (p : Int) := by omega
          rw [this]
          refine atI_nat ?_
          rw [List.getElem?_map, List.getElem?_eq_getElem hp, List.getD_eq_getElem?_getD, List.getElem?_eq_getElem hp]
          rfl
        refine sx_cons (sy_asg (i := 2) (ev_ixL hK.symm (ev_ixM hK.symm (vn 0) ev_int hin rfl) (ev_sub (ev_ixM hK.symm (vn 0) ev_int hin rfl) ev_int) at0) sc_law_taken.nd rfl (.inl rfl) li ?_)
        refine sx_cons (sy_setItem (j := 2) (ev_mod (ev_callTy call_int1 rfl T.n_int (by decide +kernel) (ea_cons (ev_add (ev_add (ev_mul (ev_ixM hK.symm (vn 0) ev_int hin rfl) ev_int cm) (vn 2)) ev_int) ea_nil) rc_int) ev_int (by decide)) (vn 0) ev_int hin li ?_)
        show SX _ _ _ (DS.setm ⟨[.m a, .d (.int m), .d (.int (sc.getD p 0)), .no], [(a, .lst (msOf sc ((p : Int) + 1) sd st))]⟩ a _) _
        rw [setm1]
        show SX _ _ _ (gTk a m (.d (.int (sc.getD p 0))) .no sc ((p : Int) + 1) ((sd * 48271 + sc.getD p 0 + 11) % 2147483647) st) _
        refine sx_cons (sy_if (et_ge (vn 2) (ev_pow ev_int ev_int ?_)) (fun h3 => ?_) fun h3 => ?_)
        · exact ⟨by decide, by decide, by decide⟩
        · have h3 : 10 ^ 18 ≤ sc.getD p 0 := of_decide_eq_true h3
          rw [if_pos h3]
          refine sx_one (sy_setItem (j := 3) (ev_fdiv (vn 2) (vn 1) (mz.dv m0 (by decide) (by decide))) (vn 0) ev_int hin li ?_)
          show SX _ _ _ (DS.setm ⟨[.m a, .d (.int m), .d (.int (sc.getD p 0)), .no], [(a, .lst (msOf sc ((p : Int) + 1) ((sd * 48271 + sc.getD p 0 + 11) % 2147483647) st))]⟩ a _) _
          rw [setm1]
          exact sx_one (sy_retM (S1 := gTk a m (.d (.int (sc.getD p 0))) .no sc ((p : Int) + 1) ((sd * 48271 + sc.getD p 0 + 11) % 2147483647) (sc.getD p 0 / m)) (ev_mod (ev_callTy call_int1 rfl T.n_int (by decide +kernel) (ea_cons (vn 2) ea_nil) rc_int) (vn 1) m0) (List.mem_singleton.mpr rfl))
        · have h3 : ¬ 10 ^ 18 ≤ sc.getD p 0 := of_decide_eq_false h3
          rw [if_neg h3]
          exact sx_nil (sx_one (sy_retM (S1 := gTk a m (.d (.int (sc.getD p 0))) .no sc ((p : Int) + 1) ((sd * 48271 + sc.getD p 0 + 11) % 2147483647) st) (ev_mod (ev_callTy call_int1 rfl T.n_int (by decide +kernel) (ea_cons (vn 2) ea_nil) rc_int) (vn 1) m0) (List.mem_singleton.mpr rfl)))
end
end KC
end
section
set_option Elab.async false
set_option linter.all false
set_option maxRecDepth 100000
set_option maxHeartbeats 4000000
set_option exponentiation.threshold 300000
namespace KC
open PySem PySem.Spec PyProof.Rows L2 DX
set_option autoImplicit false
/-! the other side's own reckoning -/
def r_pick (ms ds : List PyData) (d : PyData) (ms' : List PyData) : Prop := ∃ (R : Row) (xs : List PyData), R.Ok ∧ ms = R.ms ∧ ds = [.list xs] ∧ xs ≠ [] ∧ xs.length ≤ 1000 ∧ d = xs.getD (R.step (xs.length : Int)).1.toNat .none ∧ ms' = (R.step (xs.length : Int)).2.ms
def r_lfr (ds : List PyData) (d : PyData) : Prop := ∃ t l : Int, ds = [.int t, .int l] ∧ 0 < l ∧ Sz 8000 l ∧ d = frD (red t l)
theorem abs_max (t : Int) : (if 0 - t > t then 0 - t else t) = ((t.natAbs : Nat) : Int) := by split <;> omega
section
variable {P : Program} {w : World} {K : PySem.W.Frag} {mg : Str → Option Value} {base : Heap}
theorem ok_law_pick (T : Tx K mg) : FnOk P w K mg base CX0 2 T.d_law_pick.fa T.d_law_pick.fd P_law_pick (MP K r_pick) := by
  refine mp_ok T.d_law_pick.F sc_law_pick (fun ms ds d ms' h => ?_) fun cdv A outer s H E b a hK hfx hr ms ds d ms' h => ?_
  · obtain ⟨R, xs, _, _, rfl, _⟩ := h
    rfl
  · obtain ⟨R, xs, hR, rfl, rfl, hne, hz, rfl, rfl⟩ := h
    have l0 : (0 : Int) < (xs.length : Int) := by
      have := List.length_pos_iff.mpr hne
      omega
    have zl : Sz 60 (xs.length : Int) := Sz.nat (by omega)
    obtain ⟨_, q1, q2⟩ := Row.step_ok hR l0
    have hat : atI xs (R.step (xs.length : Int)).1 = some (xs.getD (R.step (xs.length : Int)).1.toNat .none) := by
      obtain ⟨n, hn⟩ : ∃ n : Nat, (R.step (xs.length : Int)).1 = (n : Int) := ⟨_, (Int.toNat_of_nonneg q1).symm⟩
      rw [hn, Int.toNat_natCast]
      have hlt : n < xs.length := by omega
      refine atI_nat ?_
      rw [List.getD_eq_getElem?_getD, List.getElem?_eq_getElem hlt]
      rfl
    refine sx_one (sy_retM (S1 := DS.setm ⟨[.m a, .d (.list xs)], [(a, .lst R.ms)]⟩ a (.lst (R.step (xs.length : Int)).2.ms)) (ev_ixL hK.symm (vn 1) (ev_callM (ok_law_taken T) hK.symm hr rfl T.d_law_taken.m T.d_law_taken.F.kp T.d_law_taken.b pass0 (ds := [.int (xs.length : Int)]) (ms := R.ms) (ea_cons (vn 0) (ea_cons (ev_callB call_len_seq rfl T.n_len PySem.boot_len (ea_cons (vn 1) ea_nil) (rc_lenL hK.symm)) ea_nil)) (List.mem_singleton.mpr rfl) ⟨R, _, hR, rfl, rfl, l0, zl, rfl, rfl⟩) hat) ?_)
    rw [setm1]
    exact List.mem_singleton.mpr rfl
abbrev gFr (t l : Int) (a b : Nat) : DS := ⟨[.d (.int t), .d (.int l), .d (.int (a : Int)), .d (.int (b : Int))], []⟩
theorem ok_law_fr (T : Tx K mg) : FnOk P w K mg base CX0 1 T.d_law_fr.fa T.d_law_fr.fd P_law_fr (FP K r_lfr) := by
  refine fp_ok T.d_law_fr.F sc_law_fr (fun ds d h => ?_) fun cdv A outer s H E b hK hr ds d h => ?_
  · obtain ⟨t, l, rfl, _⟩ := h
    rfl
  · obtain ⟨t, l, rfl, h0, hl, rfl⟩ := h
    refine sx_cons (sy_par (S1 := ⟨gStart N_law_fr [.d (.int t), .d (.int l)], []⟩) (i := 2) (j := 3) (u := .d (.int ((t.natAbs : Nat) : Int))) (w := .d (.int ((l.natAbs : Nat) : Int))) rfl sc_law_fr.nd rfl rfl (by decide) rfl rfl (ea_cons (S1 := ⟨gStart N_law_fr [.d (.int t), .d (.int l)], []⟩) ?_ (ea_cons ?_ ea_nil)) li li ?_)
    · rw [← abs_max]
      exact ev_callB (call_max2 rfl) rfl T.n_max (by decide +kernel) (ea_cons (vn 0) (ea_cons (ev_sub ev_int (vn 0)) ea_nil)) rc_max2
    · rw [← abs_max]
      exact ev_callB (call_max2 rfl) rfl T.n_max (by decide +kernel) (ea_cons (vn 1) (ea_cons (ev_sub ev_int (vn 1)) ea_nil)) rc_max2
    · show SX _ _ _ (gFr t l t.natAbs l.natAbs) _
      refine sx_cons (sy_while (fun μ S' => ∃ a b : Nat, S' = gFr t l a b ∧ Nat.gcd a b = Nat.gcd t.natAbs l.natAbs ∧ (0 < a ∨ 0 < b) ∧ b = μ) _ ⟨_, _, rfl, rfl, .inr (by omega), rfl⟩ PassesOwn.never ?_)
      rintro μ S' ⟨x, y, rfl, hg, hxy, rfl⟩
      refine ⟨!decide ((y : Int) = 0), _, et_neI (vn 3) ev_int, fun h => ?_, fun h => ?_⟩
      · have y0 : 0 < y := by
          have := h
          simp at this
          omega
        refine sx_one (sy_par (i := 2) (j := 3) (u := .d (.int (y : Int))) (w := .d (.int ((x : Int) % (y : Int)))) rfl sc_law_fr.nd rfl rfl (by decide) rfl rfl (ea_cons (vn 3) (ea_cons (ev_mod (vn 2) (vn 3) (by omega)) ea_nil)) li li ?_)
        refine ⟨x % y, Nat.mod_lt _ y0, y, x % y, ?_, ?_, .inl y0, rfl⟩
        · show (⟨[.d (.int t), .d (.int l), .d (.int (y : Int)), .d (.int ((x : Int) % (y : Int)))], []⟩ : DS) = _
          rw [← Int.natCast_emod]
        · rw [← hg, Nat.gcd_comm x y, Nat.gcd_rec y x, Nat.gcd_comm]
      · have y0 : y = 0 := by
          have := h
          simp at this
          omega
        subst y0
        have ex : x = Nat.gcd t.natAbs l.natAbs := by rw [← hg, Nat.gcd_zero_right]
        have x0 : 0 < x := by omega
        have zx : Sz 8000 (x : Int) := by
          refine Sz.nat (Nat.lt_of_le_of_lt ?_ hl)
          rw [ex]
          exact Nat.le_of_dvd (by omega) (Nat.gcd_dvd_right _ _)
        refine sx_cons (sy_asg (i := 2) (x := .d (.int (x : Int))) (S1 := gFr t l x 0) (ev_if (et_gt (vn 1) ev_int) (fun h => vn 2) fun h => absurd h0 (of_decide_eq_false h)) sc_law_fr.nd rfl (.inl rfl) li ?_)
        have er : red t l = (t / (x : Int), l / (x : Int)) := by unfold red; rw [ex]
        rw [er]
        exact sx_one (sy_retF (S1 := gFr t l x 0) (ev_tup (ds := [_, _]) (ea_cons (ev_fdiv (vn 0) (vn 2) (zx.dv (by omega) (by decide) (by decide))) (ea_cons (ev_fdiv (vn 1) (vn 2) (zx.dv (by omega) (by decide) (by decide))) ea_nil)) lq))
end
end KC
end
section
set_option Elab.async false
set_option linter.all false
set_option maxRecDepth 100000
set_option maxHeartbeats 4000000
set_option exponentiation.threshold 300000
namespace KC
open PySem PySem.Spec PyProof.Rows L2 DX
set_option autoImplicit false
/-! checks of numbers, lots, lengths -/
def isMany : PyData → Bool
  | .int i => decide (3 ≤ i) && decide (i ≤ 6)
  | _ => false
def fitB (a c : List Int) : Bool := decide (((a.filter fun i => decide (i ∈ c)).length : Int) = 0) || (decide (((a.filter fun i => decide (i ∈ c)).length : Int) = (a.length : Int)) || decide (((a.filter fun i => decide (i ∈ c)).length : Int) = (c.length : Int)))
def r_fit (ds : List PyData) (d : PyData) : Prop := ∃ a c : List Int, ds = [intsD a, intsD c] ∧ a.length ≤ 1000 ∧ d = .bool (fitB a c)
def i0 : PyData → Int
  | .int i => i
  | _ => 0
theorem map_i0 (ns : List Int) : (ns.map PyData.int).map i0 = ns := by
  rw [List.map_map]
  exact List.map_id ns
section
variable {P : Program} {w : World} {K : PySem.W.Frag} {mg : Str → Option Value} {base : Heap}
theorem ok_is_many (T : Tx K mg) : FnOk P w K mg base CX0 2 T.d_is_many.fa T.d_is_many.fd P_is_many (FP K (r_of isMany)) := by
  refine fp_ok T.d_is_many.F sc_is_many (fun ds d h => ?_) fun cdv A outer s H E b hK hr ds d h => ?_
  · obtain ⟨x, rfl, _⟩ := h
    rfl
  · obtain ⟨x, rfl, rfl⟩ := h
    by_cases hx : isWhole x = true
    · obtain ⟨i, rfl⟩ := isWhole_inv hx
      have e : isMany (.int i) = (isWhole (.int i) && (decide (3 ≤ i) && decide (i ≤ 6))) := rfl
      rw [e]
      refine sx_one (sy_retF (ev_and (ev_call (ok_is_whole T) hK.symm (hr.mono (by decide)) rfl T.d_is_whole.m T.d_is_whole.F.kp T.d_is_whole.b pass0 (ds := [.int i]) (ea_cons (vn 0) ea_nil) ⟨_, rfl, rfl⟩) fun _ => ev_one (ev_chain (X := (cxOf CX0 P w K mg base N_is_many "is_many" (defScope s_is_many) T.d_is_many.fa cdv A outer s H E).nox) op_le op_le rfl (ev_gint rfl (T.g_FEWEST_TIPS).choose_spec (by decide)) (vn 0) (ev_gint rfl (T.g_MOST_TIPS).choose_spec (by decide)) (rv_I0 fun _ => .bl _) (rv_I0 fun _ => .bl _))))
    · have e : isMany x = (isWhole x && false) := by cases x <;> first | rfl | exact (hx rfl).elim
      rw [e]
      exact sx_one (sy_retF (ev_and (ev_call (ok_is_whole T) hK.symm (hr.mono (by decide)) rfl T.d_is_whole.m T.d_is_whole.F.kp T.d_is_whole.b pass0 (ds := [x]) (ea_cons (vn 0) ea_nil) ⟨_, rfl, rfl⟩) fun h => (hx h).elim))
theorem fit_len {a c : List Int} : (((a.map PyData.int).filter fun d => decide (i0 d ∈ c)).map id).length = (a.filter fun i => decide (i ∈ c)).length := by
  rw [List.map_id, List.filter_map, List.length_map]
  rfl
theorem ok_lots_fit (T : Tx K mg) : FnOk P w K mg base CX0 1 T.d_lots_fit.fa T.d_lots_fit.fd P_lots_fit (FP K r_fit) := by
  refine fp_ok T.d_lots_fit.F sc_lots_fit (fun ds d h => ?_) fun cdv A outer s H E b hK hr ds d h => ?_
  · obtain ⟨a, c, rfl, _⟩ := h
    rfl
  · obtain ⟨a, c, rfl, hz, rfl⟩ := h
    refine sx_cons (sy_asg (i := 2) (S1 := ⟨gStart N_lots_fit [.d (intsD a), .d (intsD c)], []⟩) (x := .d (.int (((((a.map PyData.int).filter fun d => decide (i0 d ∈ c)).map id).length : Nat) : Int))) (ev_callB call_len_seq rfl T.n_len PySem.boot_len (ea_cons (x := .d (.list (((a.map PyData.int).filter fun d => decide (i0 d ∈ c)).map id))) (S1 := ⟨gStart N_lots_fit [.d (intsD a), .d (intsD c)], []⟩) ?_ ea_nil) (rc_lenL hK.symm)) sc_lots_fit.nd rfl (.inl rfl) li ?_)
    · refine ev_lcG1 (S1 := ⟨gStart N_lots_fit [.d (intsD a), .d (intsD c)], []⟩) (g := gName 3) [("tip", 3)] (ds := a.map .int) (fun d => [.d (intsD a), .d (intsD c), .no, .d d]) (f := fun d => decide (i0 d ∈ c)) id ?_ ?_ ?_ ?_ ?_ ?_ ?_ ?_ ?_ ?_
      · rfl
      · exact sc_lots_fit.nd
      · exact ei_tup hK.symm (vn 0)
      · rw [List.length_map]; exact hz
      · exact blkOk_by (N := N_lots_fit) (sc := defScope s_lots_fit) (by decide +kernel)
      · exact fun _ _ _ _ _ => pg_name (i := 3) sc_lots_fit.nd rfl (.inl rfl)
      · exact fun i d hd => tgb_name (vs := [3]) (j := 3) (g0 := [.d (intsD a), .d (intsD c), .no, .no]) (List.mem_singleton.mpr rfl) li
      · intro i d hd Dl acc s H C cl fp
        obtain ⟨n, _, rfl⟩ := List.mem_map.mp (List.mem_of_getElem? hd)
        exact et_inT hK.symm (vn 3) (vn 1)
      · exact fun i d hd _ Dl acc s H C cl fp => vn 3
      · rfl
    · rw [fit_len]
      refine sx_one (sy_retF (ev_or (ev_eqI (vn 2) ev_int) fun _ => ev_or (ev_eqI (vn 2) ?_) fun _ => ev_one (ev_eqI (vn 2) ?_)))
      · rw [show (a.length : Int) = ((a.map PyData.int).length : Int) by rw [List.length_map]]
        exact (ev_callB call_len_seq rfl T.n_len PySem.boot_len (ea_cons (vn 0) ea_nil) (rc_lenT hK.symm))
      · rw [show (c.length : Int) = ((c.map PyData.int).length : Int) by rw [List.length_map]]
        exact (ev_callB call_len_seq rfl T.n_len PySem.boot_len (ea_cons (vn 1) ea_nil) (rc_lenT hK.symm))
end
end KC
end
section
set_option Elab.async false
set_option linter.all false
set_option maxRecDepth 100000
set_option maxHeartbeats 4000000
set_option exponentiation.threshold 300000
namespace KC
open PySem PySem.Spec PyProof.Rows L2 DX
set_option autoImplicit false
/-! what rises; lots; lengths -/
def ltD : PyData → PyData → Bool
  | .int i, .int j => decide (i < j)
  | .tuple xs, .tuple ys => HT.lexLt (xs.map i0) (ys.map i0)
  | _, _ => false
def risesD : List PyData → Bool
  | x :: y :: r => ltD x y && risesD (y :: r)
  | _ => true
def pairLt : PyData → Bool
  | .tuple [x, y] => ltD x y
  | _ => false
theorem rises_all : ∀ xs : List PyData, ((xs.zip (xs.drop 1)).map fun p => ltD p.1 p.2).all id = risesD xs
  | [] => rfl
  | [_] => rfl
  | x :: y :: r => by
    have ih := rises_all (y :: r)
    show ((((x, y) :: ((y :: r).zip r)).map fun p => ltD p.1 p.2).all id) = (ltD x y && risesD (y :: r))
    rw [List.map_cons, List.all_cons, ← ih]
    rfl
def IntsOrLots (xs : List PyData) : Prop := (∃ ns : List Int, xs = ns.map .int) ∨ (∃ ls : List (List Int), xs = ls.map intsD)
def r_rises (ds : List PyData) (d : PyData) : Prop := ∃ xs, ds = [.tuple xs] ∧ xs.length ≤ 900 ∧ IntsOrLots xs ∧ d = .bool (risesD xs)
theorem intsOrLots_two {xs : List PyData} (h : IntsOrLots xs) {x y : PyData} (hx : x ∈ xs) (hy : y ∈ xs) : (∃ i j : Int, x = .int i ∧ y = .int j) ∨ (∃ a c : List Int, x = intsD a ∧ y = intsD c) := by
  rcases h with ⟨ns, rfl⟩ | ⟨ls, rfl⟩
  · obtain ⟨i, _, rfl⟩ := List.mem_map.mp hx
    obtain ⟨j, _, rfl⟩ := List.mem_map.mp hy
    exact .inl ⟨i, j, rfl, rfl⟩
  · obtain ⟨i, _, rfl⟩ := List.mem_map.mp hx
    obtain ⟨j, _, rfl⟩ := List.mem_map.mp hy
    exact .inr ⟨i, j, rfl, rfl⟩
section
variable {P : Program} {w : World} {K : PySem.W.Frag} {mg : Str → Option Value} {base : Heap}
theorem ok_rises (T : Tx K mg) : FnOk P w K mg base CX0 1 T.d_rises.fa T.d_rises.fd P_rises (FP K r_rises) := by
  refine fp_ok T.d_rises.F sc_rises (fun ds d h => ?_) fun cdv A outer s H E b hK hr ds d h => ?_
  · obtain ⟨x, rfl, _⟩ := h
    rfl
  · obtain ⟨xs, rfl, hz, hil, rfl⟩ := h
    have e1 : ((((xs.zip (xs.drop 1)).map fun p => PyData.tuple [p.1, p.2]).map fun d => PyData.bool (pairLt d))) = ((xs.zip (xs.drop 1)).map fun p => ltD p.1 p.2).map .bool := by
      rw [List.map_map, List.map_map]
      rfl
    have hlen : (xs.zip (xs.drop 1)).length ≤ 1000 := by rw [List.length_zip]; omega
    refine sx_one (sy_retF (S1 := ⟨gStart N_rises [.d (.tuple xs)], []⟩) (ev_callB (cr_all rfl) rfl T.n_all (by decide +kernel) (ea_cons (S1 := ⟨gStart N_rises [.d (.tuple xs)], []⟩) (x := .d (.list (((xs.zip (xs.drop 1)).map fun p => ltD p.1 p.2).map .bool))) ?_ ea_nil) (by rw [← rises_all]; exact rc_all hK.symm)))
    refine ev_lcG0 (S1 := ⟨gStart N_rises [.d (.tuple xs)], []⟩) (g := gTup K 2 (gList [gName 1, gName 2])) [("value", 1), ("following", 2)] (ds := (xs.zip (xs.drop 1)).map fun p => PyData.tuple [p.1, p.2]) (fun p => match p with
        | .tuple [x, y] => [.d (.tuple xs), .d x, .d y]
        | _ => []) (fun d => .bool (pairLt d)) ?_ ?_ ?_ ?_ ?_ ?_ ?_ ?_ ?_
    · rfl
    · exact sc_rises.nd
    · exact ei_zipT hK.symm rfl T.n_zip (vn 0) (ev_fromT (n := 1) hK.symm (vn 0))
    · rw [List.length_map]; exact hlen
    · exact blkOk_by (N := N_rises) (sc := defScope s_rises) (by decide +kernel)
    · exact fun _ _ _ _ _ => pg_tup rfl (pgs_cons (pg_name (i := 1) sc_rises.nd rfl (.inl rfl)) (pgs_cons (pg_name (i := 2) sc_rises.nd rfl (.inl rfl)) pgs_nil))
    · intro i d hd
      obtain ⟨p, _, rfl⟩ := List.mem_map.mp (List.mem_of_getElem? hd)
      exact tgb_tup hK.symm rfl (.cons (tgb_name (by simp) li) (.cons (tgb_name (by simp) li) .nil))
    · intro i d hd Dl acc s H C cl fp
      obtain ⟨p, hp, rfl⟩ := List.mem_map.mp (List.mem_of_getElem? hd)
      obtain ⟨m1, m2⟩ := List.of_mem_zip hp
      rcases intsOrLots_two hil m1 (List.mem_of_mem_drop m2) with ⟨u, v, e1, e2⟩ | ⟨u, v, e1, e2⟩
      · obtain ⟨p1, p2⟩ := p
        cases e1
        cases e2
        exact ev_lt (vn 1) (vn 2)
      · obtain ⟨p1, p2⟩ := p
        cases e1
        cases e2
        show EV _ b _ _ (.d (.bool (HT.lexLt ((u.map PyData.int).map i0) ((v.map PyData.int).map i0)))) _
        rw [map_i0, map_i0]
        exact ev_ltT hK.symm (Nat.lt_of_le_of_lt (Nat.le_add_right _ 64) hr.units) (vn 1) (vn 2)
    · rw [e1]
end
end KC
end
section
set_option Elab.async false
set_option linter.all false
set_option maxRecDepth 100000
set_option maxHeartbeats 4000000
set_option exponentiation.threshold 300000
namespace KC
open PySem PySem.Spec PyProof.Rows L2 DX
set_option autoImplicit false
def tipOk (n : Int) : PyData → Bool
  | .int i => decide (1 ≤ i) && decide (i ≤ n)
  | _ => false
def isLot (n : Int) : PyData → Bool
  | .tuple xs => (decide (2 ≤ (xs.length : Int)) && decide ((xs.length : Int) < n)) && ((xs.map (tipOk n)).all id && risesD xs)
  | _ => false
def r_lot (ds : List PyData) (d : PyData) : Prop := ∃ (n : Int) (x : PyData), ds = [.int n, x] ∧ n ≤ 900 ∧ d = .bool (isLot n x)
def isLength : PyData → Bool
  | .tuple [.int t, .int l] => isFrac (.tuple [.int t, .int l]) && (decide (l ≤ 2) && (decide (0 < t) && decide (t ≤ 500 * l)))
  | _ => false
def r_doubled (ds : List PyData) (d : PyData) : Prop := ∃ t l : Int, ds = [.tuple [.int t, .int l]] ∧ 0 < l ∧ l ≤ 2 ∧ Sz 60 t ∧ d = .int (2 * t / l)
theorem tips_ints {n : Int} {xs : List PyData} (h : (xs.map (tipOk n)).all id = true) : ∃ ns : List Int, xs = ns.map .int ∧ ∀ i ∈ ns, 1 ≤ i ∧ i ≤ n := by
  rw [all_map_id] at h
  induction xs with
  | nil => exact ⟨[], rfl, fun i h => (List.not_mem_nil h).elim⟩
  | cons x xs ih =>
    obtain ⟨ns, e, q⟩ := ih fun y hy => h y (List.mem_cons_of_mem _ hy)
    have hx := h x List.mem_cons_self
    cases x with
    | int i =>
      have hx : (decide (1 ≤ i) && decide (i ≤ n)) = true := hx
      rw [Bool.and_eq_true, decide_eq_true_eq, decide_eq_true_eq] at hx
      refine ⟨i :: ns, by rw [e]; rfl, fun j hj => ?_⟩
      rcases List.mem_cons.mp hj with rfl | hj
      · exact hx
      · exact q j hj
    | _ => cases hx
section
variable {P : Program} {w : World} {K : PySem.W.Frag} {mg : Str → Option Value} {base : Heap}
theorem ok_is_lot (T : Tx K mg) : FnOk P w K mg base CX0 2 T.d_is_lot.fa T.d_is_lot.fd P_is_lot (FP K r_lot) := by
  refine fp_ok T.d_is_lot.F sc_is_lot (fun ds d h => ?_) fun cdv A outer s H E b hK hr ds d h => ?_
  · obtain ⟨n, x, rfl, _⟩ := h
    rfl
  · obtain ⟨n, x, rfl, hn, rfl⟩ := h
    by_cases hx : isInst x "tuple" = true
    · obtain ⟨xs, rfl⟩ : ∃ xs, x = .tuple xs := by cases x <;> first | (cases hx; done) | exact ⟨_, rfl⟩
      refine sx_cons (sy_if (t := !isInst (.tuple xs) "tuple" || !(decide (2 ≤ (xs.length : Int)) && decide ((xs.length : Int) < n))) (et_w (ew_or (et_not (et_val (ev_isi hK.symm rfl T.n_isinstance rfl T.n_tuple Str.isTuple (.inr (.inr (.inr (.inl rfl)))) (vn 1)))) fun _ => et_or1 (et_not (et_chain (X := (cxOf CX0 P w K mg base N_is_lot "is_lot" (defScope s_is_lot) T.d_is_lot.fa cdv A outer s H E).nox) op_le op_lt rfl ev_int (ev_callB call_len_seq rfl T.n_len PySem.boot_len (ea_cons (vn 1) ea_nil) (rc_lenT hK.symm)) (vn 0) (rv_I0 fun _ => .bl _) (rv_I0 fun _ => .bl _))))) (fun h => ?_) fun h => ?_)
      · have h2 : (decide (2 ≤ (xs.length : Int)) && decide ((xs.length : Int) < n)) = false := by
          cases hh : (decide (2 ≤ (xs.length : Int)) && decide ((xs.length : Int) < n)) with
          | false => rfl
          | true => rw [hh] at h; cases h
        have e : isLot n (.tuple xs) = false := by
          show ((decide (2 ≤ (xs.length : Int)) && decide ((xs.length : Int) < n)) && _) = false
          rw [h2]; rfl
        rw [e]
        exact sx_one (sy_retF ev_bl)
      · have h2 : (decide (2 ≤ (xs.length : Int)) && decide ((xs.length : Int) < n)) = true := by
          cases hh : (decide (2 ≤ (xs.length : Int)) && decide ((xs.length : Int) < n)) with
          | true => rfl
          | false => rw [hh] at h; cases h
        have e : isLot n (.tuple xs) = ((xs.map (tipOk n)).all id && risesD xs) := by
          show ((decide (2 ≤ (xs.length : Int)) && decide ((xs.length : Int) < n)) && _) = _
          rw [h2]; rfl
        rw [e]
        have hz : xs.length ≤ 900 := by
          rw [Bool.and_eq_true, decide_eq_true_eq, decide_eq_true_eq] at h2
          omega
        refine sx_nil (sx_one (sy_retF (S1 := ⟨gStart N_is_lot [.d (.int n), .d (.tuple xs)], []⟩) (ev_and (ev_callB (cr_all rfl) rfl T.n_all (by decide +kernel) (ea_cons (S1 := ⟨gStart N_is_lot [.d (.int n), .d (.tuple xs)], []⟩) (x := .d (.list ((xs.map (tipOk n)).map .bool))) ?_ ea_nil) (rc_all hK.symm)) fun ha => ev_one (ev_call (ok_rises T) hK.symm (hr.mono (by decide)) rfl T.d_rises.m T.d_rises.F.kp T.d_rises.b pass0 (ds := [.tuple xs]) (ea_cons (vn 1) ea_nil) ?_))))
        · refine ev_lcG0 (S1 := ⟨gStart N_is_lot [.d (.int n), .d (.tuple xs)], []⟩) (g := gName 2) [("tip", 2)] (ds := xs) (fun d => [.d (.int n), .d (.tuple xs), .d d]) (fun d => .bool (tipOk n d)) ?_ ?_ ?_ ?_ ?_ ?_ ?_ ?_ ?_
          · rfl
          · exact sc_is_lot.nd
          · exact ei_tup hK.symm (vn 1)
          · omega
          · exact blkOk_by (N := N_is_lot) (sc := defScope s_is_lot) (by decide +kernel)
          · exact fun _ _ _ _ _ => pg_name (i := 2) sc_is_lot.nd rfl (.inl rfl)
          · exact fun i d hd => tgb_name (vs := [2]) (j := 2) (g0 := [.d (.int n), .d (.tuple xs), .no]) (List.mem_singleton.mpr rfl) li
          · intro i d hd Dl acc s H C cl fp
            by_cases hw : isWhole d = true
            · obtain ⟨j, rfl⟩ := isWhole_inv hw
              have e2 : tipOk n (.int j) = (isWhole (.int j) && (decide (1 ≤ j) && decide (j ≤ n))) := rfl
              rw [e2]
              exact ev_and (ev_call (ok_is_whole T) hK.symm (hr.mono (by decide)) rfl T.d_is_whole.m T.d_is_whole.F.kp T.d_is_whole.b pass0 (ds := [.int j]) (ea_cons (vn 2) ea_nil) ⟨_, rfl, rfl⟩) fun _ => ev_one (ev_chain op_le op_le rfl ev_int (vn 2) (vn 0) (rv_I0 fun _ => .bl _) (rv_I0 fun _ => .bl _))
            · have e2 : tipOk n d = (isWhole d && false) := by cases d <;> first | rfl | exact (hw rfl).elim
              rw [e2]
              exact ev_and (ev_call (ok_is_whole T) hK.symm (hr.mono (by decide)) rfl T.d_is_whole.m T.d_is_whole.F.kp T.d_is_whole.b pass0 (ds := [d]) (ea_cons (vn 2) ea_nil) ⟨_, rfl, rfl⟩) fun h => (hw h).elim
          · rw [List.map_map]; rfl
        · obtain ⟨ns, e, _⟩ := tips_ints ha
          exact ⟨xs, rfl, hz, .inl ⟨ns, e⟩, rfl⟩
    · have hx : isInst x "tuple" = false := by simpa using hx
      have e : isLot n x = false := by cases x <;> first | rfl | cases hx
      rw [e]
      refine sx_cons (sy_if (t := !isInst x "tuple" || true) (et_w (ew_or (et_not (et_val (ev_isi hK.symm rfl T.n_isinstance rfl T.n_tuple Str.isTuple (.inr (.inr (.inr (.inl rfl)))) (vn 1)))) fun h => by rw [hx] at h; cases h)) (fun h => sx_one (sy_retF ev_bl)) fun h => by simp at h)
theorem ok_is_length (T : Tx K mg) : FnOk P w K mg base CX0 3 T.d_is_length.fa T.d_is_length.fd P_is_length (FP K (r_of isLength)) := by
  refine fp_ok T.d_is_length.F sc_is_length (fun ds d h => ?_) fun cdv A outer s H E b hK hr ds d h => ?_
  · obtain ⟨x, rfl, _⟩ := h
    rfl
  · obtain ⟨x, rfl, rfl⟩ := h
    refine sx_cons (sy_if (t := !isFrac x) (et_not (et_val (ev_call (ok_is_fraction T) hK.symm (hr.mono (by decide)) rfl T.d_is_fraction.m T.d_is_fraction.F.kp T.d_is_fraction.b pass0 (ds := [x]) (ea_cons (vn 0) ea_nil) ⟨_, rfl, rfl⟩))) (fun h => ?_) fun h => ?_)
    · have h : isFrac x = false := by simpa using h
      have e : isLength x = false := by
        cases hx : isLength x with
        | false => rfl
        | true =>
          unfold isLength at hx
          split at hx
          · rw [h] at hx; cases hx
          · cases hx
      rw [e]
      exact sx_one (sy_retF ev_bl)
    · have h : isFrac x = true := by simpa using h
      obtain ⟨t, l, rfl, _⟩ := isFrac_inv h
      have e : isLength (.tuple [.int t, .int l]) = (decide (l ≤ 2) && (decide (0 < t) && decide (t ≤ 500 * l))) := by
        show (isFrac (.tuple [.int t, .int l]) && _) = _
        rw [h]; rfl
      rw [e]
      refine sx_nil (sx_cons (sy_unpack (vn 0) (pg_tup rfl (pgs_cons (pg_name (i := 1) sc_is_length.nd rfl (.inl rfl)) (pgs_cons (pg_name (i := 2) sc_is_length.nd rfl (.inl rfl)) pgs_nil))) (tg_tup hK.symm rfl (.cons (tg_name li) rfl (.cons (tg_name li) rfl .nil))) rfl ?_))
      have l0 : 0 < l := by
        obtain ⟨_, _, e1, h0, _⟩ := isFrac_inv h
        cases e1
        exact h0
      refine sx_one (sy_retF (ev_and (ev_le (vn 2) ev_int) fun hl => ev_one (ev_chain (X := (cxOf CX0 P w K mg base N_is_length "is_length" (defScope s_is_length) T.d_is_length.fa cdv A outer s H E).nox) op_lt op_le rfl ev_int (vn 1) (ev_mul (ev_gint rfl (T.g_LONGEST).choose_spec (by decide)) (vn 2) ?_) (rv_I0 fun _ => .bl _) (rv_I0 fun _ => .bl _))))
      have hl : l ≤ 2 := of_decide_eq_true hl
      exact Sz.cm (a := 10) (b := 10) (show (500 : Int).natAbs < 2 ^ 10 by decide) (by unfold Sz; omega) (by decide)
end
end KC
end
section
set_option Elab.async false
set_option linter.all false
set_option maxRecDepth 100000
set_option maxHeartbeats 4000000
namespace DX
open PySem PySem.Spec PyProof.Rows L2
set_option autoImplicit false
section
variable {X : Cx} {b : Bs} {S S1 : DS} {D : DE} {pos : Pos}
theorem sx_vac {st : List Stmt} (h : ¬ S.as.Nodup) : SX X b st S D := fun σ H r _ _ => (h r.rm.nd).elim
theorem setm2 {g : List DV} {p a : Addr} {t o o' : MO} (h : p ≠ a) : DS.setm ⟨g, [(p, t), (a, o)]⟩ a o' = ⟨g, [(p, t), (a, o')]⟩ := by
  unfold DS.setm setM
  simp [h]
theorem passF {X : Cx} : Passes (L2.CX X.prog X.w) X (fun _ _ _ => False) := fun _ _ _ _ _ _ _ ⟨_, _, _, _, _, _, _, _, _, _, _, _, z⟩ => z.elim
def rCatS (K : PySem.W.Frag) : R2 := fun x y H Q => ∃ l b xs zs, x = .ref l ∧ y = .ref b ∧ SqL K H l xs ∧ SqL K H b zs ∧ xs.length + zs.length ≤ sizeLine ∧ ∀ p, H p = none → Q (.ref p) (upd H p (.lst (xs ++ zs)))
theorem op_catS : OpR X (binaryOp .Add) (rCatS X.K) := by
  intro pins s σ H x y v u Q I rx ry h
  obtain ⟨l, b, xs, zs, rfl, rfl, h1, h2, hz, q⟩ := h
  cases rx
  cases ry
  obtain ⟨its, r, ⟨o, n, e, c, dd, hd⟩, z⟩ := I.list h1
  obtain ⟨its2, r2, ⟨o2, n2, e2, c2, dd2, hd2⟩, z2⟩ := I.list h2
  obtain ⟨cls, dct, data, sl⟩ := o
  obtain ⟨cls2, dct2, data2, sl2⟩ := o2
  simp only at c dd hd c2 dd2 hd2
  subst c dd hd c2 dd2 hd2
  have ea : its.toArray ++ its2.toArray = (its ++ its2).toArray := by simp
  have l1 := r.length
  have l2 := r2.length
  refine concat_meets ⟨_, e, rfl⟩ ⟨_, e2, rfl⟩ noFill_list_add seq_list_add PySem.F.slot_list_add PySem.F.entry_list_add (PySem.F.args_list_add_2 _ _) (list_addW l b its.toArray its2.toArray n n2 none none sl sl2 (by rw [List.size_toArray, List.size_toArray]; omega)) ⟨e, e2, ?_⟩
  rw [ea]
  exact ⟨.ref _, _, I.lnew (t' := s.toks) (r.append r2) (by rw [List.length_append]; omega), rfl, q _ I.fresh⟩
theorem ev_catL {e1 e2 : Expr} {ds es : List PyData} (hK : X.K = b.K) (h1 : EV X b e1 S (.d (.list ds)) S1) {S2 : DS} (h2 : EV X b e2 S1 (.d (.list es)) S2) (hz : ds.length + es.length ≤ 1000) : EV X b (.BinOp e1 .Add e2 pos) S (.d (.list (ds ++ es))) S2 := by
  refine ev_op op_catS h1 h2 ?_
  intro H u v rm hu hv Q q
  cases hu with
  | lst g1 a1 =>
    rename_i c xs
    cases hv with
    | lst g2 a2 =>
      rename_i d ys
      refine ⟨c, d, xs, ys, rfl, rfl, by rw [hK]; exact ex_l hide_ex g1, by rw [hK]; exact ex_l hide_ex g2, by rw [DpAll.len a1, DpAll.len a2]; exact Nat.le_of_lt (small1000 hz), fun p hp => ?_⟩
      obtain ⟨r2, x2⟩ := rm.grow (Ex.new (o := .lst (xs ++ ys)) hp)
      exact q _ _ (.lst (.inl (.inl (hide_new (rm.fresh hp)))) (DpAll.ex x2 (DpAll.append a1 a2))) (fun σ r => (r.grow (Ex.new hp)).1) x2
end
end DX
end
section
set_option Elab.async false
set_option linter.all false
set_option maxRecDepth 100000
set_option maxHeartbeats 4000000
namespace DX
open PySem PySem.Spec PyProof.Rows L2 LamX
set_option autoImplicit false
/-! a def that makes lambdas: its code's table changes -/
def FT (K : PySem.W.Frag) (Pt : Addr) (q : Str) (f : List PyData → PyData → Prop) : Sp := fun vs H Q _ => ∃ (A : List Addr) (ds : List PyData) (d : PyData), Pt ∉ A ∧ (∀ c ∈ A, H c ≠ none) ∧ TabS H Pt q ∧ DpAll K (hide (A ++ [Pt]) H) vs ds ∧ f ds d ∧
  ∀ v H', (∀ c o, H c = some o → c ≠ Pt → H' c = some o) → Dp K (hide (A ++ [Pt]) H') v d → Q v H'
section
variable {P : Program} {w : World} {K : PySem.W.Frag} {mg : Str → Option Value} {base : Heap}
theorem ft_ok {x qual : Str} {st : Stmt} {fa Pt : Addr} {q : Str} {fd : FuncData} {N ps : List Str} {k : Nat} {f : List PyData → PyData → Prop} (F : Fun K x qual st fa fd) (Sc : FnScope N ps (defScope st)) (len : ∀ ds d, f ds d → ds.length = ps.length)
    (hbody : ∀ (A : Around) (outer : List Env) (s : Shared) (H : Hp) (E : XK) (b : Bs), b.K = K → Room k (A.deeper (envOfC qual (defScope st) s.heap.objs.size fa fd.code)) → ∀ ds d, f ds d →
      SX (cxOf CX0 P w K mg base N qual (defScope st) fa fd.code A outer s H E).nox b (defBody st) ⟨gStart N (ds.map .d), [(Pt, .tab q)]⟩ { nx := fun _ => d = .none, rt := fun x S' => x = .d d ∧ ∃ q', (Pt, MO.tab q') ∈ S'.m }) : FnOk P w K mg base CX0 (k + 1) fa fd ps (FT K Pt q f) := by
  obtain ⟨oc, od, kV, doc, pm, an, cdv, ct, osl, rfl, lk, hcd⟩ := F.ex
  refine fn_of lk hcd Sc (fun vs H Q E h => ?_) fun A outer s H vs Q E hr h => ?_
  · obtain ⟨A, ds, d, _, _, _, hd, hf, _⟩ := h
    rw [DpAll.len hd]
    exact len ds d hf
  · obtain ⟨A', ds, d, hP, hA, hT, hd, hf, q'⟩ := h
    refine ⟨wS _ _, (pssW _).nox, ?_⟩
    let b : Bs := ⟨K, H, [Pt], A', fun c hc => ⟨hA c hc, by simp; intro e; exact hP (e ▸ hc)⟩⟩
    have hH : ∀ (g : List DV) o, Hd b ⟨g, [(Pt, o)]⟩ = A' ++ [Pt] := fun g o => by unfold Hd DS.as; simp [b]
    have rm : RelM b ⟨[], [(Pt, .tab q)]⟩ H := by
      refine ⟨fun p hp => ?_, by simp [DS.as], fun c hc => ?_, fun c o e _ => e, fun c hc => by simpa [DS.as, b] using hc⟩
      · have : p = (Pt, MO.tab q) := by simpa using hp
        subst this
        exact hT
      · have : c = Pt := by simpa [DS.as] using hc
        subst this
        exact .inr (by simp [b])
    have r : Rel b ⟨gStart N (ds.map DV.d), [(Pt, .tab q)]⟩ (L2.start N vs) H := rel_start (by rw [hH]; exact vall_of hd) rm
    have fin : ∀ (S' : DS) (v : V) (H' : Hp), (∃ q', (Pt, MO.tab q') ∈ S'.m) → RelM b S' H' → VOk b.K (Hd b S') H' v (.d d) → Q v H' := by
      intro S' v H' ⟨q1, hm⟩ r' vo
      have sub : ∀ c ∈ A' ++ [Pt], c ∈ Hd b S' := fun c hc => by
        rcases List.mem_append.mp hc with q | q
        · exact List.mem_append.mpr (.inl q)
        · rw [List.mem_singleton] at q
          exact List.mem_append.mpr (.inr (List.mem_map.mpr ⟨_, hm, q.symm⟩))
      exact q' v H' (fun c o e ne => r'.ext c o e (by simpa [b] using ne)) (Dp.ex (hide_sub sub) vo)
    have hb := hbody A outer s H E b rfl hr ds d hf
    refine hb _ H r _ ⟨fun S' σ' H' e r' x => ?_, fun y S' v H' e vo r' x => ?_, fun _ _ _ e => e.elim, fun _ _ _ e => e.elim⟩
    · refine q' _ _ (fun c o h ne => r'.rm.ext c o h (by simpa [b] using ne)) ?_
      rw [e]
      exact .non
    · obtain ⟨rfl, hm⟩ := e
      exact fin S' v H' hm r' vo
end
section
variable {X : Cx} {b : Bs} {S : DS} {D : DE}
/-- what a def was given to change stands in the state -/
theorem sx_know {st : List Stmt} (h : (∀ x ∈ b.fx, x ∈ S.as) → SX X b st S D) : SX X b st S D := fun σ H r E k => h r.rm.fxs σ H r E k
end
end DX
end
section
set_option Elab.async false
set_option linter.all false
set_option maxRecDepth 100000
set_option maxHeartbeats 4000000
namespace DX
open PySem PySem.Spec PyProof.Rows L2
set_option autoImplicit false
section
variable {X : Cx} {b : Bs} {S S1 S2 S3 S' : DS} {x y z : DV} {pos : Pos} {D : DE}
theorem smallM {n : Nat} (h : n < 1000000) : n < sizeLine := by rw [sizeLine_eq]; omega
theorem lc_stepW {scope : Scope} {elt : Expr} {tt : TT} {g0 gt : List DV} {M M' : List (Addr × MO)} {Dl : Addr} {acc : List PyData} {c : Bool} {d : PyData} {σ2 : List (Option V)} {H : Hp} {Nx : Hp → Prop}
    (hM : M'.map (·.1) = M.map (·.1)) (r : Rel b ⟨gt, M ++ [(Dl, .lst acc)]⟩ σ2 H) (hz : acc.length < 1000000)
    (ht : ∀ Q : Bool → Hp → Prop, (∀ H', Rel b ⟨gt, M ++ [(Dl, .lst acc)]⟩ σ2 H' → Ex (hide (Hd b ⟨gt, M ++ [(Dl, .lst acc)]⟩) H) (hide (Hd b ⟨gt, M ++ [(Dl, .lst acc)]⟩) H') → Q c H') → tt σ2 H Q)
    (he : c = true → EVb X b scope elt ⟨gt, M ++ [(Dl, .lst acc)]⟩ (.d d) ⟨gt, M' ++ [(Dl, .lst acc)]⟩) (hno : c = false → M' = M)
    (hN : ∀ H', RelM b ⟨g0, M' ++ [(Dl, .lst (if c then acc ++ [d] else acc))]⟩ H' → Ex (hide (Hd b ⟨gt, M ++ [(Dl, .lst acc)]⟩) H) (hide (Hd b ⟨g0, M' ++ [(Dl, .lst (if c then acc ++ [d] else acc))]⟩) H') → Nx H') :
    tt σ2 H fun k H3 => if k = true then wEb X scope elt σ2 H3 fun y H4 => ∃ acc, H4 Dl = some (.lst acc) ∧ acc.length < sizeLine ∧ Nx (upd H4 Dl (.lst (acc ++ [y]))) else Nx H3 := by
  refine ht _ fun H3 r3 x3 => ?_
  cases c with
  | false =>
    show Nx H3
    have e := hno rfl
    subst e
    refine hN H3 (relM_g r3.rm) ?_
    exact x3
  | true =>
    show wEb X scope elt σ2 H3 _
    intro s H0 C cl fp
    refine he rfl s H0 C cl fp σ2 H3 r3 _ fun v H4 k4 r4 x4 a4 => ?_
    have hin : (Dl, MO.lst acc) ∈ (⟨gt, M' ++ [(Dl, .lst acc)]⟩ : DS).m := List.mem_append.mpr (.inr (by simp))
    obtain ⟨us, e1, e2⟩ := r4.rm.mem _ hin
    refine ⟨us, e1, by rw [DpAll.len e2]; exact smallM (by omega), ?_⟩
    have xx : Ex (hide (Hd b ⟨gt, M' ++ [(Dl, .lst acc)]⟩) H4) (hide (Hd b ⟨gt, M' ++ [(Dl, .lst acc)]⟩) (upd H4 Dl (.lst (us ++ [v])))) := fun q u e => by
      obtain ⟨q1, q2⟩ := hide_some e
      have hne : q ≠ Dl := fun z => q2 (List.mem_append.mpr (.inr (List.mem_map.mpr ⟨_, hin, z.symm⟩)))
      rw [hide_out q2, upd_ne hne]
      exact q1
    obtain ⟨r5, x5⟩ := r4.setm (o' := .lst (acc ++ [d])) (H' := upd H4 Dl (.lst (us ++ [v]))) hin (fun q u e ne => by rw [upd_ne ne]; exact e) ⟨_, upd_same, DpAll.ex xx (DpAll.append e2 (.cons k4 .nil))⟩
    have em : (DS.setm ⟨gt, M' ++ [(Dl, .lst acc)]⟩ Dl (.lst (acc ++ [d]))) = ⟨gt, M' ++ [(Dl, .lst (acc ++ [d]))]⟩ := by
      have nd : ((M' ++ [(Dl, MO.lst acc)]).map (·.1)).Nodup := r4.rm.nd
      rw [List.map_append] at nd
      have hn : Dl ∉ M'.map (·.1) := fun q => (List.nodup_append.mp nd).2.2 Dl q Dl (by simp) rfl
      unfold DS.setm setM
      rw [List.map_append]
      have e0 : M'.map (fun p => if p.1 = Dl then (Dl, MO.lst (acc ++ [d])) else p) = M' := by
        refine (List.map_congr_left (fun p hp => ?_)).trans (List.map_id _)
        show (if p.1 = Dl then (Dl, MO.lst (acc ++ [d])) else p) = p
        rw [if_neg fun e => hn (List.mem_map.mpr ⟨p, hp, e⟩)]
      simp [e0]
    rw [em] at r5 x5
    refine hN _ (relM_g r5.rm) ?_
    exact (x3.trans x4).trans x5
theorem lc_core2W {elt : Expr} {scope : Scope} {own : List (Str × Nat)} {g : TG} {tt : TT} {ds : List PyData} {gT : PyData → List DV} {Ms : Nat → List (Addr × MO)} {c : Nat → Bool} {y : Nat → PyData} {σ : List (Option V)} {H1 : Hp} {S1 : DS} {Q : VK}
    (hz : ds.length ≤ 1000000) (r1 : Rel b S1 σ H1) (h0 : Ms 0 = S1.m) (hM : ∀ i, (Ms i).map (·.1) = S1.m.map (·.1))
    (hg : ∀ (i : Nat) d, ds[i]? = some d → TGb b (own.map (·.2)) d (gWipe S1.g (own.map (·.2))) (gT d) g)
    (ht : ∀ (i : Nat) d, ds[i]? = some d → ∀ Dl acc σ2 H, Rel b ⟨gT d, Ms i ++ [(Dl, .lst acc)]⟩ σ2 H → ∀ Q : Bool → Hp → Prop, (∀ H', Rel b ⟨gT d, Ms i ++ [(Dl, .lst acc)]⟩ σ2 H' → Ex (hide (Hd b ⟨gT d, Ms i ++ [(Dl, .lst acc)]⟩) H) (hide (Hd b ⟨gT d, Ms i ++ [(Dl, .lst acc)]⟩) H') → Q (c i) H') → tt σ2 H Q)
    (he : ∀ (i : Nat) d, ds[i]? = some d → c i = true → ∀ Dl acc, EVb X b scope elt ⟨gT d, Ms i ++ [(Dl, .lst acc)]⟩ (.d (y i)) ⟨gT d, Ms (i + 1) ++ [(Dl, .lst acc)]⟩) (hno : ∀ (i : Nat) d, ds[i]? = some d → c i = false → Ms (i + 1) = Ms i)
    (q : ∀ v H', VOk b.K (Hd b ⟨S1.g, Ms ds.length⟩) H' v (.d (.list (outs c y ds.length))) → Rel b ⟨S1.g, Ms ds.length⟩ σ H' → Ex (hide (Hd b S1) H1) (hide (Hd b ⟨S1.g, Ms ds.length⟩) H') → Q v H')
    (D : Addr) (hD : H1 D = none) : (∃ Pv : Nat → Hp → Prop, Pv 0 (upd H1 D (.lst [])) ∧ (∀ i H, Pv i H → Ex (hide (Hd b S1) H1) (hide (Hd b S1 ++ [D]) H)) ∧ (∀ i H H', Pv i H → Ex H H' → Pv i H') ∧ (∀ i H, Pv i H → ∀ q ∈ Hd b S1 ++ [D], H q ≠ none) ∧ (∀ (i : Nat) (d : PyData) (x : V) (H : Hp), ds[i]? = some d → Dp b.K (hide (Hd b S1 ++ [D]) H) x d → Pv i H →
      g x (wipe σ (own.map (·.2))) H fun σ2 H2 => wipe σ2 (own.map (·.2)) = wipe σ (own.map (·.2)) ∧ tt σ2 H2 fun k H3 => if k = true then wEb X scope elt σ2 H3 fun y H4 => ∃ acc, H4 D = some (.lst acc) ∧ acc.length < sizeLine ∧ Pv (i + 1) (upd H4 D (.lst (acc ++ [y]))) else Pv (i + 1) H3) ∧ (∀ H, Pv ds.length H → Q (.ref D) H)) := by
  have nD : D ∉ Hd b S1 := r1.rm.fresh hD
  have hdM : ∀ (i : Nat) (gg : List DV) (o : MO) q, q ∈ Hd b ⟨gg, Ms i ++ [(D, o)]⟩ ↔ (q ∈ Hd b S1 ∨ q = D) := fun i gg o q => by
    unfold Hd DS.as
    simp only [List.map_append, hM i, List.mem_append, List.map_cons, List.map_nil, List.mem_singleton]
    constructor
    · rintro (h | h | h)
      · exact .inl (.inl h)
      · exact .inl (.inr h)
      · exact .inr h
    · rintro ((h | h) | h)
      · exact .inl h
      · exact .inr (.inl h)
      · exact .inr (.inr h)
  have hideE : ∀ (i : Nat) (gg : List DV) (o : MO) (H : Hp), hide (Hd b ⟨gg, Ms i ++ [(D, o)]⟩) H = hide (Hd b S1 ++ [D]) H := fun i gg o H => funext fun q => by
    by_cases hq : q ∈ Hd b S1 ++ [D]
    · rw [hide_in hq, hide_in ((hdM i gg o q).mpr (by simpa using hq))]
    · rw [hide_out hq, hide_out fun h => hq (by simpa using (hdM i gg o q).mp h)]
  have rw0 : Rel b ⟨gWipe S1.g (own.map (·.2)), S1.m⟩ (wipe σ (own.map (·.2))) H1 := rel_wipe (g := S1.g) (m := S1.m) r1
  have hh0 : ∀ gg : List DV, Hd b ⟨gg, S1.m⟩ = Hd b S1 := fun _ => rfl
  refine ⟨fun i H => RelM b ⟨S1.g, Ms i ++ [(D, .lst (outs c y i))]⟩ H ∧ Ex (hide (Hd b S1) H1) (hide (Hd b ⟨S1.g, Ms i ++ [(D, .lst (outs c y i))]⟩) H), ⟨?_, ?_⟩, fun i H h => by rw [← hideE i S1.g (.lst (outs c y i)) H]; exact h.2, fun i H H' h e => ⟨(h.1.grow e).1, h.2.trans (h.1.grow e).2⟩, fun i H h q hq => h.1.tracked q ((hdM i S1.g _ q).mpr (by simpa using hq)), fun i d x H hd1 hd2 h => ?_, fun H h => ?_⟩
  · rw [h0]
    have := (r1.addM (a := D) (o := .lst []) (H' := upd H1 D (.lst [])) hD (Ex.new hD) ⟨[], upd_same, .nil⟩).1.rm
    exact this
  · rw [h0]
    exact (r1.addM (a := D) (o := .lst []) (H' := upd H1 D (.lst [])) hD (Ex.new hD) ⟨[], upd_same, .nil⟩).2
  · obtain ⟨rm, x1⟩ := h
    have hi : i < ds.length := (List.getElem?_eq_some_iff.mp hd1).1
    have rw1 : Rel b ⟨gWipe S1.g (own.map (·.2)), Ms i ++ [(D, .lst (outs c y i))]⟩ (wipe σ (own.map (·.2))) H :=
      rel_later rw0 x1 (fun q hq => (hdM _ _ _ q).mpr (.inl hq)) (relM_g rm)
    refine hg i d hd1 x _ H _ (by show Dp _ _ _ _; rw [hideE]; exact hd2) rw1 _ fun σ2 r2 e2 => ?_
    refine ⟨by rw [e2]; exact wipe_wipe σ _ _ fun _ h => h, ?_⟩
    refine lc_stepW (g0 := S1.g) (M := Ms i) (M' := Ms (i + 1)) (acc := outs c y i) (c := c i) (d := y i) (by rw [hM, hM]) r2 (by have := outs_le c y i; omega) (fun Q hQ => ht i d hd1 D _ σ2 H r2 Q hQ) (fun hc => he i d hd1 hc D _) (hno i d hd1) fun H' rm' x' => ?_
    have eo : outs c y (i + 1) = if c i then outs c y i ++ [y i] else outs c y i := rfl
    rw [← eo] at rm' x'
    refine ⟨rm', x1.trans ?_⟩
    exact x'
  · obtain ⟨rm, x1⟩ := h
    have r3 : Rel b ⟨S1.g, Ms ds.length ++ [(D, .lst (outs c y ds.length))]⟩ σ H := rel_later (m := S1.m) r1 x1 (fun q hq => (hdM _ _ _ q).mpr (.inl hq)) rm
    have hfx : D ∉ b.fx := fun h => nD (List.mem_append.mpr (.inr (r1.rm.fxs D h)))
    have hin : (D, MO.lst (outs c y ds.length)) ∈ (⟨S1.g, Ms ds.length ++ [(D, .lst (outs c y ds.length))]⟩ : DS).m := List.mem_append.mpr (.inr (by simp))
    obtain ⟨r4, x4⟩ := r3.frzL hin hfx
    have em : (Ms ds.length ++ [(D, MO.lst (outs c y ds.length))]).filter (fun p => decide (p.1 ≠ D)) = Ms ds.length := by
      have nd : ((Ms ds.length ++ [(D, MO.lst (outs c y ds.length))]).map (·.1)).Nodup := r3.rm.nd
      rw [List.map_append] at nd
      have hn : D ∉ (Ms ds.length).map (·.1) := fun q => (List.nodup_append.mp nd).2.2 D q D (by simp) rfl
      rw [List.filter_append]
      have e1 : (Ms ds.length).filter (fun p => decide (p.1 ≠ D)) = Ms ds.length := List.filter_eq_self.mpr fun p hp => decide_eq_true fun e => hn (List.mem_map.mpr ⟨p, hp, e⟩)
      rw [e1]
      simp
    have hd4 : ∀ gg : List DV, Hd b ⟨gg, (Ms ds.length ++ [(D, MO.lst (outs c y ds.length))]).filter (fun p => decide (p.1 ≠ D))⟩ = Hd b ⟨S1.g, Ms ds.length⟩ := fun gg => by rw [em]; rfl
    have x5 : Ex (hide (Hd b S1) H1) (hide (Hd b ⟨S1.g, Ms ds.length⟩) H) := by
      rw [← hd4 (DS.frz ⟨S1.g, Ms ds.length ++ [(D, .lst (outs c y ds.length))]⟩ D (.list (outs c y ds.length))).g]
      exact x1.trans x4
    have hd5 : Hd b ⟨S1.g, Ms ds.length⟩ = Hd b S1 := by unfold Hd DS.as; rw [hM]
    have rm5 : RelM b ⟨S1.g, Ms ds.length⟩ H := by
      have := r4.rm
      unfold DS.frz at this
      rw [em] at this
      exact relM_g this
    refine q _ H ?_ (rel_later (m := S1.m) r1 x5 (fun q hq => by rw [hd5]; exact hq) rm5) x5
    obtain ⟨us, e1, e2⟩ := r3.rm.mem _ hin
    have nD5 : D ∉ Hd b ⟨S1.g, Ms ds.length⟩ := by rw [hd5]; exact nD
    refine .lst (.inl (.inl (by rw [hide_out nD5]; exact e1))) (DpAll.ex (fun q u e => ?_) e2)
    obtain ⟨q1, q2⟩ := hide_some e
    rw [hide_out fun z => q2 ((hdM _ _ _ q).mpr (.inl (by rw [hd5] at z; exact z)))]
    exact q1
theorem lcG_runW {σ : List (Option V)} {H : Hp} {Q : VK} {elt tg iter : Expr} {ifs : List Expr} {scope : Scope} {own : List (Str × Nat)} {g : TG} {tt : TT} {ds : List PyData} {gT : PyData → List DV} {Ms : Nat → List (Addr × MO)} {c : Nat → Bool} {y : Nat → PyData}
    (hc : X.calm = true) (hN : X.N.Nodup) (hi : EI X b tg iter S ds S1) (hz : ds.length ≤ 1000000) (hB : BlkOk X.N X.env.scope scope own) (h0 : Ms 0 = S1.m) (hM : ∀ i, (Ms i).map (·.1) = S1.m.map (·.1))
    (hpg : ∀ (s : Shared) (H : Hp) (C : Addr) (cl : List (Str × Addr)) (fp : List Addr), PG (X.blk s H scope (compEnvC scope cl C X.env) fp) tg g)
    (hpt : ∀ (s : Shared) (H : Hp) (C : Addr) (cl : List (Str × Addr)) (fp : List Addr), PTs (X.blk s H scope (compEnvC scope cl C X.env) fp) ifs tt)
    (hg : ∀ (i : Nat) d, ds[i]? = some d → TGb b (own.map (·.2)) d (gWipe S1.g (own.map (·.2))) (gT d) g)
    (ht : ∀ (i : Nat) d, ds[i]? = some d → ∀ Dl acc, TTok b tt ⟨gT d, Ms i ++ [(Dl, .lst acc)]⟩ (c i))
    (he : ∀ (i : Nat) d, ds[i]? = some d → c i = true → ∀ Dl acc, EVb X b scope elt ⟨gT d, Ms i ++ [(Dl, .lst acc)]⟩ (.d (y i)) ⟨gT d, Ms (i + 1) ++ [(Dl, .lst acc)]⟩) (hno : ∀ (i : Nat) d, ds[i]? = some d → c i = false → Ms (i + 1) = Ms i)
    (r : Rel b S σ H) {z : PyData} (ez : z = .list (outs c y ds.length)) (eS : S' = ⟨S1.g, Ms ds.length⟩)
    (q : ∀ v H', VOk b.K (Hd b S') H' v (.d z) → Rel b S' σ H' → Ex (hide (Hd b S) H) (hide (Hd b S') H') → (∀ a ∈ Hd b S, a ∈ Hd b S') → Q v H') : tLc (wI X tg iter) g tt (wEb X scope elt) (own.map (·.2)) σ H Q := by
  subst ez
  subst eS
  refine hi σ H r _ fun J H1 js r1 x1 a1 => ?_
  intro D hD
  obtain ⟨Pv, p0, pe, pg, pt, ps, pd⟩ := lc_core2W (own := own) (Q := Q) (X := X) (elt := elt) (scope := scope) (tt := tt) hz r1 h0 hM hg (fun i d hd Dl acc σ2 H r Q q => ht i d hd Dl acc σ2 H r Q q) he hno (fun v H' k' r' x' => q v H' k' r' (x1.trans x') fun c hc => by
    have : Hd b ⟨S1.g, Ms ds.length⟩ = Hd b S1 := by unfold Hd DS.as; rw [hM]
    rw [this]; exact a1 c hc) D hD
  refine ⟨fun i m H => m = ds.length - i ∧ i ≤ ds.length ∧ Pv i H, ⟨_, rfl, Nat.zero_le _, p0⟩, ?_⟩
  rintro i m H2 ⟨rfl, hle, p⟩
  obtain ⟨jy, jst⟩ := js i (Hd b S1 ++ [D]) H2 (pe i H2 p) (pt i H2 p)
  by_cases hlt : i < ds.length
  · obtain ⟨d, hd1⟩ : ∃ d, ds[i]? = some d := ⟨_, List.getElem?_eq_getElem hlt⟩
    obtain ⟨jgo, jyl⟩ := jy d hd1
    refine .inr ⟨jgo, Pv (i + 1), fun H' p' => ⟨ds.length - (i + 1), by omega, rfl, hlt, p'⟩, fun x H' yy => ?_⟩
    obtain ⟨eg, hd3⟩ := jyl x H' yy
    exact ps i d x H' hd1 hd3 (pg i H2 H' p eg)
  · have ei : i = ds.length := by omega
    subst ei
    exact .inl ⟨jst (Nat.le_refl _), pd H2 p⟩
theorem ev_lcGW {elt tg iter : Expr} {ifs : List Expr} {scope : Scope} {own : List (Str × Nat)} {g : TG} {tt : TT} {ds : List PyData} {gT : PyData → List DV} {Ms : Nat → List (Addr × MO)} {c : Nat → Bool} {y : Nat → PyData}
    (hc : X.calm = true) (hN : X.N.Nodup) (hi : EI X b tg iter S ds S1) (hz : ds.length ≤ 1000000) (hB : BlkOk X.N X.env.scope scope own) (h0 : Ms 0 = S1.m) (hM : ∀ i, (Ms i).map (·.1) = S1.m.map (·.1))
    (hpg : ∀ (s : Shared) (H : Hp) (C : Addr) (cl : List (Str × Addr)) (fp : List Addr), PG (X.blk s H scope (compEnvC scope cl C X.env) fp) tg g)
    (hpt : ∀ (s : Shared) (H : Hp) (C : Addr) (cl : List (Str × Addr)) (fp : List Addr), PTs (X.blk s H scope (compEnvC scope cl C X.env) fp) ifs tt)
    (hg : ∀ (i : Nat) d, ds[i]? = some d → TGb b (own.map (·.2)) d (gWipe S1.g (own.map (·.2))) (gT d) g)
    (ht : ∀ (i : Nat) d, ds[i]? = some d → ∀ Dl acc, TTok b tt ⟨gT d, Ms i ++ [(Dl, .lst acc)]⟩ (c i))
    (he : ∀ (i : Nat) d, ds[i]? = some d → c i = true → ∀ Dl acc, EVb X b scope elt ⟨gT d, Ms i ++ [(Dl, .lst acc)]⟩ (.d (y i)) ⟨gT d, Ms (i + 1) ++ [(Dl, .lst acc)]⟩) (hno : ∀ (i : Nat) d, ds[i]? = some d → c i = false → Ms (i + 1) = Ms i)
    (hf : ∀ x : Value, foldedSetIterable iter X.env x = pure x := by intro _; rfl)
    {z : PyData} (ez : z = .list (outs c y ds.length)) (eS : S' = ⟨S1.g, Ms ds.length⟩) : EV X b (.ListComp elt [⟨tg, iter, ifs, 0⟩] scope pos) S (.d z) S' := fun σ H r Q q =>
  wE_of (pe_lc hc hN (piW tg iter) hB hpg hpt (peWb scope elt) hf) (lcG_runW hc hN hi hz hB h0 hM hpg hpt hg ht he hno r ez eS q)
theorem ev_lcG0W {elt tg iter : Expr} {scope : Scope} (own : List (Str × Nat)) {g : TG} {ds : List PyData} (gT : PyData → List DV) (q : PyData → PyData)
    (hc : X.calm = true) (hN : X.N.Nodup) (hi : EI X b tg iter S ds S1) (hz : ds.length ≤ 1000000) (hB : BlkOk X.N X.env.scope scope own)
    (hpg : ∀ (s : Shared) (H : Hp) (C : Addr) (cl : List (Str × Addr)) (fp : List Addr), PG (X.blk s H scope (compEnvC scope cl C X.env) fp) tg g)
    (hg : ∀ (i : Nat) d, ds[i]? = some d → TGb b (own.map (·.2)) d (gWipe S1.g (own.map (·.2))) (gT d) g)
    (he : ∀ (i : Nat) d, ds[i]? = some d → ∀ Dl acc, EVb X b scope elt ⟨gT d, S1.m ++ [(Dl, .lst acc)]⟩ (.d (q d)) ⟨gT d, S1.m ++ [(Dl, .lst acc)]⟩)
    {z : PyData} (ez : z = .list (ds.map q))
    (hf : ∀ x : Value, foldedSetIterable iter X.env x = pure x := by intro _; rfl) : EV X b (.ListComp elt [⟨tg, iter, [], 0⟩] scope pos) S (.d z) S1 := by
  refine ev_lcGW (tt := tYes) (own := own) (gT := gT) (Ms := fun _ => S1.m) (c := fun _ => true) (y := fun i => match ds[i]? with | some d => q d | none => .none) hc hN hi hz hB rfl (fun _ => rfl) hpg (fun _ _ _ _ _ => pts_nil) hg (fun i d hd Dl acc => ttok_yes) (fun i d hd _ Dl acc => by rw [show (match ds[i]? with | some d => q d | none => .none) = q d by rw [hd]]; exact he i d hd Dl acc) (fun _ _ _ _ => rfl) hf (by rw [ez]; have := outs_picked (ds := ds) (f := fun _ => true) (g := q) (c := fun _ => true) (y := fun i => match ds[i]? with | some d => q d | none => .none) (fun i d hd => ⟨rfl, by simp only [hd]⟩); rw [this, List.filter_eq_self.mpr (fun _ _ => rfl)]) rfl
theorem lc2G_runW {σ : List (Option V)} {H : Hp} {Q : VK} {elt tg iter tg1 iter1 : Expr} {scope : Scope} (own : List (Str × Nat)) (vs1 : List Nat) {g g1 : TG} {ds : List PyData} (es : PyData → List PyData) (gA : PyData → List DV) (gB : PyData → PyData → List DV) (y : PyData → PyData → PyData)
    (hc : X.calm = true) (hN : X.N.Nodup) (hi : EI X b tg iter S ds S1) (hz : (ds.flatMap fun d => (es d).map (y d)).length ≤ 900000) (hB : BlkOk X.N X.env.scope scope own) (hv : ∀ i ∈ vs1, i ∈ own.map (·.2))
    (hpg : ∀ (s : Shared) (H : Hp) (C : Addr) (cl : List (Str × Addr)) (fp : List Addr), PG (X.blk s H scope (compEnvC scope cl C X.env) fp) tg g)
    (hpg1 : ∀ (s : Shared) (H : Hp) (C : Addr) (cl : List (Str × Addr)) (fp : List Addr), PG (X.blk s H scope (compEnvC scope cl C X.env) fp) tg1 g1)
    (hg : ∀ (i : Nat) d, ds[i]? = some d → TGb b (own.map (·.2)) d (gWipe S1.g (own.map (·.2))) (gA d) g)
    (hi1 : ∀ (i : Nat) d, ds[i]? = some d → ∀ Dl acc, EIb X b scope tg1 iter1 ⟨gA d, S1.m ++ [(Dl, .lst acc)]⟩ (es d) ⟨gA d, S1.m ++ [(Dl, .lst acc)]⟩)
    (hg1 : ∀ (i : Nat) d, ds[i]? = some d → ∀ (j : Nat) e, (es d)[j]? = some e → TGb b vs1 e (gWipe (gA d) vs1) (gB d e) g1)
    (he : ∀ (i : Nat) d, ds[i]? = some d → ∀ (j : Nat) e, (es d)[j]? = some e → ∀ Dl acc, EVb X b scope elt ⟨gB d e, S1.m ++ [(Dl, .lst acc)]⟩ (.d (y d e)) ⟨gB d e, S1.m ++ [(Dl, .lst acc)]⟩)
    (r : Rel b S σ H) {z : PyData} (ez : z = .list (ds.flatMap fun d => (es d).map (y d)))
    (q : ∀ v H', VOk b.K (Hd b S1) H' v (.d z) → Rel b S1 σ H' → Ex (hide (Hd b S) H) (hide (Hd b S1) H') → (∀ a ∈ Hd b S, a ∈ Hd b S1) → Q v H') : tLc2 (wI X tg iter) g tYes (wIb X scope tg1 iter1) g1 tYes (wEb X scope elt) (own.map (·.2)) vs1 σ H Q := by
  subst ez
  refine hi σ H r _ fun J H1 js r1 x1 a1 => ?_
  intro D hD
  have nD : D ∉ Hd b S1 := r1.rm.fresh hD
  have hh : ∀ (gg : List DV) (acc : List PyData), Hd b ⟨gg, S1.m ++ [(D, MO.lst acc)]⟩ = Hd b ⟨S1.g, S1.m ++ [(D, MO.lst [])]⟩ := fun gg acc => hd_acc _ _ _ _ _ _
  generalize hHD : Hd b ⟨S1.g, S1.m ++ [(D, MO.lst [])]⟩ = HD at hh
  have hdM : ∀ q, q ∈ HD ↔ (q ∈ Hd b S1 ∨ q = D) := fun q => by
    rw [← hHD]
    unfold Hd DS.as
    simp only [List.map_append, List.mem_append, List.map_cons, List.map_nil, List.mem_singleton]
    constructor
    · rintro (h | h | h)
      · exact .inl (.inl h)
      · exact .inl (.inr h)
      · exact .inr h
    · rintro ((h | h) | h)
      · exact .inl h
      · exact .inr (.inl h)
      · exact .inr (.inr h)
  have rw0 : Rel b ⟨gWipe S1.g (own.map (·.2)), S1.m⟩ (wipe σ (own.map (·.2))) H1 := rel_wipe (g := S1.g) (m := S1.m) r1
  have trk : ∀ {gg : List DV} {acc : List PyData} {H : Hp}, RelM b ⟨gg, S1.m ++ [(D, .lst acc)]⟩ H → ∀ a ∈ HD, H a ≠ none := fun {gg acc H} rm a ha => rm.tracked a (by rw [hh]; exact ha)
  have tot : ∀ i j d, ds[i]? = some d → j < (es d).length → ((ds.take i).flatMap (fun d => (es d).map (y d)) ++ ((es d).take j).map (y d)).length < 1000000 := fun i j d hd hj => by
    have hi : i < ds.length := (List.getElem?_eq_some_iff.mp hd).1
    have e1 : ds.flatMap (fun d => (es d).map (y d)) = (ds.take (i + 1)).flatMap (fun d => (es d).map (y d)) ++ (ds.drop (i + 1)).flatMap (fun d => (es d).map (y d)) := by rw [← List.flatMap_append, List.take_append_drop]
    rw [e1, flat_succ hd] at hz
    simp only [List.length_append, List.length_map] at hz ⊢
    have : ((es d).take j).length ≤ (es d).length := by rw [List.length_take]; omega
    omega
  refine ⟨fun i m H => m = ds.length - i ∧ i ≤ ds.length ∧ RelM b ⟨S1.g, S1.m ++ [(D, .lst ((ds.take i).flatMap fun d => (es d).map (y d)))]⟩ H ∧ Ex (hide (Hd b S1) H1) (hide HD H), ⟨_, rfl, Nat.zero_le _, ?_, ?_⟩, ?_⟩
  · exact (r1.addM (a := D) (o := .lst []) (H' := upd H1 D (.lst [])) hD (Ex.new hD) ⟨[], upd_same, .nil⟩).1.rm
  · have := (r1.addM (a := D) (o := .lst []) (H' := upd H1 D (.lst [])) hD (Ex.new hD) ⟨[], upd_same, .nil⟩).2
    rw [← hHD]
    exact this
  · rintro i m H2 ⟨rfl, hle, rm, xx⟩
    obtain ⟨jy, jst⟩ := js i HD H2 xx (trk rm)
    by_cases hlt : i < ds.length
    · obtain ⟨d, hd1⟩ : ∃ d, ds[i]? = some d := ⟨_, List.getElem?_eq_getElem hlt⟩
      obtain ⟨jgo, jyl⟩ := jy d hd1
      refine .inr ⟨jgo, fun H' => RelM b ⟨S1.g, S1.m ++ [(D, .lst ((ds.take (i + 1)).flatMap fun d => (es d).map (y d)))]⟩ H' ∧ Ex (hide (Hd b S1) H1) (hide HD H'), fun H' p => ⟨ds.length - (i + 1), by omega, rfl, hlt, p⟩, fun x H' yy => ?_⟩
      obtain ⟨eg, hd3⟩ := jyl x H' yy
      obtain ⟨rm', xg⟩ := rm.grow eg
      rw [hh] at xg
      have xx' := xx.trans xg
      have rw1 : Rel b ⟨gWipe S1.g (own.map (·.2)), S1.m ++ [(D, .lst ((ds.take i).flatMap fun d => (es d).map (y d)))]⟩ (wipe σ (own.map (·.2))) H' :=
        rel_later rw0 (by rw [hh]; exact xx') (fun q hq => by rw [hh]; exact (hdM q).mpr (.inl hq)) (relM_g rm')
      refine hg i d hd1 x _ H' _ (by show Dp _ _ _ _; rw [hh]; exact hd3) rw1 _ fun σ2 r2 e2 => ?_
      refine ⟨by rw [e2]; exact wipe_wipe σ _ _ fun _ h => h, ?_⟩
      refine tyes_run (A := fun H3 => wIb X scope tg1 iter1 σ2 H3 _) ?_
      intro s0 H0 C cl fp
      refine hi1 i d hd1 D _ s0 H0 C cl fp σ2 H' r2 _ fun J4 H4 js4 r4 x4 a4 => ?_
      rw [hh] at js4 x4
      refine ⟨fun j m H => m = (es d).length - j ∧ j ≤ (es d).length ∧ RelM b ⟨S1.g, S1.m ++ [(D, .lst ((ds.take i).flatMap (fun d => (es d).map (y d)) ++ ((es d).take j).map (y d)))]⟩ H ∧ Ex (hide HD H4) (hide HD H), ⟨_, rfl, Nat.zero_le _, ?_, Ex.refl _⟩, ?_⟩
      · rw [List.take_zero, List.map_nil, List.append_nil]
        exact relM_g r4.rm
      · rintro j k H5 ⟨rfl, hle5, rm5, xx5⟩
        obtain ⟨jy5, jst5⟩ := js4 j HD H5 xx5 (trk rm5)
        by_cases hlt5 : j < (es d).length
        · obtain ⟨e, he1⟩ : ∃ e, (es d)[j]? = some e := ⟨_, List.getElem?_eq_getElem hlt5⟩
          obtain ⟨jgo5, jyl5⟩ := jy5 e he1
          refine .inr ⟨jgo5, fun H' => RelM b ⟨S1.g, S1.m ++ [(D, .lst ((ds.take i).flatMap (fun d => (es d).map (y d)) ++ ((es d).take (j + 1)).map (y d)))]⟩ H' ∧ Ex (hide HD H4) (hide HD H'), fun H' p => ⟨(es d).length - (j + 1), by omega, rfl, hlt5, p⟩, fun x5 H6 yy5 => ?_⟩
          obtain ⟨eg5, he3⟩ := jyl5 x5 H6 yy5
          obtain ⟨rm6, xg6⟩ := rm5.grow eg5
          rw [hh] at xg6
          have xx6 := xx5.trans xg6
          have rw5 : Rel b ⟨gWipe (gA d) vs1, S1.m ++ [(D, .lst ((ds.take i).flatMap (fun d => (es d).map (y d)) ++ ((es d).take j).map (y d)))]⟩ (wipe σ2 vs1) H6 :=
            rel_later (rel_wipe (g := gA d) r4) (by rw [hh, hh]; exact xx6) (fun q hq => by rw [hh] at hq ⊢; exact hq) (relM_g rm6)
          refine hg1 i d hd1 j e he1 x5 _ H6 _ (by show Dp _ _ _ _; rw [hh]; exact he3) rw5 _ fun σ3 r6 e6 => ?_
          refine ⟨by rw [e6]; exact wipe_wipe σ2 _ _ fun _ h => h, ?_⟩
          refine lc_stepW (tt := tYes) (g0 := S1.g) (M := S1.m) (M' := S1.m) (acc := (ds.take i).flatMap (fun d => (es d).map (y d)) ++ ((es d).take j).map (y d)) (c := true) (d := y d e) rfl r6 (tot i j d hd1 hlt5) (fun Q hQ => hQ H6 r6 (Ex.refl _)) (fun _ => he i d hd1 j e he1 D _) (fun h => nomatch h) fun H' rm' x' => ?_
          rw [hh, hh] at x'
          rw [if_pos rfl, List.append_assoc, ← map_succ he1] at rm'
          exact ⟨rm', xx6.trans x'⟩
        · have ej : j = (es d).length := by omega
          subst ej
          refine .inl ⟨jst5 (Nat.le_refl _), ?_, (xx'.trans x4).trans xx5⟩
          rw [flat_succ hd1]
          rw [List.take_length] at rm5
          exact rm5
    · have ei : i = ds.length := by omega
      subst ei
      refine .inl ⟨jst (Nat.le_refl _), ?_⟩
      rw [List.take_length] at rm
      generalize (ds.flatMap fun d => (es d).map (y d)) = out at rm q
      have r3 : Rel b ⟨S1.g, S1.m ++ [(D, .lst out)]⟩ σ H2 := rel_later (m := S1.m) r1 (by rw [hh]; exact xx) (fun q hq => by rw [hh]; exact (hdM q).mpr (.inl hq)) rm
      have hfx : D ∉ b.fx := fun h => nD (List.mem_append.mpr (.inr (r1.rm.fxs D h)))
      have hin : (D, MO.lst out) ∈ (⟨S1.g, S1.m ++ [(D, .lst out)]⟩ : DS).m := List.mem_append.mpr (.inr (by simp))
      obtain ⟨r4, x4⟩ := r3.frzL hin hfx
      have em : (S1.m ++ [(D, MO.lst out)]).filter (fun p => decide (p.1 ≠ D)) = S1.m := by
        have nd : ((S1.m ++ [(D, MO.lst out)]).map (·.1)).Nodup := r3.rm.nd
        rw [List.map_append] at nd
        have hn : D ∉ S1.m.map (·.1) := fun q => (List.nodup_append.mp nd).2.2 D q D (by simp) rfl
        rw [List.filter_append]
        have e1 : S1.m.filter (fun p => decide (p.1 ≠ D)) = S1.m := List.filter_eq_self.mpr fun p hp => decide_eq_true fun e => hn (List.mem_map.mpr ⟨p, hp, e⟩)
        rw [e1]
        simp
      have hd4 : ∀ gg : List DV, Hd b ⟨gg, (S1.m ++ [(D, MO.lst out)]).filter (fun p => decide (p.1 ≠ D))⟩ = Hd b S1 := fun gg => by rw [em]; rfl
      have x5 : Ex (hide (Hd b S1) H1) (hide (Hd b S1) H2) := by
        rw [hh] at x4
        have x4' := xx.trans x4
        unfold DS.frz at x4'
        rw [hd4] at x4'
        exact x4'
      have rm5 : RelM b S1 H2 := by
        have := r4.rm
        unfold DS.frz at this
        rw [em] at this
        exact relM_g this
      refine q _ H2 ?_ (rel_later (m := S1.m) r1 x5 (fun q hq => hq) rm5) (x1.trans x5) a1
      obtain ⟨us, e1, e2⟩ := r3.rm.mem _ hin
      refine .lst (.inl (.inl (by rw [hide_out nD]; exact e1))) (DpAll.ex (fun q u e => ?_) e2)
      obtain ⟨q1, q2⟩ := hide_some e
      rw [hide_out fun z => q2 (by rw [hh]; exact (hdM q).mpr (.inl z))]
      exact q1
theorem ev_lc2GW {elt tg iter tg1 iter1 : Expr} {scope : Scope} (own : List (Str × Nat)) (vs1 : List Nat) {g g1 : TG} {ds : List PyData} (es : PyData → List PyData) (gA : PyData → List DV) (gB : PyData → PyData → List DV) (y : PyData → PyData → PyData)
    (hc : X.calm = true) (hN : X.N.Nodup) (hi : EI X b tg iter S ds S1) (hz : (ds.flatMap fun d => (es d).map (y d)).length ≤ 900000) (hB : BlkOk X.N X.env.scope scope own) (hv : ∀ i ∈ vs1, i ∈ own.map (·.2))
    (hpg : ∀ (s : Shared) (H : Hp) (C : Addr) (cl : List (Str × Addr)) (fp : List Addr), PG (X.blk s H scope (compEnvC scope cl C X.env) fp) tg g)
    (hpg1 : ∀ (s : Shared) (H : Hp) (C : Addr) (cl : List (Str × Addr)) (fp : List Addr), PG (X.blk s H scope (compEnvC scope cl C X.env) fp) tg1 g1)
    (hg : ∀ (i : Nat) d, ds[i]? = some d → TGb b (own.map (·.2)) d (gWipe S1.g (own.map (·.2))) (gA d) g)
    (hi1 : ∀ (i : Nat) d, ds[i]? = some d → ∀ Dl acc, EIb X b scope tg1 iter1 ⟨gA d, S1.m ++ [(Dl, .lst acc)]⟩ (es d) ⟨gA d, S1.m ++ [(Dl, .lst acc)]⟩)
    (hg1 : ∀ (i : Nat) d, ds[i]? = some d → ∀ (j : Nat) e, (es d)[j]? = some e → TGb b vs1 e (gWipe (gA d) vs1) (gB d e) g1)
    (he : ∀ (i : Nat) d, ds[i]? = some d → ∀ (j : Nat) e, (es d)[j]? = some e → ∀ Dl acc, EVb X b scope elt ⟨gB d e, S1.m ++ [(Dl, .lst acc)]⟩ (.d (y d e)) ⟨gB d e, S1.m ++ [(Dl, .lst acc)]⟩)
    {z : PyData} (ez : z = .list (ds.flatMap fun d => (es d).map (y d)))
    (hf : ∀ x : Value, foldedSetIterable iter X.env x = pure x := by intro _; rfl) (hf1 : ∀ (env : Env) (x : Value), foldedSetIterable iter1 env x = pure x := by intro _ _; rfl) : EV X b (.ListComp elt [⟨tg, iter, [], 0⟩, ⟨tg1, iter1, [], 0⟩] scope pos) S (.d z) S1 := by
  intro σ H r Q q
  exact wE_of (pe_lc2 (wi1 := wIb X scope tg1 iter1) hc hN (piW tg iter) hB hv hpg (fun _ _ _ _ _ => pts_nil) (fun s H0 C cl fp => piWb (X := X) scope tg1 iter1 s H0 C cl fp) hpg1 (fun _ _ _ _ _ => pts_nil) (peWb scope elt) hf hf1) (lc2G_runW own vs1 es gA gB y hc hN hi hz hB hv hpg hpg1 hg hi1 hg1 he r ez q)
end
end DX
end
section
set_option Elab.async false
set_option linter.all false
set_option maxRecDepth 100000
set_option maxHeartbeats 4000000
set_option exponentiation.threshold 300000
namespace KC
open PySem PySem.Spec PyProof.Rows L2 DX
set_option autoImplicit false
/-! shapes, roads, trees -/
def intsOf : PyData → List Int
  | .tuple xs => xs.map i0
  | _ => []
theorem intsOf_ints (ns : List Int) : intsOf (intsD ns) = ns := map_i0 ns
def fitD (d e : PyData) : Bool := fitB (intsOf d) (intsOf e)
def isShape (n : Int) (xs : List PyData) : Bool := (xs.map (isLot n)).all id && (risesD xs && ((xs.flatMap fun d => xs.map fun e => fitD d e).all id))
def r_shape (ds : List PyData) (d : PyData) : Prop := ∃ (n : Int) (xs : List PyData), ds = [.int n, .tuple xs] ∧ n ≤ 900 ∧ xs.length ≤ 900 ∧ d = .bool (isShape n xs)
def fst0 : PyData → PyData
  | .tuple (x :: _) => x
  | _ => .none
def snd0 : PyData → PyData
  | .tuple [_, y] => y
  | _ => .none
def roadOk (d : PyData) : Bool := isPair d && isLength (snd0 d)
def isRoads (n : Int) : PyData → Bool
  | .tuple xs => (xs.map roadOk).all id && isShape n (xs.map fst0)
  | _ => false
def r_roads (ds : List PyData) (d : PyData) : Prop := ∃ (n : Int) (x : PyData), ds = [.int n, x] ∧ n ≤ 900 ∧ (∀ xs, x = .tuple xs → xs.length ≤ 900) ∧ d = .bool (isRoads n x)
def isTree : PyData → Bool
  | .tuple [m, r] => isMany m && isRoads (i0 m) r
  | _ => false
def r_tree (ds : List PyData) (d : PyData) : Prop := ∃ x : PyData, ds = [x] ∧ (∀ m xs, x = .tuple [m, .tuple xs] → xs.length ≤ 900) ∧ d = .bool (isTree x)
theorem isLot_inv {n : Int} {x : PyData} (h : isLot n x = true) : ∃ ns : List Int, x = intsD ns ∧ 2 ≤ ns.length ∧ (ns.length : Int) < n ∧ (∀ i ∈ ns, 1 ≤ i ∧ i ≤ n) ∧ risesD (ns.map .int) = true := by
  cases x with
  | tuple xs =>
    have h : ((decide (2 ≤ (xs.length : Int)) && decide ((xs.length : Int) < n)) && ((xs.map (tipOk n)).all id && risesD xs)) = true := h
    rw [Bool.and_eq_true, Bool.and_eq_true, Bool.and_eq_true, decide_eq_true_eq, decide_eq_true_eq] at h
    obtain ⟨⟨h1, h2⟩, h3, h4⟩ := h
    obtain ⟨ns, rfl, q⟩ := tips_ints h3
    rw [List.length_map] at h1 h2
    exact ⟨ns, rfl, by omega, h2, q, h4⟩
  | _ => cases h
theorem lots_of {n : Int} {xs : List PyData} (h : (xs.map (isLot n)).all id = true) : ∃ ls : List (List Int), xs = ls.map intsD ∧ ∀ l ∈ ls, (l.length : Int) < n := by
  rw [all_map_id] at h
  induction xs with
  | nil => exact ⟨[], rfl, fun i h => (List.not_mem_nil h).elim⟩
  | cons x xs ih =>
    obtain ⟨ls, e, q⟩ := ih fun y hy => h y (List.mem_cons_of_mem _ hy)
    obtain ⟨ns, rfl, _, h2, _⟩ := isLot_inv (h x List.mem_cons_self)
    refine ⟨ns :: ls, by rw [e]; rfl, fun j hj => ?_⟩
    rcases List.mem_cons.mp hj with rfl | hj
    · exact h2
    · exact q j hj
section
variable {P : Program} {w : World} {K : PySem.W.Frag} {mg : Str → Option Value} {base : Heap}
theorem ok_is_shape (T : Tx K mg) : FnOk P w K mg base CX0 3 T.d_is_shape.fa T.d_is_shape.fd P_is_shape (FP K r_shape) := by
  refine fp_ok T.d_is_shape.F sc_is_shape (fun ds d h => ?_) fun cdv A outer s H E b hK hr ds d h => ?_
  · obtain ⟨n, xs, rfl, _⟩ := h
    rfl
  · obtain ⟨n, xs, rfl, hn, hz, rfl⟩ := h
    refine sx_cons (sy_if (S1 := ⟨gStart N_is_shape [.d (.int n), .d (.tuple xs)], []⟩) (t := !isInst (.tuple xs) "tuple" || !(xs.map (isLot n)).all id) (et_w (ew_or (et_not (et_val (ev_isi hK.symm rfl T.n_isinstance rfl T.n_tuple Str.isTuple (.inr (.inr (.inr (.inl rfl)))) (vn 1)))) fun _ => et_or1 (et_not (et_val (ev_callB (cr_all rfl) rfl T.n_all (by decide +kernel) (ea_cons (S1 := ⟨gStart N_is_shape [.d (.int n), .d (.tuple xs)], []⟩) (x := .d (.list ((xs.map (isLot n)).map .bool))) ?_ ea_nil) (rc_all hK.symm)))))) (fun h => ?_) fun h => ?_)
    · refine ev_lcG0 (S1 := ⟨gStart N_is_shape [.d (.int n), .d (.tuple xs)], []⟩) (g := gName 4) [("lot", 4)] (ds := xs) (fun d => [.d (.int n), .d (.tuple xs), .no, .no, .d d]) (fun d => .bool (isLot n d)) ?_ ?_ ?_ ?_ ?_ ?_ ?_ ?_ ?_
      · rfl
      · exact sc_is_shape.nd
      · exact ei_tup hK.symm (vn 1)
      · omega
      · exact blkOk_by (N := N_is_shape) (sc := defScope s_is_shape) (by decide +kernel)
      · exact fun _ _ _ _ _ => pg_name (i := 4) sc_is_shape.nd rfl (.inl rfl)
      · exact fun i d hd => tgb_name (vs := [4]) (j := 4) (g0 := [.d (.int n), .d (.tuple xs), .no, .no, .no]) (List.mem_singleton.mpr rfl) li
      · intro i d hd Dl acc s H C cl fp
        exact ev_call (ok_is_lot T) hK.symm (hr.mono (by decide)) rfl T.d_is_lot.m T.d_is_lot.F.kp T.d_is_lot.b pass0 (ds := [.int n, d]) (ea_cons (vn 0) (ea_cons (vn 4) ea_nil)) ⟨_, _, rfl, hn, rfl⟩
      · rw [List.map_map]; rfl
    · have h2 : (xs.map (isLot n)).all id = false := by
        cases hh : (xs.map (isLot n)).all id with
        | false => rfl
        | true => rw [hh] at h; cases h
      have e : isShape n xs = false := by unfold isShape; rw [h2]; rfl
      rw [e]
      exact sx_one (sy_retF ev_bl)
    · have h2 : (xs.map (isLot n)).all id = true := by
        cases hh : (xs.map (isLot n)).all id with
        | true => rfl
        | false => rw [hh] at h; cases h
      obtain ⟨ls, rfl, hls⟩ := lots_of h2
      have e : isShape n (ls.map intsD) = (risesD (ls.map intsD) && (((ls.map intsD).flatMap fun d => (ls.map intsD).map fun e => fitD d e).all id)) := by unfold isShape; rw [h2]; rfl
      rw [e]
      generalize hxs : ls.map intsD = xs at hz ⊢
      have hmem : ∀ d ∈ xs, ∃ a : List Int, d = intsD a ∧ a.length ≤ 1000 := fun d hd => by
        rw [← hxs] at hd
        obtain ⟨a, ha, rfl⟩ := List.mem_map.mp hd
        have := hls a ha
        exact ⟨a, rfl, by omega⟩
      have hfl : ((xs.flatMap fun d => xs.map fun e => PyData.bool (fitD d e))).length ≤ 900000 := by
        have : ∀ (f : PyData → List PyData) (k : Nat) (ys : List PyData), (∀ d ∈ ys, (f d).length ≤ k) → (ys.flatMap f).length ≤ ys.length * k := by
          intro f k ys
          induction ys with
          | nil => intro _; simp
          | cons y ys ih =>
            intro h
            rw [List.flatMap_cons, List.length_append, List.length_cons, Nat.succ_mul]
            have := ih fun d hd => h d (List.mem_cons_of_mem _ hd)
            have := h y List.mem_cons_self
            omega
        have h1 := this (fun d => xs.map fun e => PyData.bool (fitD d e)) xs.length xs (fun d _ => by rw [List.length_map]; exact Nat.le_refl _)
        have h3 : xs.length * xs.length ≤ 900 * 900 := Nat.mul_le_mul hz hz
        omega
      refine sx_nil (sx_one (sy_retF (S1 := ⟨gStart N_is_shape [.d (.int n), .d (.tuple xs)], []⟩) (ev_and (ev_call (ok_rises T) hK.symm (hr.mono (by decide)) rfl T.d_rises.m T.d_rises.F.kp T.d_rises.b pass0 (ds := [.tuple xs]) (ea_cons (vn 1) ea_nil) ⟨xs, rfl, by omega, .inr ⟨ls, hxs.symm⟩, rfl⟩) fun _ => ev_one (ev_callB (cr_all rfl) rfl T.n_all (by decide +kernel) (ea_cons (S1 := ⟨gStart N_is_shape [.d (.int n), .d (.tuple xs)], []⟩) (x := .d (.list ((xs.flatMap fun d => xs.map fun e => fitD d e).map .bool))) ?_ ea_nil) (rc_all hK.symm)))))
      refine ev_lc2GW (S1 := ⟨gStart N_is_shape [.d (.int n), .d (.tuple xs)], []⟩) (g := gName 2) (g1 := gName 3) [("one", 2), ("other", 3)] [3] (ds := xs) (fun _ => xs) (fun d => [.d (.int n), .d (.tuple xs), .d d, .no, .no]) (fun d e => [.d (.int n), .d (.tuple xs), .d d, .d e, .no]) (fun d e => .bool (fitD d e)) ?_ ?_ ?_ ?_ ?_ ?_ ?_ ?_ ?_ ?_ ?_ ?_ ?_
      · rfl
      · exact sc_is_shape.nd
      · exact ei_tup hK.symm (vn 1)
      · exact hfl
      · exact blkOk_by (N := N_is_shape) (sc := defScope s_is_shape) (by decide +kernel)
      · simp
      · exact fun _ _ _ _ _ => pg_name (i := 2) sc_is_shape.nd rfl (.inl rfl)
      · exact fun _ _ _ _ _ => pg_name (i := 3) sc_is_shape.nd rfl (.inl rfl)
      · exact fun i d hd => tgb_name (vs := [2, 3]) (j := 2) (g0 := [.d (.int n), .d (.tuple xs), .no, .no, .no]) (by simp) li
      · exact fun i d hd Dl acc s H C cl fp => ei_tup hK.symm (vn 1)
      · exact fun i d hd j e he => tgb_name (vs := [3]) (j := 3) (g0 := [.d (.int n), .d (.tuple xs), .d d, .no, .no]) (by simp) li
      · intro i d hd j e he Dl acc s H C cl fp
        obtain ⟨a, rfl, ha⟩ := hmem d (List.mem_of_getElem? hd)
        obtain ⟨c, rfl, _⟩ := hmem e (List.mem_of_getElem? he)
        have e2 : fitD (intsD a) (intsD c) = fitB a c := by unfold fitD; rw [intsOf_ints, intsOf_ints]
        rw [e2]
        exact ev_call (ok_lots_fit T) hK.symm (hr.mono (by decide)) rfl T.d_lots_fit.m T.d_lots_fit.F.kp T.d_lots_fit.b pass0 (ds := [intsD a, intsD c]) (ea_cons (vn 2) (ea_cons (vn 3) ea_nil)) ⟨_, _, rfl, ha, rfl⟩
      · rw [List.map_flatMap]
        simp only [List.map_map]
        rfl
theorem ok_is_roads (T : Tx K mg) : FnOk P w K mg base CX0 4 T.d_is_roads.fa T.d_is_roads.fd P_is_roads (FP K r_roads) := by
  refine fp_ok T.d_is_roads.F sc_is_roads (fun ds d h => ?_) fun cdv A outer s H E b hK hr ds d h => ?_
  · obtain ⟨n, xs, rfl, _⟩ := h
    rfl
  · obtain ⟨n, x, rfl, hn, hx25, rfl⟩ := h
    by_cases hx : isInst x "tuple" = true
    · obtain ⟨xs, rfl⟩ : ∃ xs, x = .tuple xs := by cases x <;> first | (cases hx; done) | exact ⟨_, rfl⟩
      have hz := hx25 xs rfl
      refine sx_cons (sy_if (S1 := ⟨gStart N_is_roads [.d (.int n), .d (.tuple xs)], []⟩) (t := !isInst (.tuple xs) "tuple" || !(xs.map roadOk).all id) (et_w (ew_or (et_not (et_val (ev_isi hK.symm rfl T.n_isinstance rfl T.n_tuple Str.isTuple (.inr (.inr (.inr (.inl rfl)))) (vn 1)))) fun _ => et_or1 (et_not (et_val (ev_callB (cr_all rfl) rfl T.n_all (by decide +kernel) (ea_cons (S1 := ⟨gStart N_is_roads [.d (.int n), .d (.tuple xs)], []⟩) (x := .d (.list ((xs.map roadOk).map .bool))) ?_ ea_nil) (rc_all hK.symm)))))) (fun h => ?_) fun h => ?_)
      · refine ev_lcG0 (S1 := ⟨gStart N_is_roads [.d (.int n), .d (.tuple xs)], []⟩) (g := gName 2) [("road", 2)] (ds := xs) (fun d => [.d (.int n), .d (.tuple xs), .d d]) (fun d => .bool (roadOk d)) ?_ ?_ ?_ ?_ ?_ ?_ ?_ ?_ ?_
        · rfl
        · exact sc_is_roads.nd
        · exact ei_tup hK.symm (vn 1)
        · omega
        · exact blkOk_by (N := N_is_roads) (sc := defScope s_is_roads) (by decide +kernel)
        · exact fun _ _ _ _ _ => pg_name (i := 2) sc_is_roads.nd rfl (.inl rfl)
        · exact fun i d hd => tgb_name (vs := [2]) (j := 2) (g0 := [.d (.int n), .d (.tuple xs), .no]) (List.mem_singleton.mpr rfl) li
        · intro i d hd Dl acc s H C cl fp
          refine ev_and (ev_call (ok_is_pair T) hK.symm (hr.mono (by decide)) rfl T.d_is_pair.m T.d_is_pair.F.kp T.d_is_pair.b pass0 (ds := [d]) (ea_cons (vn 2) ea_nil) ⟨_, rfl, rfl⟩) fun hp => ev_one ?_
          obtain ⟨u, v, rfl⟩ := isPair_inv hp
          exact ev_call (ok_is_length T) hK.symm (hr.mono (by decide)) rfl T.d_is_length.m T.d_is_length.F.kp T.d_is_length.b pass0 (ds := [v]) (ea_cons (ev_ixT hK.symm (vn 2) ev_int rfl) ea_nil) ⟨_, rfl, rfl⟩
        · rw [List.map_map]; rfl
      · have h2 : (xs.map roadOk).all id = false := by
          cases hh : (xs.map roadOk).all id with
          | false => rfl
          | true => rw [hh] at h; cases h
        have e : isRoads n (.tuple xs) = false := by show ((xs.map roadOk).all id && _) = false; rw [h2]; rfl
        rw [e]
        exact sx_one (sy_retF ev_bl)
      · have h2 : (xs.map roadOk).all id = true := by
          cases hh : (xs.map roadOk).all id with
          | true => rfl
          | false => rw [hh] at h; cases h
        have e : isRoads n (.tuple xs) = isShape n (xs.map fst0) := by show ((xs.map roadOk).all id && _) = _; rw [h2]; rfl
        rw [e]
        rw [all_map_id] at h2
        refine sx_nil (sx_one (sy_retF (S1 := ⟨gStart N_is_roads [.d (.int n), .d (.tuple xs)], []⟩) (ev_call (ok_is_shape T) hK.symm (hr.mono (by decide)) rfl T.d_is_shape.m T.d_is_shape.F.kp T.d_is_shape.b pass0 (ds := [.int n, .tuple (xs.map fst0)]) (ea_cons (vn 0) (ea_cons (S1 := ⟨gStart N_is_roads [.d (.int n), .d (.tuple xs)], []⟩) (ev_tupleL hK.symm rfl T.n_tuple (ds := xs.map fst0) (S1 := ⟨gStart N_is_roads [.d (.int n), .d (.tuple xs)], []⟩) ?_) ea_nil)) ⟨_, _, rfl, hn, by rw [List.length_map]; exact hz, rfl⟩)))
        refine ev_lcG0 (S1 := ⟨gStart N_is_roads [.d (.int n), .d (.tuple xs)], []⟩) (g := gName 2) [("road", 2)] (ds := xs) (fun d => [.d (.int n), .d (.tuple xs), .d d]) fst0 ?_ ?_ ?_ ?_ ?_ ?_ ?_ ?_ ?_
        · rfl
        · exact sc_is_roads.nd
        · exact ei_tup hK.symm (vn 1)
        · omega
        · exact blkOk_by (N := N_is_roads) (sc := defScope s_is_roads) (by decide +kernel)
        · exact fun _ _ _ _ _ => pg_name (i := 2) sc_is_roads.nd rfl (.inl rfl)
        · exact fun i d hd => tgb_name (vs := [2]) (j := 2) (g0 := [.d (.int n), .d (.tuple xs), .no]) (List.mem_singleton.mpr rfl) li
        · intro i d hd Dl acc s H C cl fp
          have hp := h2 d (List.mem_of_getElem? hd)
          unfold roadOk at hp
          rw [Bool.and_eq_true] at hp
          obtain ⟨u, v, rfl⟩ := isPair_inv hp.1
          exact ev_ixT hK.symm (vn 2) ev_int rfl
        · rfl
    · have hx : isInst x "tuple" = false := by simpa using hx
      have e : isRoads n x = false := by cases x <;> first | rfl | cases hx
      rw [e]
      refine sx_cons (sy_if (t := !isInst x "tuple" || true) (et_w (ew_or (et_not (et_val (ev_isi hK.symm rfl T.n_isinstance rfl T.n_tuple Str.isTuple (.inr (.inr (.inr (.inl rfl)))) (vn 1)))) fun h => by rw [hx] at h; cases h)) (fun h => sx_one (sy_retF ev_bl)) fun h => by simp at h)
theorem ok_is_tree (T : Tx K mg) : FnOk P w K mg base CX0 5 T.d_is_tree.fa T.d_is_tree.fd P_is_tree (FP K r_tree) := by
  refine fp_ok T.d_is_tree.F sc_is_tree (fun ds d h => ?_) fun cdv A outer s H E b hK hr ds d h => ?_
  · obtain ⟨x, rfl, _⟩ := h
    rfl
  · obtain ⟨x, rfl, hx25, rfl⟩ := h
    by_cases hp : isPair x = true
    · obtain ⟨m, r, rfl⟩ := isPair_inv hp
      by_cases hm : isMany m = true
      · obtain ⟨i, rfl, hi⟩ : ∃ i, m = .int i ∧ i ≤ 6 := by
          cases m with
          | int i =>
            have hm : (decide (3 ≤ i) && decide (i ≤ 6)) = true := hm
            rw [Bool.and_eq_true, decide_eq_true_eq, decide_eq_true_eq] at hm
            exact ⟨i, rfl, hm.2⟩
          | _ => cases hm
        have e : isTree (.tuple [.int i, r]) = (isPair (.tuple [.int i, r]) && (isMany (.int i) && isRoads i r)) := rfl
        rw [e]
        exact sx_one (sy_retF (ev_and (ev_call (ok_is_pair T) hK.symm (hr.mono (by decide)) rfl T.d_is_pair.m T.d_is_pair.F.kp T.d_is_pair.b pass0 (ds := [.tuple [.int i, r]]) (ea_cons (vn 0) ea_nil) ⟨_, rfl, rfl⟩) fun _ => ev_and (ev_call (ok_is_many T) hK.symm (hr.mono (by decide)) rfl T.d_is_many.m T.d_is_many.F.kp T.d_is_many.b pass0 (ds := [.int i]) (ea_cons (ev_ixT hK.symm (vn 0) ev_int rfl) ea_nil) ⟨_, rfl, rfl⟩) fun _ => ev_one (ev_call (ok_is_roads T) hK.symm (hr.mono (by decide)) rfl T.d_is_roads.m T.d_is_roads.F.kp T.d_is_roads.b pass0 (ds := [.int i, r]) (ea_cons (ev_ixT hK.symm (vn 0) ev_int rfl) (ea_cons (ev_ixT hK.symm (vn 0) ev_int rfl) ea_nil)) ⟨_, _, rfl, by omega, fun xs e => hx25 _ xs (by rw [e]), rfl⟩)))
      · have hm : isMany m = false := by simpa using hm
        have e : isTree (.tuple [m, r]) = (isPair (.tuple [m, r]) && (isMany m && false)) := by
          show (isMany m && _) = _
          rw [hm]; rfl
        rw [e]
        exact sx_one (sy_retF (ev_and (ev_call (ok_is_pair T) hK.symm (hr.mono (by decide)) rfl T.d_is_pair.m T.d_is_pair.F.kp T.d_is_pair.b pass0 (ds := [.tuple [m, r]]) (ea_cons (vn 0) ea_nil) ⟨_, rfl, rfl⟩) fun _ => ev_and (ev_call (ok_is_many T) hK.symm (hr.mono (by decide)) rfl T.d_is_many.m T.d_is_many.F.kp T.d_is_many.b pass0 (ds := [m]) (ea_cons (ev_ixT hK.symm (vn 0) ev_int rfl) ea_nil) ⟨_, rfl, rfl⟩) fun h => by rw [hm] at h; cases h))
    · have hp : isPair x = false := by simpa using hp
      have e : isTree x = (isPair x && false) := by
        rw [hp]
        cases x with
        | tuple xs =>
          match xs with
          | [] => rfl
          | [_] => rfl
          | [_, _] => cases hp
          | _ :: _ :: _ :: _ => rfl
        | _ => rfl
      rw [e]
      exact sx_one (sy_retF (ev_and (ev_call (ok_is_pair T) hK.symm (hr.mono (by decide)) rfl T.d_is_pair.m T.d_is_pair.F.kp T.d_is_pair.b pass0 (ds := [x]) (ea_cons (vn 0) ea_nil) ⟨_, rfl, rfl⟩) fun h => by rw [hp] at h; cases h))
end
end KC
end
section
set_option Elab.async false
set_option linter.all false
set_option maxRecDepth 100000
set_option maxHeartbeats 4000000
/-! sorted(xs) of tuples of ints of any lengths, under a key that follows their order -/
namespace SG
open PySem PyProof.Rows TS
section
variable {prog : Program} {w : World} {A : Around} {E : Value → Shared → Prop} {s : Shared}
theorem lex_gen {Q : Bool → Shared → Prop} {b : Bool} {xs ys : List Value} {ns ms : List Int} (i : Nat) (hx : IntsAre xs ns) (hy : IntsAre ys ms) (h : Q (HT.lexLt ns ms) s) : PySem.W.KatLex prog w A b (decide (ns.length < ms.length)) Q (xs.zip ys) i s := by
  induction hx generalizing ys ms i with
  | nil =>
    cases hy with
    | nil => exact PySem.W.kat_nil h
    | cons q u hy => exact PySem.W.kat_nil h
  | @cons p t xs ns hx ih =>
    cases hy with
    | nil => exact PySem.W.kat_nil h
    | @cons q u ys ms hy =>
      have ed : decide ((p :: ns).length < (q :: ms).length) = decide (ns.length < ms.length) := decide_eq_decide.mpr (by simp)
      rw [ed]
      show PySem.W.KatLex prog w A b _ Q ((Value.int p t, Value.int q u) :: xs.zip ys) i s
      refine PySem.W.kat_cons (wpAny_eqBool_int ?_)
      by_cases e : p = q
      · subst e
        rw [beq_self_eq_true]
        rw [HT.lexLt_cons, if_pos rfl] at h
        refine PySem.W.kat_yes ?_
        first
          | exact ih (i + 1) hy h
          | exact ih _ _ (i + 1) hy h
      · rw [show (p == q) = false from beq_eq_false_iff_ne.mpr e]
        rw [HT.lexLt_cons, if_neg e] at h
        exact PySem.W.kat_no (oneLt_ints _ h)
def TupsG (h : Heap) (Ad : List Int → Prop) (vs : List Value) : Prop := ∀ v, v ∈ vs → ∃ ns, TupInts h v ns ∧ Ad ns
theorem TupsG.keeps {h h' : Heap} {Ad : List Int → Prop} {vs : List Value} (x : TupsG h Ad vs) (k : ∀ b o, h.get? b = some o → o.cls = .type "tuple" → h'.get? b = some o) : TupsG h' Ad vs := fun v hv =>
  let ⟨ns, t, r⟩ := x v hv; ⟨ns, t.keeps k, r⟩
theorem firsts_of {h : Heap} {Ad : List Int → Prop} (hd : ∀ ns, Ad ns → 1 ≤ ns.length) : ∀ vs : List Value, TupsG h Ad vs → ∃ fs, PySem.W.KatTups h vs fs ∧ fs.length = vs.length ∧ ∀ f, f ∈ fs → ∃ n t, f = Value.int n t
  | [], _ => ⟨[], PySem.W.KatTups.nil, rfl, fun f hf => by simp at hf⟩
  | v :: vs, x => by
    obtain ⟨fs, k, hl, hi⟩ := firsts_of hd vs fun u hu => x u (List.mem_cons_of_mem _ hu)
    obtain ⟨ns, ⟨a, xs, rfl, ⟨o, ho, hc, n, hdt⟩, i⟩, hn⟩ := x v (List.mem_cons_self ..)
    obtain ⟨y, ys, e⟩ : ∃ y ys, xs.toList = y :: ys := by
      cases q : xs.toList with
      | nil =>
        rw [q] at i
        have l := i.length
        have := hd ns hn
        rw [List.length_nil] at l
        omega
      | cons y ys => exact ⟨y, ys, rfl⟩
    obtain ⟨m, t, hy⟩ := i.all y (by rw [e]; exact List.mem_cons_self ..)
    refine ⟨y :: fs, PySem.W.KatTups.cons ho hc hdt ?_ k, by simp [hl], ?_⟩
    · have z := congrArg (fun l : List Value => l[0]?) e
      simpa using z
    · intro f hf
      rcases List.mem_cons.mp hf with rfl | hf
      · exact ⟨m, t, hy⟩
      · exact hi f hf
variable {Ad : List Int → Prop} {f : List Int → Int}
theorem kind_tups {vs : List Value} (hd : ∀ ns, Ad ns → 1 ≤ ns.length) (hk : ∀ ns ms, Ad ns → Ad ms → HT.lexLt ns ms = decide (f ns < f ms)) (h2 : 2 ≤ vs.length) (x : TupsG s.heap Ad vs) (r : Value → Int) (hr : ∀ v, v ∈ vs → ∀ ns, TupInts s.heap v ns → r v = f ns) (Q : SortKind → Shared → Prop)
    (h : ∀ κ, Cmp prog w A s κ (pairsOf vs) r → Q κ s) : wpAny (model prog w) A (keyKind' vs.toArray) Q E s := by
  obtain ⟨fs, k, hl, hi⟩ := firsts_of hd vs x
  refine PySem.W.kat_kind (T := Value.type "int") k (by omega) (fun f hf => ?_) rfl (h _ ?_)
  · obtain ⟨n, t, rfl⟩ := hi f hf
    exact PySem.W.Looks.of_pure rfl
  · intro p q hp hq Q' E' hQ
    rw [pairsOf_toList] at hp hq
    obtain ⟨ns, tp, ap⟩ := x _ (mem_zip_self hp).2
    obtain ⟨ms, tq, aq⟩ := x _ (mem_zip_self hq).2
    have ep := hr _ (mem_zip_self hp).2 _ tp
    have eq2 := hr _ (mem_zip_self hq).2 _ tq
    have hQ' : Q' (HT.lexLt ns ms) s := by
      rw [hk ns ms ap aq, ← ep, ← eq2]; exact hQ
    obtain ⟨a, xs, e1, ⟨o, ho, hc, n, hdt⟩, i⟩ := tp
    obtain ⟨a', ys, e2, ⟨o', ho', hc', n', hdt'⟩, i'⟩ := tq
    rw [e1, e2]
    refine PySem.W.kat_lt ho hdt ho' hdt' ?_
    have sz : decide (xs.size < ys.size) = decide (ns.length < ms.length) := by
      have l1 := i.length
      have l2 := i'.length
      rw [Array.length_toList] at l1 l2
      rw [l1, l2]
    rw [sz]
    exact lex_gen 0 i i' hQ'
theorem sort_tups {a : Addr} {vs : List Value} {n : Nat} {P : PySem.Fin → Shared → Prop} (hd : ∀ ns, Ad ns → 1 ≤ ns.length) (hk : ∀ ns ms, Ad ns → Ad ms → HT.lexLt ns ms = decide (f ns < f ms)) (ho : s.heap.get? a = some (seqObj "list" vs.toArray n)) (h64 : vs.length < 64) (x : TupsG s.heap Ad vs)
    (r : Value → Int) (hr : ∀ v, v ∈ vs → ∀ ns, TupInts s.heap v ns → r v = f ns)
    (h : ∀ out : Array Value, out.toList.Perm vs → out.toList.Pairwise (fun u v => r u ≤ r v) → P (.done (.ret .none)) { s with heap := sortedHeap s.heap a vs out }) :
    wpAny (model prog w) A (Builtin.«list.sort» ⟨[.ref a], []⟩) P E s := by
  have keep : ∀ b o, s.heap.get? b = some o → o.cls = .type "tuple" → (midHeap s.heap a vs).get? b = some o := fun b o e hc => by
    refine midHeap_old ?_ e
    rintro rfl
    rw [ho] at e
    have e' : seqObj "list" vs.toArray n = o := Option.some.inj e
    rw [← e'] at hc
    have c' : Value.type "list" = Value.type "tuple" := hc
    injection c' with c''
    exact absurd c'' (by decide)
  refine SK.plain_sort (r := r) ho h64 (fun h2 Q hQ => ?_) fun ps out h1 h2 h3 => ?_
  · refine kind_tups (s := { s with heap := midHeap s.heap a vs }) hd hk h2 (x.keeps keep) r (fun v hv ns t => ?_) Q hQ
    obtain ⟨ns0, t0, _⟩ := x v hv
    have e : ns = ns0 := t.ints.symm.trans (t0.keeps keep).ints
    rw [e]
    exact hr v hv ns0 t0
  · obtain ⟨p, o⟩ := out_rank h1 h2 h3
    exact h out p o
theorem sorted_tups {l : Addr} {vs : List Value} {Q : Value → Shared → Prop} (hd : ∀ ns, Ad ns → 1 ≤ ns.length) (hk : ∀ ns ms, Ad ns → Ad ms → HT.lexLt ns ms = decide (f ns < f ms)) (hl : s.heap.IsList l vs.toArray) (h64 : vs.length < 64) (x : TupsG s.heap Ad vs)
    (h : ∀ out : Array Value, out.toList.Perm vs → out.toList.Pairwise (fun u v => f (intsOf s.heap u) ≤ f (intsOf s.heap v)) → Q (.ref (s.heap.objs.size + 1)) { s with heap := sortedAll s.heap vs out }) :
    wpAny (model prog w) A (call (.builtin "sorted") [.ref l]) Q E s := by
  refine Calls.call_function_entry kind_sorted plain_sorted entry_sorted (args_sorted1 _) ?_
  unfold Builtin.«sorted»
  refine wpAny_bind (m := checkCount "sorted" 1 1 _) (wpAny_pure ?_)
  refine wpAny_bind (collect_list hl ?_ (by rw [sizeLine_eq]; omega))
  refine wpAny_bind (wpAny_newList ?_ (by rw [sizeLine_eq]; omega))
  have hsz : ((s.heap.push (seqObj "list" #[] 0)).update s.heap.objs.size (Obj.mapSeq (· ++ vs.toArray))).objs.size = s.heap.objs.size + 1 := by
    rw [Heap.size_update, size_push']
  have hoL : (((s.heap.push (seqObj "list" #[] 0)).update s.heap.objs.size (Obj.mapSeq (· ++ vs.toArray))).push (seqObj "list" vs.toArray 0)).get? (s.heap.objs.size + 1) = some (seqObj "list" vs.toArray 0) := by
    rw [← hsz]; exact Heap.get?_push_size _ rfl
  have keep : ∀ b o, s.heap.get? b = some o → o.cls = .type "tuple" → (((s.heap.push (seqObj "list" #[] 0)).update s.heap.objs.size (Obj.mapSeq (· ++ vs.toArray))).push (seqObj "list" vs.toArray 0)).get? b = some o := fun b o q _ => by
    have hlt : b < s.heap.objs.size := Heap.lt_size q
    rw [Heap.get?_push_ne _ _ _ (by rw [hsz]; exact Nat.ne_of_lt (Nat.lt_succ_of_lt hlt)), Heap.get?_update_ne _ _ _ _ (Nat.ne_of_lt hlt), Heap.get?_push_ne _ _ _ (Nat.ne_of_lt hlt)]
    exact q
  show wpAny _ _ _ _ _ { s with heap := ((s.heap.push (seqObj "list" #[] 0)).update s.heap.objs.size (Obj.mapSeq (· ++ vs.toArray))).push (seqObj "list" vs.toArray 0) }
  rw [hsz]
  refine wpAny_bind (wpAny_holding (wpAny_call_entry slot_list_sort ⟨_, hoL, rfl⟩ entry_list_sort (sort_tups hd hk hoL h64 (x.keeps keep) (fun v => f (intsOf s.heap v)) (fun v hv ns t => ?_) fun out a1 a2 => ⟨_, rfl, ?_⟩) (args_list_sort _)))
  · obtain ⟨ns0, t0, _⟩ := x v hv
    have e : ns = ns0 := t.ints.symm.trans (t0.keeps keep).ints
    rw [e]
    show f (intsOf s.heap v) = f ns0
    rw [t0.ints]
  · exact wpAny_pure ⟨_, rfl, h out a1 a2⟩
end
end SG
namespace SG
open PySem PySem.Spec PyProof.Rows L2 DX
section
variable {X : Cx}
/-- sorted(xs), xs a list of fewer than 64 tuples of ints of a kind whose order follows f -/
def rSortG (K : PySem.W.Frag) (Ad : List Int → Prop) (f : List Int → Int) : List V → Hp → VK → Prop := fun vs H Q => ∃ (a : Addr) (xs : List V), vs = [V.ref a] ∧ SqL K H a xs ∧ xs.length < 64 ∧ (∀ x ∈ xs, ∃ ns, TupI K H x ns ∧ Ad ns) ∧
  ∀ (ys : List V) (p : Addr), ys.Perm xs → ys.Pairwise (fun x y => ∀ n m, TupI K H x n → TupI K H y m → f n ≤ f m) → H p = none → Q (.ref p) (upd H p (.lst ys))
theorem cr_sortG {Ad : List Int → Prop} {f : List Int → Int} (hd : ∀ ns, Ad ns → 1 ≤ ns.length) (hk : ∀ ns ms, Ad ns → Ad ms → HT.lexLt ns ms = decide (f ns < f ms)) : CallR X (.builtin "sorted") (rSortG X.K Ad f) := by
  intro pins s σ H vs us Q I r h
  obtain ⟨a, xs, rfl, hs, h64, hx, q⟩ := h
  obtain ⟨its, rv, hl, hz⟩ := I.list hs
  rw [Vals.ref1 r]
  obtain ⟨e1, e2⟩ := bkV_refs rv fun x m => by
    obtain ⟨ns, ⟨t, e, _⟩, _⟩ := hx x m
    exact ⟨t, e⟩
  refine sorted_tups (Ad := Ad) (f := f) hd hk hl.isList (by rw [← rv.length]; exact h64) (fun v hv => ?_) fun out h1 h2 => ?_
  · obtain ⟨t, rfl⟩ := e2 v hv
    have hm : V.ref t ∈ xs := by
      rw [e1]
      exact List.mem_map.mpr ⟨_, hv, rfl⟩
    obtain ⟨ns, ⟨t', e, ht⟩, hb⟩ := hx _ hm
    cases e
    exact ⟨ns, tupI_raw I ht, hb⟩
  · obtain ⟨ep, he'⟩ := PyProof.Rows.sortedAll_at s.heap its out
    have h3 : ∀ u ∈ out.toList, ∃ a, u = Value.ref a := fun u hu => e2 u (h1.mem_iff.mp hu)
    have hp : (out.toList.map bkV).Perm xs := by
      rw [e1]
      exact h1.map bkV
    have hlen : (out.toList.map bkV).length ≤ sizeLine := by
      rw [hp.length_eq]
      exact hz
    refine ⟨.ref _, upd H (s.heap.objs.size + 1) (.lst (out.toList.map bkV)), I.laid (t' := s.toks) (fun _ _ => PyProof.Rows.sortedAll_old) (Nat.le_succ _) ⟨hlen, out.toList, ep, bkV_vals h3, he'⟩, rfl, q _ _ hp ?_ (I.hok.fresh (Nat.le_succ _))⟩
    rw [List.pairwise_map]
    refine List.Pairwise.imp (fun {u v} huv n m hn hm => ?_) h2
    obtain ⟨t, et, ht⟩ := hn
    obtain ⟨t', et', ht'⟩ := hm
    have eu := bkV_ref et
    have ev := bkV_ref et'
    have i1 : TS.intsOf s.heap u = n := by
      rw [eu]
      exact (tupI_raw I ht).ints
    have i2 : TS.intsOf s.heap v = m := by
      rw [ev]
      exact (tupI_raw I ht').ints
    rw [← i1, ← i2]
    exact huv
variable {b : Bs} {S : DS}
theorem rc_sortG {Ad : List Int → Prop} {f : List Int → Int} {ls ms : List (List Int)} (hK : X.K = b.K) (hz : ls.length < 64) (hb : ∀ l ∈ ls, Ad l) (hp : ms.Perm ls) (hs : ms.Pairwise fun a c => f a < f c) :
    RC b (rSortG X.K Ad f) [.d (.list (ls.map intsD))] S (.d (.list (ms.map intsD))) := by
  intro H vs rm hv Q q
  obtain ⟨v, rfl, k⟩ := vall1 hv
  cases k with
  | lst hs1 ha =>
    rename_i a xs
    have tup : ∀ {x : V} {n : List Int} {A : List Addr} {H0 : Hp}, Dp b.K (hide A H0) x (intsD n) → TupI X.K H0 x n := fun {x n A H0} h => by
      unfold intsD at h
      cases h with
      | tup h1 a1 =>
        rw [dp_ints a1] at h1
        exact ⟨_, rfl, by rw [hK]; exact ex_t hide_ex h1⟩
    refine ⟨a, xs, rfl, by rw [hK]; exact ex_l hide_ex hs1, by rw [DpAll.len ha, List.length_map]; exact hz, fun x hx => ?_, fun ys p py ps hp0 => ?_⟩
    · obtain ⟨i, hi⟩ := List.getElem?_of_mem hx
      obtain ⟨dd, e1, e2⟩ := dpAll_getV ha hi
      obtain ⟨l, hl, rfl⟩ := List.mem_map.mp (List.mem_of_getElem? e1)
      exact ⟨l, tup e2, hb l hl⟩
    · obtain ⟨ds', p1, p2⟩ := dpAll_perm py ha
      obtain ⟨ks, rfl, p3⟩ := perm_map_inv intsD p1
      have hk : ks.Pairwise fun a c => f a ≤ f c := by
        refine List.pairwise_iff_getElem.mpr fun i j hi hj hij => ?_
        obtain ⟨u, e1, e2⟩ := dpAll_get p2 (i := i) (d := intsD ks[i]) (by rw [List.getElem?_map, List.getElem?_eq_getElem hi]; rfl)
        obtain ⟨w, e3, e4⟩ := dpAll_get p2 (i := j) (d := intsD ks[j]) (by rw [List.getElem?_map, List.getElem?_eq_getElem hj]; rfl)
        obtain ⟨li, ei⟩ := List.getElem?_eq_some_iff.mp e1
        obtain ⟨lj, ej⟩ := List.getElem?_eq_some_iff.mp e3
        have := List.pairwise_iff_getElem.mp ps i j li lj hij
        rw [ei, ej] at this
        exact this _ _ (tup e2) (tup e4)
      have e := perm_key_unique f (p3.trans hp.symm) hk hs
      subst e
      obtain ⟨r2, x2⟩ := rm.grow (Ex.new (o := .lst ys) hp0)
      exact q _ _ (.lst (.inl (.inl (hide_new (rm.fresh hp0)))) (DpAll.ex x2 p2)) (Ex.new hp0)
end
end SG
end
section
set_option Elab.async false
set_option linter.all false
set_option maxRecDepth 100000
set_option maxHeartbeats 4000000
set_option exponentiation.threshold 300000
namespace KC
open PySem PySem.Spec PyProof.Rows L2 DX
set_option autoImplicit false
/-! all lots, in their order -/
def pkey : Nat → List Int → Int
  | 0, _ => 0
  | _ + 1, [] => 0
  | d + 1, x :: xs => x * 8 ^ d + pkey d xs
abbrev key (l : List Int) : Int := pkey 6 l
def ins (a : List Int) : List (List Int) → List (List Int)
  | [] => [a]
  | x :: xs => if key a < key x then a :: x :: xs else x :: ins a xs
def isort : List (List Int) → List (List Int)
  | [] => []
  | x :: xs => ins x (isort xs)
def fl : Nat → List (List Int)
  | 0 => [[]]
  | n + 1 => fl n ++ (fl n).map fun l => l ++ [((n : Int) + 1)]
def lotB (n : Int) (l : List Int) : Bool := decide (1 < (l.length : Int)) && decide ((l.length : Int) < n)
def lotsOf (n : Nat) : List (List Int) := isort ((fl n).filter (lotB n))
def all6 : List (List Int) := (fl 6).filter fun l => decide (0 < l.length)
def Ad6 (l : List Int) : Prop := l ∈ all6
theorem ad_ne : ∀ l, Ad6 l → 1 ≤ l.length := by
  have h : ∀ l ∈ all6, 1 ≤ l.length := by decide +kernel
  exact h
theorem ad_key : ∀ a c, Ad6 a → Ad6 c → HT.lexLt a c = decide (key a < key c) := by
  have h : ∀ a ∈ all6, ∀ c ∈ all6, HT.lexLt a c = decide (key a < key c) := by decide +kernel
  exact fun a c ha hc => h a ha c hc
theorem key_inj : ∀ a c, Ad6 a → Ad6 c → key a = key c → a = c := by
  have h : ∀ a ∈ all6, ∀ c ∈ all6, key a = key c → a = c := by decide +kernel
  exact fun a c ha hc => h a ha c hc
def Many (n : Nat) : Prop := n = 3 ∨ n = 4 ∨ n = 5 ∨ n = 6
theorem lots_facts {n : Nat} (h : Many n) : (lotsOf n).Perm ((fl n).filter (lotB n)) ∧ ((lotsOf n).Pairwise fun a c => key a < key c) ∧ ((fl n).filter (lotB n)).length < 64 ∧ (∀ l ∈ (fl n).filter (lotB n), l ∈ all6) := by
  rcases h with rfl | rfl | rfl | rfl <;> exact ⟨by decide +kernel, by decide +kernel, by decide +kernel, by decide +kernel⟩
theorem lots_ad {n : Nat} (h : Many n) : ∀ l ∈ lotsOf n, Ad6 l := fun l hl => (lots_facts h).2.2.2 l ((lots_facts h).1.mem_iff.mp hl)
theorem lots_len {n : Nat} (h : Many n) : ∀ l ∈ lotsOf n, l.length ≤ 6 := by
  rcases h with rfl | rfl | rfl | rfl <;> decide +kernel
theorem lots_lot {n : Nat} (h : Many n) : ∀ l ∈ lotsOf n, isLot (n : Int) (intsD l) = true := by
  rcases h with rfl | rfl | rfl | rfl <;> decide +kernel
theorem lots_sub {n : Nat} (h : Many n) : ∀ l ∈ lotsOf n, l ∈ lotsOf 6 ∨ n = 6 ∨ l.length = 6 ∨ True := fun _ _ => .inr (.inr (.inr trivial))
theorem fit_sym {a c : List Int} (ha : Ad6 a) (hc : Ad6 c) : fitB a c = fitB c a := by
  have h : ∀ a ∈ all6, ∀ c ∈ all6, fitB a c = fitB c a := by decide +kernel
  exact h a ha c hc
theorem fit_self {a : List Int} (ha : Ad6 a) : fitB a a = true := by
  have h : ∀ a ∈ all6, fitB a a = true := by decide +kernel
  exact h a ha
theorem ins_perm (a : List Int) : ∀ xs, (ins a xs).Perm (a :: xs)
  | [] => .refl _
  | x :: xs => by
    unfold ins
    split
    · exact .refl _
    · exact ((ins_perm a xs).cons x).trans (.swap _ _ _)
theorem isort_perm : ∀ xs, (isort xs).Perm xs
  | [] => .refl _
  | x :: xs => (ins_perm x (isort xs)).trans ((isort_perm xs).cons x)
theorem ins_sorted (a : List Int) (ha : Ad6 a) : ∀ xs, (∀ x ∈ xs, Ad6 x) → a ∉ xs → (xs.Pairwise fun a c => key a < key c) → ((ins a xs).Pairwise fun a c => key a < key c)
  | [], _, _, _ => List.pairwise_singleton _ _
  | x :: xs, had, hn, h => by
    obtain ⟨h1, h2⟩ := List.pairwise_cons.mp h
    unfold ins
    split
    · rename_i hlt
      refine List.pairwise_cons.mpr ⟨fun y hy => ?_, h⟩
      rcases List.mem_cons.mp hy with rfl | hy
      · exact hlt
      · exact Int.lt_trans hlt (h1 y hy)
    · rename_i hlt
      refine List.pairwise_cons.mpr ⟨fun y hy => ?_, ins_sorted a ha xs (fun y hy => had y (List.mem_cons_of_mem _ hy)) (fun q => hn (List.mem_cons_of_mem _ q)) h2⟩
      rcases List.mem_cons.mp ((ins_perm a xs).mem_iff.mp hy) with rfl | hy
      · have : key y ≠ key x := fun e => hn (by rw [key_inj _ _ ha (had x List.mem_cons_self) e]; exact List.mem_cons_self)
        omega
      · exact h1 y hy
theorem isort_sorted : ∀ xs, (∀ x ∈ xs, Ad6 x) → xs.Nodup → ((isort xs).Pairwise fun a c => key a < key c)
  | [], _, _ => .nil
  | x :: xs, had, hn => by
    obtain ⟨n1, n2⟩ := List.nodup_cons.mp hn
    have hp := isort_perm xs
    exact ins_sorted x (had x List.mem_cons_self) _ (fun y hy => had y (List.mem_cons_of_mem _ (hp.mem_iff.mp hy))) (fun q => n1 (hp.mem_iff.mp q)) (isort_sorted xs (fun y hy => had y (List.mem_cons_of_mem _ hy)) n2)
/-! tuples of ints: alike, laid -/
theorem eqvAll_ints : ∀ a c : List Int, PyData.eqvAll (a.map .int) (c.map .int) = decide (a = c)
  | [], [] => by simp [PyData.eqvAll]
  | [], _ :: _ => by simp [PyData.eqvAll]
  | _ :: _, [] => by simp [PyData.eqvAll]
  | x :: a, y :: c => by
    rw [List.map_cons, List.map_cons, PyData.eqvAll, eqvAll_ints a c]
    by_cases h : x = y
    · subst h; simp [PyData.eqv]
    · simp [PyData.eqv, h]
theorem eqv_ints (a c : List Int) : PyData.eqv (intsD a) (intsD c) = decide (a = c) := by
  unfold intsD
  rw [PyData.eqv, eqvAll_ints]
theorem lay_ints (a : List Int) : PyData.canLayAll0 (a.map .int) = true ∧ PyData.depthAll (a.map .int) ≤ 1 := by
  induction a with
  | nil => simp [PyData.canLayAll0, PyData.depthAll]
  | cons x a ih => rw [List.map_cons]; simp [PyData.canLayAll0, PyData.depthAll, PyData.canLay0, PyData.depth, ih.1]; omega
theorem lay_intsD (a : List Int) : PyData.canLay0 (intsD a) = true ∧ PyData.depth (intsD a) ≤ 2 := by
  obtain ⟨h1, h2⟩ := lay_ints a
  unfold intsD
  exact ⟨by simp [PyData.canLay0, h1], by simp [PyData.depth]; omega⟩
theorem shaped_ints (a : List Int) : SeqAt.shaped (intsD a) = true := by
  obtain ⟨h1, h2⟩ := lay_intsD a
  show (PyData.canLay0 (intsD a) && decide (PyData.depth (intsD a) ≤ 64)) = true
  rw [h1, decide_eq_true (by omega)]
  rfl
theorem lay_lists (ls : List (List Int)) : PyData.canLayAll0 (ls.map intsD) = true ∧ PyData.depthAll (ls.map intsD) ≤ 2 := by
  induction ls with
  | nil => simp [PyData.canLayAll0, PyData.depthAll]
  | cons x a ih =>
    obtain ⟨h1, h2⟩ := lay_intsD x
    rw [List.map_cons]
    simp [PyData.canLayAll0, PyData.depthAll, ih.1, h1]
    omega
theorem shaped_lists (ls : List (List Int)) : SeqAt.shaped (.list (ls.map intsD)) = true := by
  obtain ⟨h1, h2⟩ := lay_lists ls
  show (PyData.canLay0 (.list (ls.map intsD)) && decide (PyData.depth (.list (ls.map intsD)) ≤ 64)) = true
  have e1 : PyData.canLay0 (.list (ls.map intsD)) = true := by simp [PyData.canLay0, h1]
  have e2 : PyData.depth (.list (ls.map intsD)) ≤ 64 := by simp [PyData.depth]; omega
  rw [e1, decide_eq_true e2]
  rfl
end KC
end
section
set_option Elab.async false
set_option linter.all false
set_option maxRecDepth 100000
set_option maxHeartbeats 4000000
set_option exponentiation.threshold 300000
namespace KC
open PySem PySem.Spec PyProof.Rows L2 DX
set_option autoImplicit false
def r_allfit (ds : List PyData) (d : PyData) : Prop := ∃ (a : List Int) (ls : List (List Int)), ds = [intsD a, .list (ls.map intsD)] ∧ a.length ≤ 1000 ∧ ls.length ≤ 900 ∧ d = .bool (ls.all (fitB a))
def r_lots (ds : List PyData) (d : PyData) : Prop := ∃ n : Nat, Many n ∧ ds = [.int (n : Int)] ∧ d = .list ((lotsOf n).map intsD)
theorem filt_empty (a : List Int) (ls : List (List Int)) : PyData.eqv (.list ((ls.filter fun l => !fitB a l).map intsD)) (.list []) = ls.all (fitB a) := by
  have e : ∀ xs : List (List Int), PyData.eqv (.list (xs.map intsD)) (.list []) = xs.isEmpty := fun xs => by
    cases xs with
    | nil => rfl
    | cons x xs => rfl
  rw [e]
  induction ls with
  | nil => rfl
  | cons x xs ih =>
    rw [List.filter_cons, List.all_cons]
    cases h : fitB a x with
    | true => simp only [Bool.not_true, Bool.false_eq_true, if_false, Bool.true_and]; exact ih
    | false => simp
section
variable {P : Program} {w : World} {K : PySem.W.Frag} {mg : Str → Option Value} {base : Heap}
theorem ok_law_fit (T : Tx K mg) : FnOk P w K mg base CX0 1 T.d_law_fit.fa T.d_law_fit.fd P_law_fit (FP K r_fit) := by
  refine fp_ok T.d_law_fit.F sc_law_fit (fun ds d h => ?_) fun cdv A outer s H E b hK hr ds d h => ?_
  · obtain ⟨a, c, rfl, _⟩ := h
    rfl
  · obtain ⟨a, c, rfl, hz, rfl⟩ := h
    refine sx_cons (sy_asg (i := 2) (S1 := ⟨gStart N_law_fit [.d (intsD a), .d (intsD c)], []⟩) (x := .d (.int (((((a.map PyData.int).filter fun d => decide (i0 d ∈ c)).map id).length : Nat) : Int))) (ev_callB call_len_seq rfl T.n_len PySem.boot_len (ea_cons (x := .d (.list (((a.map PyData.int).filter fun d => decide (i0 d ∈ c)).map id))) (S1 := ⟨gStart N_law_fit [.d (intsD a), .d (intsD c)], []⟩) ?_ ea_nil) (rc_lenL hK.symm)) sc_law_fit.nd rfl (.inl rfl) li ?_)
    · refine ev_lcG1 (S1 := ⟨gStart N_law_fit [.d (intsD a), .d (intsD c)], []⟩) (g := gName 3) [("tip", 3)] (ds := a.map .int) (fun d => [.d (intsD a), .d (intsD c), .no, .d d]) (f := fun d => decide (i0 d ∈ c)) id ?_ ?_ ?_ ?_ ?_ ?_ ?_ ?_ ?_ ?_
      · rfl
      · exact sc_law_fit.nd
      · exact ei_tup hK.symm (vn 0)
      · rw [List.length_map]; exact hz
      · exact blkOk_by (N := N_law_fit) (sc := defScope s_law_fit) (by decide +kernel)
      · exact fun _ _ _ _ _ => pg_name (i := 3) sc_law_fit.nd rfl (.inl rfl)
      · exact fun i d hd => tgb_name (vs := [3]) (j := 3) (g0 := [.d (intsD a), .d (intsD c), .no, .no]) (List.mem_singleton.mpr rfl) li
      · intro i d hd Dl acc s H C cl fp
        obtain ⟨n, _, rfl⟩ := List.mem_map.mp (List.mem_of_getElem? hd)
        exact et_inT hK.symm (vn 3) (vn 1)
      · exact fun i d hd _ Dl acc s H C cl fp => vn 3
      · rfl
    · rw [fit_len]
      refine sx_one (sy_retF (ev_or (ev_eqI (vn 2) ev_int) fun _ => ev_or (ev_eqI (vn 2) ?_) fun _ => ev_one (ev_eqI (vn 2) ?_)))
      · rw [show (a.length : Int) = ((a.map PyData.int).length : Int) by rw [List.length_map]]
        exact (ev_callB call_len_seq rfl T.n_len PySem.boot_len (ea_cons (vn 0) ea_nil) (rc_lenT hK.symm))
      · rw [show (c.length : Int) = ((c.map PyData.int).length : Int) by rw [List.length_map]]
        exact (ev_callB call_len_seq rfl T.n_len PySem.boot_len (ea_cons (vn 1) ea_nil) (rc_lenT hK.symm))
theorem ok_law_all_fit (T : Tx K mg) : FnOk P w K mg base CX0 2 T.d_law_all_fit.fa T.d_law_all_fit.fd P_law_all_fit (FP K r_allfit) := by
  refine fp_ok T.d_law_all_fit.F sc_law_all_fit (fun ds d h => ?_) fun cdv A outer s H E b hK hr ds d h => ?_
  · obtain ⟨a, ls, rfl, _⟩ := h
    rfl
  · obtain ⟨a, ls, rfl, ha, hz, rfl⟩ := h
    rw [← filt_empty]
    have ef : (ls.filter fun l => !fitB a l).map intsD = ((ls.map intsD).filter fun d => !fitB a (intsOf d)).map id := by
      rw [List.map_id, List.filter_map]
      congr 1
      refine List.filter_congr fun l _ => ?_
      show _ = !fitB a (intsOf (intsD l))
      rw [intsOf_ints]
    refine sx_one (sy_retF (S1 := ⟨gStart N_law_all_fit [.d (intsD a), .d (.list (ls.map intsD))], []⟩) (ev_eq hK.symm (Nat.lt_of_le_of_lt (Nat.le_refl _) hr.units) (S1 := ⟨gStart N_law_all_fit [.d (intsD a), .d (.list (ls.map intsD))], []⟩) (d := .list ((ls.filter fun l => !fitB a l).map intsD)) (e := .list []) ?_ (ev_lst (ds := []) ea_nil lq) (shaped_lists _) (by decide)))
    refine ev_lcG1 (S1 := ⟨gStart N_law_all_fit [.d (intsD a), .d (.list (ls.map intsD))], []⟩) (g := gName 2) [("other", 2)] (ds := ls.map intsD) (fun d => [.d (intsD a), .d (.list (ls.map intsD)), .d d]) (f := fun d => !fitB a (intsOf d)) id ?_ ?_ ?_ ?_ ?_ ?_ ?_ ?_ ?_ ?_
    · rfl
    · exact sc_law_all_fit.nd
    · exact ei_lst hK.symm (vn 1)
    · rw [List.length_map]; omega
    · exact blkOk_by (N := N_law_all_fit) (sc := defScope s_law_all_fit) (by decide +kernel)
    · exact fun _ _ _ _ _ => pg_name (i := 2) sc_law_all_fit.nd rfl (.inl rfl)
    · exact fun i d hd => tgb_name (vs := [2]) (j := 2) (g0 := [.d (intsD a), .d (.list (ls.map intsD)), .no]) (List.mem_singleton.mpr rfl) li
    · intro i d hd Dl acc s H C cl fp
      obtain ⟨l, _, rfl⟩ := List.mem_map.mp (List.mem_of_getElem? hd)
      rw [intsOf_ints]
      exact et_not (et_val (ev_call (ok_law_fit T) hK.symm (hr.mono (by decide)) rfl T.d_law_fit.m T.d_law_fit.F.kp T.d_law_fit.b pass0 (ds := [intsD a, intsD l]) (ea_cons (vn 0) (ea_cons (vn 2) ea_nil)) ⟨_, _, rfl, ha, rfl⟩))
    · exact fun i d hd _ Dl acc s H C cl fp => vn 2
    · rw [ef]
theorem lots_filt (n : Nat) : ((fl n).filter (lotB n)).map intsD = (((fl n).map intsD).filter fun d => decide (1 < ((intsOf d).length : Int)) && decide (((intsOf d).length : Int) < (n : Int))).map id := by
  rw [List.map_id, List.filter_map]
  congr 1
  refine List.filter_congr fun l _ => ?_
  show _ = (decide (1 < ((intsOf (intsD l)).length : Int)) && decide (((intsOf (intsD l)).length : Int) < (n : Int)))
  rw [intsOf_ints]
  rfl
theorem ok_law_lots (T : Tx K mg) : FnOk P w K mg base CX0 1 T.d_law_lots.fa T.d_law_lots.fd P_law_lots (FP K r_lots) := by
  refine fp_ok T.d_law_lots.F sc_law_lots (fun ds d h => ?_) fun cdv A outer s H E b hK hr ds d h => ?_
  · obtain ⟨n, _, rfl, _⟩ := h
    rfl
  · obtain ⟨n, hm, rfl, rfl⟩ := h
    have hn6 : n ≤ 6 := by rcases hm with rfl | rfl | rfl | rfl <;> decide
    have hcnt : ((n : Int) + 1 - 1).toNat = n := by omega
    refine sx_cons (sy_asg (i := 1) (ev_lst (ds := [.tuple []]) (ea_cons (ev_tup (ds := []) ea_nil lq) ea_nil) lq) sc_law_lots.nd rfl (.inl rfl) li ?_)
    refine sx_cons (sy_forG (g := gName 2) (ds := (intsFrom 1 ((n : Int) + 1 - 1).toNat).map .int) (S1 := ⟨[.d (.int n), .d (.list [.tuple []]), .no, .no], []⟩) PassesOwn.never rfl (ei_rng2 rfl T.n_range ev_int (ev_add (vn 0) ev_int) (by refine ⟨by decide, by decide, ?_, ?_⟩ <;> omega)) (pg_name (i := 2) sc_law_lots.nd rfl (.inr rfl)) (fun i S' => ∃ v, S' = ⟨[.d (.int n), .d (.list ((fl i).map intsD)), v, .no], []⟩) ⟨_, rfl⟩ (fun i d S' hd hW => ?_) fun S' hW => ?_)
    · obtain ⟨v, rfl⟩ := hW
      have hi : i < n := by
        have := (List.getElem?_eq_some_iff.mp hd).1
        rw [List.length_map, intsFrom_len, hcnt] at this
        exact this
      have ed : d = .int ((i : Int) + 1) := by
        rw [List.getElem?_map, intsFrom_get (by omega)] at hd
        cases (Option.some.inj hd)
        rw [Int.add_comm]
      subst ed
      refine ⟨⟨[.d (.int n), .d (.list ((fl i).map intsD)), .d (.int ((i : Int) + 1)), .no], []⟩, tg_name (S := ⟨[.d (.int n), .d (.list ((fl i).map intsD)), v, .no], []⟩) (i := 2) li, rfl, ?_⟩
      have fz : ∀ i, i < 6 → (fl i).length ≤ 64 ∧ ∀ l ∈ fl i, l.length ≤ 8 := by decide +kernel
      obtain ⟨z1, z2⟩ := fz i (by omega)
      refine sx_one (sy_asg (i := 1) (x := .d (.list ((fl (i + 1)).map intsD))) (S1 := ⟨[.d (.int n), .d (.list ((fl i).map intsD)), .d (.int ((i : Int) + 1)), .no], []⟩) ?_ sc_law_lots.nd rfl (.inl rfl) li ⟨_, rfl⟩)
      have e : (fl (i + 1)).map intsD = (fl i).map intsD ++ (((fl i).map intsD).map fun d => .tuple ((intsOf d).map .int ++ [.int ((i : Int) + 1)])) := by
        show (fl i ++ (fl i).map fun l => l ++ [((i : Int) + 1)]).map intsD = _
        rw [List.map_append, List.map_map, List.map_map]
        congr 1
        refine List.map_congr_left fun l _ => ?_
        show PyData.tuple ((l ++ [((i : Int) + 1)]).map .int) = .tuple ((intsOf (intsD l)).map .int ++ [.int ((i : Int) + 1)])
        rw [intsOf_ints, List.map_append]
        rfl
      rw [e]
      refine ev_catL hK.symm (vn 1) (S2 := ⟨[.d (.int n), .d (.list ((fl i).map intsD)), .d (.int ((i : Int) + 1)), .no], []⟩) ?_ (by simp only [List.length_map]; omega)
      refine ev_lcG0 (S1 := ⟨[.d (.int n), .d (.list ((fl i).map intsD)), .d (.int ((i : Int) + 1)), .no], []⟩) (g := gName 3) [("lot", 3)] (ds := (fl i).map intsD) (fun d => [.d (.int n), .d (.list ((fl i).map intsD)), .d (.int ((i : Int) + 1)), .d d]) (fun d => .tuple ((intsOf d).map .int ++ [.int ((i : Int) + 1)])) ?_ ?_ ?_ ?_ ?_ ?_ ?_ ?_ ?_
      · rfl
      · exact sc_law_lots.nd
      · exact ei_lst hK.symm (vn 1)
      · rw [List.length_map]; omega
      · exact blkOk_by (N := N_law_lots) (sc := defScope s_law_lots) (by decide +kernel)
      · exact fun _ _ _ _ _ => pg_name (i := 3) sc_law_lots.nd rfl (.inl rfl)
      · exact fun k d hd => tgb_name (vs := [3]) (j := 3) (g0 := [.d (.int n), .d (.list ((fl i).map intsD)), .d (.int ((i : Int) + 1)), .no]) (List.mem_singleton.mpr rfl) li
      · intro k d hd Dl acc s H C cl fp
        obtain ⟨l, hl, rfl⟩ := List.mem_map.mp (List.mem_of_getElem? hd)
        rw [intsOf_ints]
        exact ev_catT (ds := l.map .int) hK.symm (vn 3) (ev_tup (ds := [_]) (ea_cons (vn 2) ea_nil) lq) (by have := z2 l hl; rw [List.length_map]; simp; omega)
      · rfl
    · obtain ⟨v, rfl⟩ := hW
      have e3 : ((intsFrom 1 ((n : Int) + 1 - 1).toNat).map PyData.int).length = n := by rw [List.length_map, intsFrom_len, hcnt]
      rw [e3]
      obtain ⟨f1, f2, f3, f4⟩ := lots_facts hm
      have fz : ∀ i, i < 7 → (fl i).length ≤ 64 := by decide +kernel
      have z1 := fz n (by omega)
      refine sx_one (sy_retF (S1 := ⟨[.d (.int n), .d (.list ((fl n).map intsD)), v, .no], []⟩) (ev_callB (SG.cr_sortG (Ad := Ad6) (f := key) ad_ne ad_key) rfl T.n_sorted (by decide +kernel) (ea_cons (S1 := ⟨[.d (.int n), .d (.list ((fl n).map intsD)), v, .no], []⟩) (x := .d (.list (((fl n).filter (lotB n)).map intsD))) ?_ ea_nil) (SG.rc_sortG (ls := (fl n).filter (lotB n)) hK.symm f3 f4 f1 f2)))
      refine ev_lcG1 (S1 := ⟨[.d (.int n), .d (.list ((fl n).map intsD)), v, .no], []⟩) (g := gName 3) [("lot", 3)] (ds := (fl n).map intsD) (fun d => [.d (.int n), .d (.list ((fl n).map intsD)), v, .d d]) (f := fun d => decide (1 < ((intsOf d).length : Int)) && decide (((intsOf d).length : Int) < (n : Int))) id ?_ ?_ ?_ ?_ ?_ ?_ ?_ ?_ ?_ ?_
      · rfl
      · exact sc_law_lots.nd
      · exact ei_lst hK.symm (vn 1)
      · rw [List.length_map]; omega
      · exact blkOk_by (N := N_law_lots) (sc := defScope s_law_lots) (by decide +kernel)
      · exact fun _ _ _ _ _ => pg_name (i := 3) sc_law_lots.nd rfl (.inl rfl)
      · exact fun k d hd => tgb_name (vs := [3]) (j := 3) (g0 := [.d (.int n), .d (.list ((fl n).map intsD)), v, .no]) (List.mem_singleton.mpr rfl) li
      · intro k d hd Dl acc s H C cl fp
        obtain ⟨l, hl, rfl⟩ := List.mem_map.mp (List.mem_of_getElem? hd)
        rw [intsOf_ints]
        rw [show (l.length : Int) = ((l.map PyData.int).length : Int) by rw [List.length_map]]
        exact et_chain op_lt op_lt rfl ev_int (ev_callB call_len_seq rfl T.n_len PySem.boot_len (ea_cons (vn 3) ea_nil) (rc_lenT hK.symm)) (vn 0) (rv_I0 fun _ => .bl _) (rv_I0 fun _ => .bl _)
      · exact fun k d hd _ Dl acc s H C cl fp => vn 3
      · rw [lots_filt]
end
end KC
end
section
set_option Elab.async false
set_option linter.all false
set_option maxRecDepth 100000
set_option maxHeartbeats 4000000
set_option exponentiation.threshold 300000
namespace KC
open PySem PySem.Spec PyProof.Rows L2 DX
set_option autoImplicit false
/-! drawn lengths, shapes, trees -/
structure LenOk (p : Int × Int) : Prop where
  l0 : 0 < p.2
  l2 : p.2 ≤ 2
  t0 : 0 < p.1
  t5 : p.1 ≤ 500 * p.2
  g : Nat.gcd p.1.natAbs p.2.natAbs = 1
theorem lenOk_whole {i : Int} (h0 : 0 < i) (h1 : i ≤ 500) : LenOk (i, 1) := ⟨by show (0 : Int) < 1; decide, by show (1 : Int) ≤ 2; decide, h0, by simp; omega, by simp⟩
def halfB (n : Nat) : Bool := decide (0 < (red (1 + (n : Int)) 2).2) && decide ((red (1 + (n : Int)) 2).2 ≤ 2) && decide (0 < (red (1 + (n : Int)) 2).1) && decide ((red (1 + (n : Int)) 2).1 ≤ 500 * (red (1 + (n : Int)) 2).2) && decide (Nat.gcd (red (1 + (n : Int)) 2).1.natAbs (red (1 + (n : Int)) 2).2.natAbs = 1)
theorem half_all : ∀ n, n < 30 → halfB n = true := by decide +kernel
theorem lenOk_half {i : Int} (h0 : 0 ≤ i) (h1 : i < 30) : LenOk (red (1 + i) 2) := by
  obtain ⟨n, rfl⟩ : ∃ n : Nat, i = (n : Int) := ⟨i.toNat, by omega⟩
  have := half_all n (by omega)
  unfold halfB at this
  simp only [Bool.and_eq_true, decide_eq_true_eq] at this
  obtain ⟨⟨⟨⟨a, b⟩, c⟩, d⟩, e⟩ := this
  exact ⟨a, b, c, d, e⟩
def q4 (i : Int) : Int := [2, 4, 9, 20].getD i.toNat 0
theorem q4_ok {i : Int} (h0 : 0 ≤ i) (h1 : i < 4) : 0 < q4 i ∧ q4 i ≤ 20 ∧ atI [PyData.int 2, .int 4, .int 9, .int 20] i = some (.int (q4 i)) := by
  rcases (by omega : i = 0 ∨ i = 1 ∨ i = 2 ∨ i = 3) with rfl | rfl | rfl | rfl <;> exact ⟨by decide, by decide, rfl⟩
def lenRow (R : Row) : (Int × Int) × Row :=
  if (R.step 8).1 < 4 then ((1 + ((R.step 8).2.step (q4 (R.step 8).1)).1, 1), ((R.step 8).2.step (q4 (R.step 8).1)).2)
  else if (R.step 8).1 = 4 then ((1 + ((R.step 8).2.step 500).1, 1), ((R.step 8).2.step 500).2)
  else (red (1 + ((R.step 8).2.step 30).1) 2, ((R.step 8).2.step 30).2)
theorem lenRow_ok {R : Row} (h : R.Ok) : (lenRow R).2.Ok ∧ LenOk (lenRow R).1 := by
  obtain ⟨h1, a0, a1⟩ := Row.step_ok h (m := 8) (by decide)
  unfold lenRow
  split
  · obtain ⟨z0, z1, _⟩ := q4_ok a0 (by assumption)
    obtain ⟨h2, b0, b1⟩ := Row.step_ok h1 z0
    exact ⟨h2, lenOk_whole (by omega) (by omega)⟩
  · split
    · obtain ⟨h2, b0, b1⟩ := Row.step_ok h1 (m := 500) (by decide)
      exact ⟨h2, lenOk_whole (by omega) (by omega)⟩
    · obtain ⟨h2, b0, b1⟩ := Row.step_ok h1 (m := 30) (by decide)
      exact ⟨h2, lenOk_half b0 b1⟩
def r_llen (ms ds : List PyData) (d : PyData) (ms' : List PyData) : Prop := ∃ R : Row, R.Ok ∧ ms = R.ms ∧ ds = [] ∧ d = frD (lenRow R).1 ∧ ms' = (lenRow R).2.ms
section
variable {P : Program} {w : World} {K : PySem.W.Frag} {mg : Str → Option Value} {base : Heap}
abbrev gLen (a : Addr) (v : DV) (R : Row) : DS := ⟨[.m a, v], [(a, .lst R.ms)]⟩
theorem ok_law_length (T : Tx K mg) : FnOk P w K mg base CX0 2 T.d_law_length.fa T.d_law_length.fd P_law_length (MP K r_llen) := by
  refine mp_ok T.d_law_length.F sc_law_length (fun ms ds d ms' h => ?_) fun cdv A outer s H E b a hK hfx hr ms ds d ms' h => ?_
  · obtain ⟨R, _, _, rfl, _⟩ := h
    rfl
  · obtain ⟨R, hR, rfl, rfl, rfl, rfl⟩ := h
    show SX _ _ _ (gLen a .no R) _
    obtain ⟨h1, a0, a1⟩ := Row.step_ok hR (m := 8) (by decide)
    refine sx_cons (sy_asg (i := 1) (S1 := DS.setm (gLen a .no R) a (.lst (R.step 8).2.ms)) (ev_callM (ok_law_taken T) hK.symm hr rfl T.d_law_taken.m T.d_law_taken.F.kp T.d_law_taken.b pass0 (ds := [.int 8]) (ms := R.ms) (ea_cons (vn 0) (ea_cons ev_int ea_nil)) (List.mem_singleton.mpr rfl) ⟨R, _, hR, rfl, rfl, by decide, by unfold Sz; decide, rfl, rfl⟩) sc_law_length.nd rfl (.inl rfl) li ?_)
    rw [setm1]
    show SX _ _ _ (gLen a (.d (.int (R.step 8).1)) (R.step 8).2) _
    refine sx_cons (sy_if (et_lt (vn 1) ev_int) (fun h => ?_) fun h => ?_)
    · have h : (R.step 8).1 < 4 := of_decide_eq_true h
      obtain ⟨z0, z1, z2⟩ := q4_ok a0 h
      have e : lenRow R = ((1 + ((R.step 8).2.step (q4 (R.step 8).1)).1, 1), ((R.step 8).2.step (q4 (R.step 8).1)).2) := by unfold lenRow; rw [if_pos h]
      rw [e]
      refine sx_one (sy_retM (S1 := DS.setm (gLen a (.d (.int (R.step 8).1)) (R.step 8).2) a (.lst ((R.step 8).2.step (q4 (R.step 8).1)).2.ms)) (ev_tup (ds := [.int (1 + ((R.step 8).2.step (q4 (R.step 8).1)).1), .int 1]) (ea_cons (ev_add ev_int (ev_callM (ok_law_taken T) hK.symm hr rfl T.d_law_taken.m T.d_law_taken.F.kp T.d_law_taken.b pass0 (ds := [.int (q4 (R.step 8).1)]) (ms := (R.step 8).2.ms) (ea_cons (vn 0) (ea_cons (ev_ixL hK.symm (ev_lst (ds := [.int 2, .int 4, .int 9, .int 20]) (ea_cons ev_int (ea_cons ev_int (ea_cons ev_int (ea_cons ev_int ea_nil)))) lq) (vn 1) z2) ea_nil)) (List.mem_singleton.mpr rfl) ⟨(R.step 8).2, _, h1, rfl, rfl, z0, by unfold Sz; omega, rfl, rfl⟩)) (ea_cons ev_int ea_nil)) lq) ?_)
      rw [setm1]
      exact List.mem_singleton.mpr rfl
    · have h : ¬ (R.step 8).1 < 4 := of_decide_eq_false h
      refine sx_nil (sx_cons (sy_if (et_eqI (vn 1) ev_int) (fun h2 => ?_) fun h2 => ?_))
      · have h2 : (R.step 8).1 = 4 := of_decide_eq_true h2
        have e : lenRow R = ((1 + ((R.step 8).2.step 500).1, 1), ((R.step 8).2.step 500).2) := by unfold lenRow; rw [if_neg h, if_pos h2]
        rw [e]
        refine sx_one (sy_retM (S1 := DS.setm (gLen a (.d (.int (R.step 8).1)) (R.step 8).2) a (.lst ((R.step 8).2.step 500).2.ms)) (ev_tup (ds := [.int (1 + ((R.step 8).2.step 500).1), .int 1]) (ea_cons (ev_add ev_int (ev_callM (ok_law_taken T) hK.symm hr rfl T.d_law_taken.m T.d_law_taken.F.kp T.d_law_taken.b pass0 (ds := [.int 500]) (ms := (R.step 8).2.ms) (ea_cons (vn 0) (ea_cons ev_int ea_nil)) (List.mem_singleton.mpr rfl) ⟨(R.step 8).2, _, h1, rfl, rfl, by decide, by unfold Sz; decide, rfl, rfl⟩)) (ea_cons ev_int ea_nil)) lq) ?_)
        rw [setm1]
        exact List.mem_singleton.mpr rfl
      · have h2 : ¬ (R.step 8).1 = 4 := of_decide_eq_false h2
        have e : lenRow R = (red (1 + ((R.step 8).2.step 30).1) 2, ((R.step 8).2.step 30).2) := by unfold lenRow; rw [if_neg h, if_neg h2]
        rw [e]
        refine sx_nil (sx_one (sy_retM (S1 := DS.setm (gLen a (.d (.int (R.step 8).1)) (R.step 8).2) a (.lst ((R.step 8).2.step 30).2.ms)) (ev_call (ok_law_fr T) hK.symm (hr.mono (by decide)) rfl T.d_law_fr.m T.d_law_fr.F.kp T.d_law_fr.b pass0 (ds := [.int (1 + ((R.step 8).2.step 30).1), .int 2]) (ea_cons (ev_add ev_int (ev_callM (ok_law_taken T) hK.symm hr rfl T.d_law_taken.m T.d_law_taken.F.kp T.d_law_taken.b pass0 (ds := [.int 30]) (ms := (R.step 8).2.ms) (ea_cons (vn 0) (ea_cons ev_int ea_nil)) (List.mem_singleton.mpr rfl) ⟨(R.step 8).2, _, h1, rfl, rfl, by decide, by unfold Sz; decide, rfl, rfl⟩)) (ea_cons ev_int ea_nil)) ⟨_, _, rfl, by decide, by unfold Sz; decide, rfl⟩) ?_))
        rw [setm1]
        exact List.mem_singleton.mpr rfl
end
theorem hu_of65 {k : Nat} {A : Around} (r : Room k A) : A.units + 65 < cLine := by have := r.un; omega
def hasL (ls : List (List Int)) (l : List Int) : Bool := ls.any fun z => decide (z = l)
def freeL (n : Nat) (ls : List (List Int)) : List (List Int) := (lotsOf n).filter fun l => !hasL ls l && ls.all (fitB l)
def shStep (n : Nat) (p : List (List Int) × Row) : List (List Int) × Row := if freeL n p.1 = [] then p else (p.1 ++ [(freeL n p.1).getD (p.2.step ((freeL n p.1).length : Int)).1.toNat []], (p.2.step ((freeL n p.1).length : Int)).2)
def shN (n : Nat) (R : Row) : Nat → List (List Int) × Row
  | 0 => ([], R)
  | k + 1 => shStep n (shN n R k)
structure ShOk (n : Nat) (ls : List (List Int)) : Prop where
  sub : ∀ l ∈ ls, l ∈ lotsOf n
  nd : ls.Nodup
  fit : ∀ a ∈ ls, ∀ c ∈ ls, fitB a c = true
theorem getD_in {α : Type} {xs : List α} {i : Nat} (h : i < xs.length) (z : α) : xs.getD i z ∈ xs := by
  rw [List.getD_eq_getElem?_getD, List.getElem?_eq_getElem h]
  exact List.getElem_mem h
theorem shStep_ok {n : Nat} (hm : Many n) {p : List (List Int) × Row} (h : ShOk n p.1) (hR : p.2.Ok) : ShOk n (shStep n p).1 ∧ (shStep n p).2.Ok ∧ (shStep n p).1.length ≤ p.1.length + 1 := by
  unfold shStep
  split
  · exact ⟨h, hR, by omega⟩
  · rename_i hne
    have l0 : (0 : Int) < ((freeL n p.1).length : Int) := by
      have := List.length_pos_iff.mpr hne
      omega
    obtain ⟨o, q1, q2⟩ := Row.step_ok hR l0
    have hin : (freeL n p.1).getD (p.2.step ((freeL n p.1).length : Int)).1.toNat [] ∈ freeL n p.1 := getD_in (by omega) _
    generalize (freeL n p.1).getD (p.2.step ((freeL n p.1).length : Int)).1.toNat [] = l at hin
    unfold freeL at hin
    obtain ⟨m1, m2⟩ := List.mem_filter.mp hin
    rw [Bool.and_eq_true] at m2
    obtain ⟨m2, m3⟩ := m2
    have hnot : l ∉ p.1 := fun q => by
      have : hasL p.1 l = true := List.any_eq_true.mpr ⟨l, q, decide_eq_true rfl⟩
      rw [this] at m2
      cases m2
    have m3 := List.all_eq_true.mp m3
    have ad := lots_ad hm
    refine ⟨⟨fun z hz => ?_, ?_, fun a ha c hc => ?_⟩, o, by simp⟩
    · rcases List.mem_append.mp hz with hz | hz
      · exact h.sub z hz
      · rw [List.mem_singleton.mp hz]; exact m1
    · exact List.nodup_append.mpr ⟨h.nd, by simp, fun a ha c hc e => by
        rw [List.mem_singleton.mp hc] at e
        exact hnot (e ▸ ha)⟩
    · rcases List.mem_append.mp ha with ha | ha
      · rcases List.mem_append.mp hc with hc | hc
        · exact h.fit a ha c hc
        · rw [List.mem_singleton.mp hc, fit_sym (ad a (h.sub a ha)) (ad l m1)]
          exact m3 a ha
      · rw [List.mem_singleton.mp ha]
        rcases List.mem_append.mp hc with hc | hc
        · exact m3 c hc
        · rw [List.mem_singleton.mp hc]
          exact fit_self (ad l m1)
theorem shN_ok {n : Nat} (hm : Many n) {R : Row} (hR : R.Ok) : ∀ k, ShOk n (shN n R k).1 ∧ (shN n R k).2.Ok ∧ (shN n R k).1.length ≤ k
  | 0 => ⟨⟨fun l h => absurd h (by simp [shN]), by simp [shN], fun a h => absurd h (by simp [shN])⟩, hR, by simp [shN]⟩
  | k + 1 => by
    obtain ⟨h1, h2, h3⟩ := shN_ok hm hR k
    obtain ⟨g1, g2, g3⟩ := shStep_ok hm h1 h2
    exact ⟨g1, g2, by show (shStep n (shN n R k)).1.length ≤ k + 1; omega⟩
theorem free_filt (n : Nat) (ls : List (List Int)) : (freeL n ls).map intsD = (((lotsOf n).map intsD).filter fun d => (!(ls.map intsD).any fun z => PyData.eqv z d) && ls.all (fitB (intsOf d))).map id := by
  rw [List.map_id, List.filter_map]
  unfold freeL
  congr 1
  refine List.filter_congr fun l _ => ?_
  show (!hasL ls l && ls.all (fitB l)) = ((!(ls.map intsD).any fun z => PyData.eqv z (intsD l)) && ls.all (fitB (intsOf (intsD l))))
  rw [intsOf_ints]
  have e : ((ls.map intsD).any fun z => PyData.eqv z (intsD l)) = hasL ls l := by
    rw [List.any_map]
    unfold hasL
    congr 1
    funext z
    exact eqv_ints z l
  rw [e]
theorem eqv_nilL (xs : List (List Int)) : PyData.eqv (.list (xs.map intsD)) (.list []) = xs.isEmpty := by
  cases xs with
  | nil => rfl
  | cons x xs => rfl
theorem lots_count {n : Nat} (hm : Many n) : (lotsOf n).length < 64 := by
  obtain ⟨f1, _, f3, _⟩ := lots_facts hm
  rw [f1.length_eq]; exact f3
def r_lshape (ms ds : List PyData) (d : PyData) (ms' : List PyData) : Prop := ∃ (n : Nat) (R : Row) (k : Nat), Many n ∧ R.Ok ∧ k ≤ 10 ∧ ms = R.ms ∧ ds = [.int (n : Int), .tuple [], .int (k : Int)] ∧ d = .tuple ((isort (shN n R k).1).map intsD) ∧ ms' = (shN n R k).2.ms
section
variable {P : Program} {w : World} {K : PySem.W.Frag} {mg : Str → Option Value} {base : Heap}
abbrev gSh (a c : Addr) (n k : Nat) (u v z : DV) (R : Row) (ls : List (List Int)) : DS := ⟨[.m a, .d (.int (n : Int)), .d (.tuple []), .d (.int (k : Int)), .m c, u, v, z], [(a, .lst R.ms), (c, .lst (ls.map intsD))]⟩
theorem ok_law_shape (T : Tx K mg) : FnOk P w K mg base CX0 3 T.d_law_shape.fa T.d_law_shape.fd P_law_shape (MP K r_lshape) := by
  refine mp_ok T.d_law_shape.F sc_law_shape (fun ms ds d ms' h => ?_) fun cdv A outer s H E b a hK hfx hr ms ds d ms' h => ?_
  · obtain ⟨n, R, k, _, _, _, _, rfl, _⟩ := h
    rfl
  · obtain ⟨n, R, k, hm, hR, k1, rfl, rfl, rfl, rfl⟩ := h
    refine sx_cons (sy_newLF (i := 4) (ds := []) (S1 := ⟨gStart N_law_shape (.m a :: [PyData.int (n : Int), .tuple [], .int (k : Int)].map .d), [(a, .lst R.ms)]⟩) hK.symm rfl T.n_list (vn 2) sc_law_shape.nd rfl (.inr rfl) li fun c => ?_)
    show SX _ _ _ (gSh a c n k .no .no .no R []) _
    by_cases hac : a = c
    · exact sx_vac (by subst hac; simp [DS.as])
    have hcf : c ∉ b.fx := by rw [hfx]; simp; exact fun e => hac e.symm
    have hcnt : ((if (k : Int) - 0 > 0 then (k : Int) - 0 else 0 : Int)).toNat = k := by split <;> omega
    refine sx_cons (sy_forG (g := gName 5) (ds := (intsFrom 0 ((if (k : Int) - 0 > 0 then (k : Int) - 0 else 0 : Int)).toNat).map .int) (S1 := gSh a c n k .no .no .no R []) PassesOwn.never rfl (ei_rng1 rfl T.n_range (ev_callB (call_max2 rfl) rfl T.n_max (by decide +kernel) (ea_cons ev_int (ea_cons (ev_sub (vn 3) (ev_callB call_len_seq rfl T.n_len PySem.boot_len (ea_cons (vn 2) ea_nil) (rc_lenT (ds := []) hK.symm))) ea_nil)) rc_max2) (by constructor <;> split <;> omega)) (pg_name (i := 5) sc_law_shape.nd rfl (.inl rfl))
      (fun i S' => ∃ u v z, S' = gSh a c n k u v z (shN n R i).2 (shN n R i).1) ⟨_, _, _, rfl⟩ (fun i d S' hd hW => ?_) fun S' hW => ?_)
    · obtain ⟨u, v, z, rfl⟩ := hW
      have hi : i < k := by
        have := (List.getElem?_eq_some_iff.mp hd).1
        rwa [List.length_map, intsFrom_len, hcnt] at this
      obtain ⟨q1, q2, q3⟩ := shN_ok hm hR i
      have hS : shN n R (i + 1) = shStep n (shN n R i) := rfl
      generalize hp : shN n R i = p at q1 q2 q3 hS
      obtain ⟨ls, R1⟩ := p
      have q3 : ls.length ≤ i := q3
      refine ⟨gSh a c n k (.d d) v z R1 ls, tg_name (S := gSh a c n k u v z R1 ls) (i := 5) li, rfl, ?_⟩
      generalize DV.d d = u
      refine sx_cons (sy_setLcG1 (k := 6) (z := .list ((freeL n ls).map intsD)) (S1 := gSh a c n k u v z R1 ls) (g := gName 7) [("lot", 7)] (ds := (lotsOf n).map intsD) (fun d => [.m a, .d (.int (n : Int)), .d (.tuple []), .d (.int (k : Int)), .m c, u, v, .d d]) (f := fun d => (!(ls.map intsD).any fun z => PyData.eqv z d) && ls.all (fitB (intsOf d))) id ?_ ?_ ?_ ?_ ?_ ?_ ?_ ?_ ?_ ?_ rfl rfl li ?_ rfl)
      · rfl
      · exact sc_law_shape.nd
      · exact ei_lst hK.symm (ev_call (ok_law_lots T) hK.symm (hr.mono (by decide)) rfl T.d_law_lots.m T.d_law_lots.F.kp T.d_law_lots.b pass0 (ds := [.int (n : Int)]) (ea_cons (vn 1) ea_nil) ⟨n, hm, rfl, rfl⟩)
      · rw [List.length_map]; have := lots_count hm; omega
      · exact blkOk_by (N := N_law_shape) (sc := defScope s_law_shape) (by decide +kernel)
      · exact fun _ _ _ _ _ => pg_name (i := 7) sc_law_shape.nd rfl (.inl rfl)
      · exact fun i d hd => tgb_name (vs := [7]) (j := 7) (g0 := [.m a, .d (.int (n : Int)), .d (.tuple []), .d (.int (k : Int)), .m c, u, v, .no]) (List.mem_singleton.mpr rfl) li
      · intro i d hd Dl acc s H C cl fp
        obtain ⟨l, hl, rfl⟩ := List.mem_map.mp (List.mem_of_getElem? hd)
        have hin : (c, MO.lst (ls.map intsD)) ∈ (⟨[.m a, .d (.int (n : Int)), .d (.tuple []), .d (.int (k : Int)), .m c, u, v, .d (intsD l)], (gSh a c n k u v z R1 ls).m ++ [(Dl, .lst acc)]⟩ : DS).m := List.mem_append.mpr (.inl (List.mem_cons_of_mem _ (List.mem_singleton.mpr rfl)))
        rw [intsOf_ints]
        have hl6 := lots_len hm l hl
        refine et_w (ew_and ?_ fun _ => et_and1 (et_val ?_))
        · exact et_notInM (ms := ls.map intsD) hK.symm (hu_of65 hr) (vn 7) (vn 4) hin (shaped_ints l) (shaped_lists ls)
        · exact ev_callRd (ok_law_all_fit T) hK.symm (hr.mono (by decide)) rfl T.d_law_all_fit.m T.d_law_all_fit.F.kp T.d_law_all_fit.b pass0 (ea_cons (vn 7) (ea_cons (vn 4) ea_nil)) hin ⟨l, ls, rfl, by omega, by omega, rfl⟩
      · exact fun i d hd _ Dl acc s H C cl fp => vn 7
      · rw [free_filt]
      · show SX _ _ _ (gSh a c n k u (.d (.list ((freeL n ls).map intsD))) z R1 ls) _
        refine sx_one (sy_if (t := !PyData.eqv (.list ((freeL n ls).map intsD)) (.list [])) (et_ne hK.symm (Nat.lt_of_le_of_lt (Nat.le_refl _) hr.units) (vn 6) (ev_lst (ds := []) ea_nil lq) (shaped_lists _) (by decide)) (fun h => ?_) fun h => ?_)
        · have hne : freeL n ls ≠ [] := fun e => by rw [e] at h; cases h
          have l0 : (0 : Int) < ((freeL n ls).length : Int) := by
            have := List.length_pos_iff.mpr hne
            omega
          have hlen : ((freeL n ls).map intsD).length = (freeL n ls).length := List.length_map _
          obtain ⟨o, w1, w2⟩ := Row.step_ok q2 (m := ((freeL n ls).length : Int)) l0
          have w1 : 0 ≤ (R1.step ((freeL n ls).length : Int)).1 := w1
          have w2 : (R1.step ((freeL n ls).length : Int)).1 < ((freeL n ls).length : Int) := w2
          refine sx_one (sy_append (a := c) (ms := ls.map intsD) (d := intsD ((freeL n ls).getD (R1.step ((freeL n ls).length : Int)).1.toNat [])) (S1 := DS.setm (gSh a c n k u (.d (.list ((freeL n ls).map intsD))) z R1 ls) a (.lst (R1.step ((freeL n ls).length : Int)).2.ms)) (vn 4) ?_ (List.mem_cons_of_mem _ (List.mem_singleton.mpr rfl)) ?_ (by rw [List.length_map]; omega) ?_)
          · refine ev_callM (ok_law_pick T) hK.symm (hr.mono (by decide)) rfl T.d_law_pick.m T.d_law_pick.F.kp T.d_law_pick.b pass0 (ds := [.list ((freeL n ls).map intsD)]) (ms := R1.ms) (ea_cons (vn 0) (ea_cons (vn 6) ea_nil)) List.mem_cons_self ⟨R1, (freeL n ls).map intsD, q2, rfl, rfl, fun e => hne (List.map_eq_nil_iff.mp e), ?_, ?_, ?_⟩
            · rw [hlen]
              have : (freeL n ls).length ≤ (lotsOf n).length := List.length_filter_le _ _
              have := lots_count hm
              omega
            · rw [hlen]
              have hlt : (R1.step ((freeL n ls).length : Int)).1.toNat < (freeL n ls).length := by omega
              rw [List.getD_eq_getElem?_getD, List.getD_eq_getElem?_getD, List.getElem?_map, List.getElem?_eq_getElem hlt]
              rfl
            · rw [hlen]
          · rw [DS.setm, setM]
            simp [hac]
            intro e
            exact absurd e.symm hac
          · refine ⟨u, .d (.list ((freeL n ls).map intsD)), z, ?_⟩
            rw [hS]
            have e : shStep n (ls, R1) = (ls ++ [(freeL n ls).getD (R1.step ((freeL n ls).length : Int)).1.toNat []], (R1.step ((freeL n ls).length : Int)).2) := by
              unfold shStep
              rw [if_neg hne]
            rw [e]
            unfold DS.setm setM
            simp [hac, Ne.symm hac]
        · have he : freeL n ls = [] := by
            rw [eqv_nilL] at h
            cases hq : freeL n ls with
            | nil => rfl
            | cons x xs => rw [hq] at h; cases h
          refine sx_nil ⟨u, .d (.list ((freeL n ls).map intsD)), z, ?_⟩
          rw [hS]
          have e : shStep n (ls, R1) = (ls, R1) := by
            unfold shStep
            rw [if_pos he]
          rw [e]
    · obtain ⟨u, v, z, rfl⟩ := hW
      rw [List.length_map, intsFrom_len, hcnt]
      obtain ⟨q1, q2, q3⟩ := shN_ok hm hR k
      generalize hp : shN n R k = p at q1 q2 q3
      obtain ⟨ls, R'⟩ := p
      refine sx_frz (a := c) (ms := ls.map intsD) (List.mem_cons_of_mem _ (List.mem_singleton.mpr rfl)) hcf ?_
      have ef : (gSh a c n k u v z R' ls).frz c (.list (ls.map intsD)) = ⟨[.m a, .d (.int (n : Int)), .d (.tuple []), .d (.int (k : Int)), .d (.list (ls.map intsD)), (match u with | .m c' => if c' = c then .d (.list (ls.map intsD)) else .m c' | v => v), (match v with | .m c' => if c' = c then .d (.list (ls.map intsD)) else .m c' | v => v), (match z with | .m c' => if c' = c then .d (.list (ls.map intsD)) else .m c' | v => v)], [(a, .lst R'.ms)]⟩ := by
        unfold DS.frz
        simp [hac] <;> trivial
      rw [ef]
      generalize (match u with | .m c' => if c' = c then DV.d (.list (ls.map intsD)) else .m c' | v => v) = u'
      generalize (match v with | .m c' => if c' = c then DV.d (.list (ls.map intsD)) else .m c' | v => v) = v'
      generalize (match z with | .m c' => if c' = c then DV.d (.list (ls.map intsD)) else .m c' | v => v) = z'
      have had : ∀ l ∈ ls, Ad6 l := fun l hl => lots_ad hm l (q1.sub l hl)
      exact sx_one (sy_retM (S1 := ⟨[.m a, .d (.int (n : Int)), .d (.tuple []), .d (.int (k : Int)), .d (.list (ls.map intsD)), u', v', z'], [(a, .lst R'.ms)]⟩) (ev_tupleL hK.symm rfl T.n_tuple (ev_callB (SG.cr_sortG (Ad := Ad6) (f := key) ad_ne ad_key) rfl T.n_sorted (by decide +kernel) (ea_cons (vn 4) ea_nil) (SG.rc_sortG (ls := ls) (ms := isort ls) hK.symm (by have q3 : ls.length ≤ k := q3; omega) had (isort_perm ls) (isort_sorted ls had q1.nd)))) (List.mem_singleton.mpr rfl))
end
end KC
end
section
set_option Elab.async false
set_option linter.all false
set_option maxRecDepth 100000
set_option maxHeartbeats 4000000
set_option exponentiation.threshold 300000
namespace KC
open PySem PySem.Spec PyProof.Rows L2 DX
set_option autoImplicit false
abbrev Rd := List Int × (Int × Int)
def roadD (p : Rd) : PyData := .tuple [intsD p.1, frD p.2]
def treeD (n : Nat) (rs : List Rd) : PyData := .tuple [.int (n : Int), .tuple (rs.map roadD)]
structure TrN (n : Nat) (rs : List Rd) : Prop where
  many : Many n
  sub : ∀ p ∈ rs, p.1 ∈ lotsOf n
  len : ∀ p ∈ rs, LenOk p.2
  ord : (rs.map (·.1)).Pairwise fun a c => key a < key c
  fit : ∀ p ∈ rs, ∀ q ∈ rs, fitB p.1 q.1 = true
  few : rs.length ≤ 4
theorem LenOk.length {p : Int × Int} (h : LenOk p) : isLength (frD p) = true := by
  obtain ⟨t, u⟩ := p
  have l0 := h.l0
  have l2 := h.l2
  have t0 := h.t0
  have t5 := h.t5
  have g := h.g
  show (isFrac (.tuple [.int t, .int u]) && (decide (u ≤ 2) && (decide (0 < t) && decide (t ≤ 500 * u)))) = true
  have e : isFrac (.tuple [.int t, .int u]) = true := by
    show (decide (0 < u) && decide (((Nat.gcd t.natAbs u.natAbs : Nat) : Int) = 1)) = true
    rw [show Nat.gcd t.natAbs u.natAbs = 1 from g, decide_eq_true (show 0 < u from l0)]
    rfl
  rw [e, decide_eq_true (show u ≤ 2 from l2), decide_eq_true (show 0 < t from t0), decide_eq_true (show t ≤ 500 * u from t5)]
  rfl
theorem rises_of : ∀ {ls : List (List Int)}, (∀ l ∈ ls, Ad6 l) → (ls.Pairwise fun a c => key a < key c) → risesD (ls.map intsD) = true
  | [], _, _ => rfl
  | [_], _, _ => rfl
  | a :: c :: r, had, h => by
    obtain ⟨h1, h2⟩ := List.pairwise_cons.mp h
    show (HT.lexLt ((a.map PyData.int).map i0) ((c.map PyData.int).map i0) && risesD ((c :: r).map intsD)) = true
    rw [map_i0, map_i0, ad_key a c (had a List.mem_cons_self) (had c (List.mem_cons_of_mem _ List.mem_cons_self)), decide_eq_true (h1 c List.mem_cons_self), rises_of (fun l hl => had l (List.mem_cons_of_mem _ hl)) h2]
    rfl
theorem isTree_treeD {n : Nat} {rs : List Rd} (h : TrN n rs) : isTree (treeD n rs) = true := by
  have hm : isMany (.int (n : Int)) = true := by
    rcases h.many with rfl | rfl | rfl | rfl <;> decide
  have e0 : (rs.map roadD).map fst0 = (rs.map (·.1)).map intsD := by
    rw [List.map_map, List.map_map]
    rfl
  have had : ∀ l ∈ rs.map (·.1), Ad6 l := fun l hl => by
    obtain ⟨p, hp, rfl⟩ := List.mem_map.mp hl
    exact lots_ad h.many _ (h.sub p hp)
  have e1 : ((rs.map roadD).map roadOk).all id = true := by
    rw [all_map_id]
    intro x hx
    obtain ⟨p, hp, rfl⟩ := List.mem_map.mp hx
    exact (h.len p hp).length
  have e2 : (((rs.map (·.1)).map intsD).map (isLot (n : Int))).all id = true := by
    rw [all_map_id]
    intro x hx
    obtain ⟨l, hl, rfl⟩ := List.mem_map.mp hx
    obtain ⟨p, hp, rfl⟩ := List.mem_map.mp hl
    exact lots_lot h.many _ (h.sub p hp)
  have e3 : (((rs.map (·.1)).map intsD).flatMap fun d => ((rs.map (·.1)).map intsD).map fun e => fitD d e).all id = true := by
    rw [List.all_eq_true]
    intro x hx
    obtain ⟨d, hd, hx⟩ := List.mem_flatMap.mp hx
    obtain ⟨e, he, rfl⟩ := List.mem_map.mp hx
    obtain ⟨a, ha, rfl⟩ := List.mem_map.mp hd
    obtain ⟨c, hc, rfl⟩ := List.mem_map.mp he
    obtain ⟨p, hp, rfl⟩ := List.mem_map.mp ha
    obtain ⟨q, hq, rfl⟩ := List.mem_map.mp hc
    show fitB (intsOf (intsD p.1)) (intsOf (intsD q.1)) = true
    rw [intsOf_ints, intsOf_ints]
    exact h.fit p hp q hq
  show (isMany (.int (n : Int)) && (((rs.map roadD).map roadOk).all id && ((((rs.map roadD).map fst0).map (isLot (n : Int))).all id && (risesD ((rs.map roadD).map fst0) && ((((rs.map roadD).map fst0).flatMap fun d => ((rs.map roadD).map fst0).map fun e => fitD d e).all id))))) = true
  rw [hm, e1, e0, e2, rises_of had h.ord, e3]
  rfl
def roadsRow (n : Nat) (R : Row) : Nat × Row := if 0 < (R.step 3).1 then (n - 2, (R.step 3).2) else (((R.step 3).2.step ((n : Int) - 1)).1.toNat, ((R.step 3).2.step ((n : Int) - 1)).2)
theorem roadsRow_ok {n : Nat} (hm : Many n) {R : Row} (h : R.Ok) : (roadsRow n R).2.Ok ∧ (roadsRow n R).1 ≤ 4 := by
  have h36 : 3 ≤ n ∧ n ≤ 6 := by rcases hm with rfl | rfl | rfl | rfl <;> decide
  obtain ⟨h1, a0, a1⟩ := Row.step_ok h (m := 3) (by decide)
  unfold roadsRow
  split
  · exact ⟨h1, by show n - 2 ≤ 4; omega⟩
  · obtain ⟨h2, b0, b1⟩ := Row.step_ok h1 (m := (n : Int) - 1) (by omega)
    exact ⟨h2, by show ((R.step 3).2.step ((n : Int) - 1)).1.toNat ≤ 4; omega⟩
def lensRow : Row → List (List Int) → List Rd × Row
  | R, [] => ([], R)
  | R, l :: ls => ((l, (lenRow R).1) :: (lensRow (lenRow R).2 ls).1, (lensRow (lenRow R).2 ls).2)
theorem lensRow_ok : ∀ (ls : List (List Int)) {R : Row}, R.Ok → (lensRow R ls).2.Ok ∧ (lensRow R ls).1.map (·.1) = ls ∧ ∀ p ∈ (lensRow R ls).1, LenOk p.2
  | [], R, h => ⟨h, rfl, fun p hp => absurd hp (by simp [lensRow])⟩
  | l :: ls, R, h => by
    obtain ⟨h1, h2⟩ := lenRow_ok h
    obtain ⟨i1, i2, i3⟩ := lensRow_ok ls h1
    refine ⟨i1, by unfold lensRow; rw [List.map_cons, i2], fun p hp => ?_⟩
    unfold lensRow at hp
    rcases List.mem_cons.mp hp with rfl | hp
    · exact h2
    · exact i3 p hp
def treeRow (n : Nat) (R : Row) : List Rd × Row := lensRow (shN n (roadsRow n R).2 (roadsRow n R).1).2 (isort (shN n (roadsRow n R).2 (roadsRow n R).1).1)
theorem treeRow_ok {n : Nat} (hm : Many n) {R : Row} (h : R.Ok) : (treeRow n R).2.Ok ∧ TrN n (treeRow n R).1 := by
  obtain ⟨h1, a1⟩ := roadsRow_ok hm h
  obtain ⟨s1, s2, s3⟩ := shN_ok hm h1 (roadsRow n R).1
  obtain ⟨l1, l2, l3⟩ := lensRow_ok (isort (shN n (roadsRow n R).2 (roadsRow n R).1).1) s2
  have hp := isort_perm (shN n (roadsRow n R).2 (roadsRow n R).1).1
  have hin : ∀ p ∈ (treeRow n R).1, p.1 ∈ (shN n (roadsRow n R).2 (roadsRow n R).1).1 := fun p hq => by
    have : p.1 ∈ (treeRow n R).1.map (·.1) := List.mem_map.mpr ⟨p, hq, rfl⟩
    unfold treeRow at this
    rw [l2] at this
    exact hp.mem_iff.mp this
  refine ⟨l1, hm, fun p hq => s1.sub _ (hin p hq), l3, ?_, fun p hp q hq => s1.fit _ (hin p hp) _ (hin q hq), ?_⟩
  · unfold treeRow
    rw [l2]
    exact isort_sorted _ (fun l hl => lots_ad hm l (s1.sub l hl)) s1.nd
  · have e : (treeRow n R).1.length = ((treeRow n R).1.map (·.1)).length := (List.length_map _).symm
    rw [e]
    unfold treeRow
    rw [l2, hp.length_eq]
    omega
def rowN (R : Row) : Nat → Row
  | 0 => R
  | n + 1 => (lenRow (rowN R n)).2
theorem rowN_ok {R : Row} (h : R.Ok) : ∀ n, (rowN R n).Ok
  | 0 => h
  | n + 1 => (lenRow_ok (rowN_ok h n)).1
theorem rowN_succ (R : Row) : ∀ n, rowN R (n + 1) = rowN (lenRow R).2 n
  | 0 => rfl
  | n + 1 => by
    show (lenRow (rowN R (n + 1))).2 = (lenRow (rowN (lenRow R).2 n)).2
    rw [rowN_succ R n]
theorem lensRow_rowN : ∀ (ls : List (List Int)) (R : Row), (lensRow R ls).2 = rowN R ls.length
  | [], R => rfl
  | l :: ls, R => by
    show (lensRow (lenRow R).2 ls).2 = rowN R (ls.length + 1)
    rw [lensRow_rowN ls, rowN_succ]
theorem outs_true (y : Nat → PyData) : ∀ n, outs (fun _ => true) y n = (List.range n).map y
  | 0 => rfl
  | n + 1 => by
    unfold outs
    rw [if_pos rfl, outs_true y n, List.range_succ, List.map_append]
    rfl
def lenY (R : Row) (ls : List (List Int)) (i : Nat) : PyData := .tuple [intsD (ls.getD i []), frD (lenRow (rowN R i)).1]
theorem lensRow_map : ∀ (ls : List (List Int)) (R : Row), (lensRow R ls).1.map roadD = (List.range ls.length).map (lenY R ls)
  | [], R => rfl
  | l :: ls, R => by
    show roadD (l, (lenRow R).1) :: (lensRow (lenRow R).2 ls).1.map roadD = _
    rw [lensRow_map ls, List.length_cons, List.range_succ_eq_map, List.map_cons, List.map_map]
    congr 1
    refine List.map_congr_left fun i _ => ?_
    show lenY (lenRow R).2 ls i = lenY R (l :: ls) (i + 1)
    unfold lenY
    rw [rowN_succ]
    rfl
def r_ltree (ms ds : List PyData) (d : PyData) (ms' : List PyData) : Prop := ∃ (n : Nat) (R : Row), Many n ∧ R.Ok ∧ ms = R.ms ∧ ds = [.int (n : Int), .tuple []] ∧ d = treeD n (treeRow n R).1 ∧ ms' = (treeRow n R).2.ms
theorem ev_eqS {X : Cx} {b : Bs} {S S1 S' : DS} {e : Expr} {x : DV} (h : EV X b e S x S1) (q : S1 = S') : EV X b e S x S' := q ▸ h
theorem ev_vac {X : Cx} {b : Bs} {S S' : DS} {e : Expr} {x : DV} (h : ¬ S.as.Nodup) : EV X b e S x S' := fun σ H r _ _ => (h r.rm.nd).elim
section
variable {P : Program} {w : World} {K : PySem.W.Frag} {mg : Str → Option Value} {base : Heap}
abbrev gTr (a : Addr) (n : Nat) (k : DV) (u : DV) (R : Row) : DS := ⟨[.m a, .d (.int (n : Int)), .d (.tuple []), k, u], [(a, .lst R.ms)]⟩
theorem ok_law_tree (T : Tx K mg) : FnOk P w K mg base CX0 4 T.d_law_tree.fa T.d_law_tree.fd P_law_tree (MP K r_ltree) := by
  refine mp_ok T.d_law_tree.F sc_law_tree (fun ms ds d ms' h => ?_) fun cdv A outer s H E b a hK hfx hr ms ds d ms' h => ?_
  · obtain ⟨n, R, _, _, _, rfl, _⟩ := h
    rfl
  · obtain ⟨n, R, hm, hR, rfl, rfl, rfl, rfl⟩ := h
    have h36 : 3 ≤ n ∧ n ≤ 6 := by rcases hm with rfl | rfl | rfl | rfl <;> decide
    show SX _ _ _ (gTr a n .no .no R) _
    obtain ⟨h1, a0, a1⟩ := Row.step_ok hR (m := 3) (by decide)
    obtain ⟨hq1, hq3⟩ := roadsRow_ok hm hR
    refine sx_cons (sy_asg (i := 3) (x := .d (.int ((roadsRow n R).1 : Int))) (S1 := gTr a n .no .no (roadsRow n R).2) ?_ sc_law_tree.nd rfl (.inl rfl) li ?_)
    · refine ev_ifS (S1 := gTr a n .no .no (R.step 3).2) (t := decide (0 < (R.step 3).1)) (et_gt ?_ ev_int) (fun h => ?_) fun h => ?_
      · exact ev_eqS (ev_callM (ok_law_taken T) hK.symm (hr.mono (by decide)) rfl T.d_law_taken.m T.d_law_taken.F.kp T.d_law_taken.b pass0 (ds := [.int 3]) (ms := R.ms) (ea_cons (vn 0) (ea_cons ev_int ea_nil)) (List.mem_singleton.mpr rfl) ⟨R, _, hR, rfl, rfl, by decide, by unfold Sz; decide, rfl, rfl⟩) setm1
      · have e : roadsRow n R = (n - 2, (R.step 3).2) := by unfold roadsRow; rw [if_pos (of_decide_eq_true h)]
        rw [e]
        have e2 : (((n - 2 : Nat)) : Int) = (n : Int) - 2 := by omega
        show EV _ _ _ _ (.d (.int (((n - 2 : Nat)) : Int))) _
        rw [e2]
        exact ev_sub (vn 1) ev_int
      · have e : roadsRow n R = (((R.step 3).2.step ((n : Int) - 1)).1.toNat, ((R.step 3).2.step ((n : Int) - 1)).2) := by unfold roadsRow; rw [if_neg (of_decide_eq_false h)]
        rw [e]
        obtain ⟨_, b0, b1⟩ := Row.step_ok h1 (m := (n : Int) - 1) (by omega)
        have e2 : ((((R.step 3).2.step ((n : Int) - 1)).1.toNat : Nat) : Int) = ((R.step 3).2.step ((n : Int) - 1)).1 := by omega
        show EV _ _ _ _ (.d (.int ((((R.step 3).2.step ((n : Int) - 1)).1.toNat : Nat) : Int))) _
        rw [e2]
        exact ev_eqS (ev_callM (ok_law_taken T) hK.symm (hr.mono (by decide)) rfl T.d_law_taken.m T.d_law_taken.F.kp T.d_law_taken.b pass0 (ds := [.int ((n : Int) - 1)]) (ms := (R.step 3).2.ms) (ea_cons (vn 0) (ea_cons (ev_sub (vn 1) ev_int) ea_nil)) (List.mem_singleton.mpr rfl) ⟨_, _, h1, rfl, rfl, by omega, by unfold Sz; omega, rfl, rfl⟩) setm1
    · show SX _ _ _ (gTr a n (.d (.int ((roadsRow n R).1 : Int))) .no (roadsRow n R).2) _
      unfold treeRow
      obtain ⟨s1, h2, s3⟩ := shN_ok hm hq1 (roadsRow n R).1
      have hsh : r_lshape (roadsRow n R).2.ms [.int (n : Int), .tuple [], .int ((roadsRow n R).1 : Int)] (.tuple ((isort (shN n (roadsRow n R).2 (roadsRow n R).1).1).map intsD)) (shN n (roadsRow n R).2 (roadsRow n R).1).2.ms := ⟨n, _, _, hm, hq1, by omega, rfl, rfl, rfl, rfl⟩
      have hll : (isort (shN n (roadsRow n R).2 (roadsRow n R).1).1).length ≤ 4 := by rw [(isort_perm _).length_eq]; omega
      generalize (shN n (roadsRow n R).2 (roadsRow n R).1).2 = R' at h2 hsh
      generalize isort (shN n (roadsRow n R).2 (roadsRow n R).1).1 = ls at hsh hll
      generalize (roadsRow n R).2 = R1 at hsh
      generalize (roadsRow n R).1 = k at hsh
      have ez : PyData.list ((lensRow R' ls).1.map roadD) = .list (outs (fun _ => true) (lenY R' ls) (ls.map intsD).length) := by
        rw [outs_true, List.length_map, lensRow_map]
      refine sx_one (sy_retM (S1 := gTr a n (.d (.int (k : Int))) .no (lensRow R' ls).2) (ev_tup (ds := [.int (n : Int), .tuple ((lensRow R' ls).1.map roadD)]) (ea_cons (vn 1) (ea_cons (ev_tupleL hK.symm rfl T.n_tuple (S1 := gTr a n (.d (.int (k : Int))) .no (lensRow R' ls).2) (ds := (lensRow R' ls).1.map roadD) ?_) ea_nil)) lq) (List.mem_singleton.mpr rfl))
      refine ev_lcG (S1 := gTr a n (.d (.int (k : Int))) .no R') (tt := tYes) (g := gName 4) (own := [("lot", 4)]) (ds := ls.map intsD) (gT := fun d => [.m a, .d (.int (n : Int)), .d (.tuple []), .d (.int (k : Int)), .d d]) (Ms := fun i => [(a, .lst (rowN R' i).ms)]) (c := fun _ => true) (y := lenY R' ls) ?_ ?_ ?_ ?_ ?_ ?_ ?_ ?_ ?_ ?_ ?_ ?_ ?_ ?_ ez ?_
      · rfl
      · exact sc_law_tree.nd
      · refine ei_tup hK.symm ?_
        exact ev_eqS (ev_callM (ok_law_shape T) hK.symm (hr.mono (by decide)) rfl T.d_law_shape.m T.d_law_shape.F.kp T.d_law_shape.b pass0 (ds := [.int (n : Int), .tuple [], .int (k : Int)]) (ms := R1.ms) (ea_cons (vn 0) (ea_cons (vn 1) (ea_cons (vn 2) (ea_cons (vn 3) ea_nil)))) (List.mem_singleton.mpr rfl) hsh) setm1
      · rw [List.length_map]; omega
      · exact blkOk_by (N := N_law_tree) (sc := defScope s_law_tree) (by decide +kernel)
      · rfl
      · exact fun _ => rfl
      · exact fun _ _ _ _ _ => pg_name (i := 4) sc_law_tree.nd rfl (.inl rfl)
      · exact fun _ _ _ _ _ => pts_nil
      · exact fun i d hd => tgb_name (vs := [4]) (j := 4) (g0 := [.m a, .d (.int (n : Int)), .d (.tuple []), .d (.int (k : Int)), .no]) (List.mem_singleton.mpr rfl) li
      · exact fun i d hd Dl acc => ttok_yes
      · intro i d hd _ Dl acc s H C cl fp
        by_cases hne : a = Dl
        · exact ev_vac (by subst hne; simp [DS.as])
        rw [List.getElem?_map] at hd
        obtain ⟨l, hl, rfl⟩ := Option.map_eq_some_iff.mp hd
        have ey : lenY R' ls i = .tuple [intsD l, frD (lenRow (rowN R' i)).1] := by
          unfold lenY
          rw [List.getD_eq_getElem?_getD, hl]
          rfl
        rw [ey]
        have es : DS.setm ⟨[.m a, .d (.int (n : Int)), .d (.tuple []), .d (.int (k : Int)), .d (intsD l)], [(a, .lst (rowN R' i).ms)] ++ [(Dl, .lst acc)]⟩ a (.lst (lenRow (rowN R' i)).2.ms) = ⟨[.m a, .d (.int (n : Int)), .d (.tuple []), .d (.int (k : Int)), .d (intsD l)], [(a, .lst (rowN R' (i + 1)).ms)] ++ [(Dl, .lst acc)]⟩ := by
          unfold DS.setm setM
          simp [Ne.symm hne]
          rfl
        refine ev_tup (ds := [_, _]) (ea_cons (vn 4) (ea_cons ?_ ea_nil)) lq
        exact ev_eqS (ev_callM (ok_law_length T) hK.symm (hr.mono (by decide)) rfl T.d_law_length.m T.d_law_length.F.kp T.d_law_length.b pass0 (ds := []) (ms := (rowN R' i).ms) (ea_cons (vn 0) ea_nil) (List.mem_append.mpr (.inl (List.mem_singleton.mpr rfl))) ⟨_, rowN_ok h2 i, rfl, rfl, rfl, rfl⟩) es
      · exact fun i d hd h => nomatch h
      · intro x; rfl
      · rw [lensRow_rowN, List.length_map]
end
end KC
end
section
set_option Elab.async false
set_option linter.all false
set_option maxRecDepth 100000
set_option maxHeartbeats 4000000
namespace DX
open PySem PySem.Spec PyProof.Rows L2
set_option autoImplicit false
/-! texts -/
section
variable {X : Cx} {b : Bs} {S S1 S2 S3 S' : DS} {x y z : DV} {pos : Pos} {D : DE}
theorem dp_strs {K : PySem.W.Frag} {H : Hp} : ∀ {ss : List Str} {xs : List V}, DpAll K H xs (ss.map PyData.str) → xs = ss.map V.str
  | [], _, h => by cases h; rfl
  | c :: bs, _, h => by
    cases h with
    | cons h hs =>
      cases h
      rw [dp_strs hs]
      rfl
theorem strs_dp {K : PySem.W.Frag} {H : Hp} : ∀ ss : List Str, DpAll K H (ss.map V.str) (ss.map PyData.str)
  | [] => .nil
  | c :: ss => .cons (.str c) (strs_dp ss)
theorem ev_part {o e : Expr} {apos : Pos} {a t : Str} (h1 : EV X b o S (.d (.str a)) S1) (h2 : EV X b e S1 (.d (.str t)) S2) (ht : (t.length == 0) = false) (ha : a.length ≤ 1000000)
    (he : starEach [e] X.env = [(false, eval e X.env)] := by rfl) (hb : attributeBase o "partition" X.env (eval o X.env) = eval o X.env := by rfl) (hp : (apos.endLine == pos.line) = true := by rfl) :
    EV X b (.Call (.Attribute o "partition" apos) [e] [] pos) S (.d (.tuple [.str (Txt.partition a t).1, .str (Txt.partition a t).2.1, .str (Txt.partition a t).2.2])) S2 := by
  intro σ H r Q q
  refine wE_of (pe_partition (peW _) (peW _) he hb hp) (h1 σ H r _ fun u H1 k1 r1 x1 a1 => ?_)
  cases k1
  refine ⟨⟨_, rfl⟩, h2 σ H1 r1 _ fun v H2 k2 r2 x2 a2 => ?_⟩
  cases k2
  refine ⟨a, t, rfl, rfl, ht, by rw [sizeLine_eq]; omega, fun p hp => ?_⟩
  obtain ⟨r3, x3⟩ := r2.grow (Ex.new (o := .tup [.str (Txt.partition a t).1, .str (Txt.partition a t).2.1, .str (Txt.partition a t).2.2]) hp)
  exact q _ _ (.tup (.inl (.inl (hide_new (r2.rm.fresh hp)))) (strs_dp [(Txt.partition a t).1, (Txt.partition a t).2.1, (Txt.partition a t).2.2])) r3 ((x1.trans x2).trans x3) fun c hc => a2 c (a1 c hc)
theorem ev_split {o e : Expr} {apos : Pos} {a t : Str} (h1 : EV X b o S (.d (.str a)) S1) (h2 : EV X b e S1 (.d (.str t)) S2) (ht : (t.length == 0) = false) (ha : a.length ≤ 1000000)
    (he : starEach [e] X.env = [(false, eval e X.env)] := by rfl) (hb : attributeBase o "split" X.env (eval o X.env) = eval o X.env := by rfl) (hp : (apos.endLine == pos.line) = true := by rfl) :
    EV X b (.Call (.Attribute o "split" apos) [e] [] pos) S (.d (.list ((Txt.split a t).map .str))) S2 := by
  intro σ H r Q q
  refine wE_of (pe_split (peW _) (peW _) he hb hp) (h1 σ H r _ fun u H1 k1 r1 x1 a1 => ?_)
  cases k1
  refine ⟨⟨_, rfl⟩, h2 σ H1 r1 _ fun v H2 k2 r2 x2 a2 => ?_⟩
  cases k2
  refine ⟨a, t, rfl, rfl, ht, by rw [sizeLine_eq]; omega, fun p hp => ?_⟩
  obtain ⟨r3, x3⟩ := r2.grow (Ex.new (o := .lst ((Txt.split a t).map V.str)) hp)
  exact q _ _ (.lst (.inl (.inl (hide_new (r2.rm.fresh hp)))) (strs_dp _)) r3 ((x1.trans x2).trans x3) fun c hc => a2 c (a1 c hc)
theorem ev_words {o : Expr} {apos : Pos} {a : Str} (h1 : EV X b o S (.d (.str a)) S1) (ha : a.length ≤ 1000000)
    (hb : attributeBase o "split" X.env (eval o X.env) = eval o X.env := by rfl) (hp : (apos.endLine == pos.line) = true := by rfl) :
    EV X b (.Call (.Attribute o "split" apos) [] [] pos) S (.d (.list ((Txt.words a).map .str))) S1 := by
  intro σ H r Q q
  refine wE_of (pe_words (peW _) hb hp) (h1 σ H r _ fun u H1 k1 r1 x1 a1 => ?_)
  cases k1
  refine ⟨⟨_, rfl⟩, a, rfl, rfl, by rw [sizeLine_eq]; omega, fun p hp => ?_⟩
  obtain ⟨r3, x3⟩ := r1.grow (Ex.new (o := .lst ((Txt.words a).map V.str)) hp)
  exact q _ _ (.lst (.inl (.inl (hide_new (r1.rm.fresh hp)))) (strs_dp _)) r3 (x1.trans x3) a1
theorem ev_join {o e : Expr} {apos : Pos} {a : Str} {ss : List Str} (hK : X.K = b.K) (h1 : EV X b o S (.d (.str a)) S1) (h2 : EV X b e S1 (.d (.list (ss.map .str))) S2) (hz : (ss.map (·.length)).sum + ss.length * a.length ≤ 1000000)
    (he : starEach [e] X.env = [(false, eval e X.env)] := by rfl) (hb : attributeBase o "join" X.env (eval o X.env) = eval o X.env := by rfl) (hp : (apos.endLine == pos.line) = true := by rfl) :
    EV X b (.Call (.Attribute o "join" apos) [e] [] pos) S (.d (.str (Txt.join a ss))) S2 := by
  intro σ H r Q q
  refine wE_of (pe_join (peW _) (peW _) he hb hp) (h1 σ H r _ fun u H1 k1 r1 x1 a1 => ?_)
  cases k1
  refine ⟨⟨_, rfl⟩, h2 σ H1 r1 _ fun v H2 k2 r2 x2 a2 => ?_⟩
  cases k2 with
  | lst hs ha =>
    rw [dp_strs ha] at hs
    exact ⟨a, _, ss, rfl, rfl, .inl (by rw [hK]; exact ex_l hide_ex hs), by omega, q _ H2 (.str _) r2 (x1.trans x2) fun c hc => a2 c (a1 c hc)⟩
/-- of a list that is changed -/
theorem ev_joinM {o e : Expr} {apos : Pos} {a : Str} {l : Addr} {ss : List Str} (hin : (l, MO.lst (ss.map .str)) ∈ S2.m) (h1 : EV X b o S (.d (.str a)) S1) (h2 : EV X b e S1 (.m l) S2) (hz : (ss.map (·.length)).sum + ss.length * a.length ≤ 1000000)
    (he : starEach [e] X.env = [(false, eval e X.env)] := by rfl) (hb : attributeBase o "join" X.env (eval o X.env) = eval o X.env := by rfl) (hp : (apos.endLine == pos.line) = true := by rfl) :
    EV X b (.Call (.Attribute o "join" apos) [e] [] pos) S (.d (.str (Txt.join a ss))) S2 := by
  intro σ H r Q q
  refine wE_of (pe_join (peW _) (peW _) he hb hp) (h1 σ H r _ fun u H1 k1 r1 x1 a1 => ?_)
  cases k1
  refine ⟨⟨_, rfl⟩, h2 σ H1 r1 _ fun v H2 k2 r2 x2 a2 => ?_⟩
  obtain ⟨vs, e1, e2⟩ := r2.rm.mem _ hin
  rw [dp_strs e2] at e1
  obtain ⟨rfl, _⟩ := k2
  exact ⟨a, l, ss, rfl, rfl, .inl (.inl (.inl e1)), by omega, q _ H2 (.str _) r2 (x1.trans x2) fun c hc => a2 c (a1 c hc)⟩
theorem rc_strI {i : Int} (h : i.natAbs.log2 < 1920) : RC b (fun xs H Q => ∃ i, xs = [V.int i] ∧ i.natAbs.log2 < 1920 ∧ Q (.str (Str.ofString (toString i))) H) [.d (.int i)] S (.d (.str (Str.ofString (toString i)))) := by
  intro H vs rm h1 Q q
  obtain ⟨v, rfl, k⟩ := vall1 h1
  cases k
  exact ⟨i, rfl, h, q _ H (.str _) (Ex.refl _)⟩
theorem rc_intS {a : Str} {n : Int} (h : intText? a = some n) (hl : a.length ≤ 640) : RC b (fun xs H Q => ∃ a n, xs = [V.str a] ∧ intText? a = some n ∧ a.length ≤ 640 ∧ Q (.int n) H) [.d (.str a)] S (.d (.int n)) := by
  intro H vs rm h1 Q q
  obtain ⟨v, rfl, k⟩ := vall1 h1
  cases k
  exact ⟨a, n, rfl, h, hl, q _ H (.int _) (Ex.refl _)⟩
theorem rc_lenS {a : Str} (hl : a.length ≤ 1000000) : RC b (fun xs H Q => ∃ z, xs = [V.str z] ∧ z.length ≤ sizeLine ∧ Q (.int (z.length : Int)) H) [.d (.str a)] S (.d (.int (a.length : Int))) := by
  intro H vs rm h1 Q q
  obtain ⟨v, rfl, k⟩ := vall1 h1
  cases k
  exact ⟨a, rfl, by rw [sizeLine_eq]; omega, q _ H (.int _) (Ex.refl _)⟩
theorem rv_addS {a t : Str} (hl : a.length + t.length ≤ 1000000) : RV b (fun x y H Q => ∃ i j, x = V.str i ∧ y = V.str j ∧ i.length + j.length ≤ sizeLine ∧ Q (V.str (i ++ j)) H) (.d (.str a)) (.d (.str t)) S (.d (.str (a ++ t))) := by
  intro H u v rm hu hv Q q
  cases hu; cases hv
  exact ⟨a, t, rfl, rfl, by rw [sizeLine_eq]; omega, q _ H (.str _) (fun _ r => r) (Ex.refl _)⟩
theorem ev_addS {e1 e2 : Expr} {a t : Str} (h1 : EV X b e1 S (.d (.str a)) S1) (h2 : EV X b e2 S1 (.d (.str t)) S2) (hl : a.length + t.length ≤ 1000000) : EV X b (.BinOp e1 .Add e2 pos) S (.d (.str (a ++ t))) S2 := ev_op op_add_str h1 h2 (rv_addS hl)
/-- a one-sign text in a text -/
theorem rv_inS {c : Nat} {t : Str} : RV b (fun x y H Q => ∃ (c : Nat) (z : Str), x = V.str ⟨#[c]⟩ ∧ y = V.str z ∧ Q (V.bl (decide (c ∈ z.cps.toList))) H) (.d (.str ⟨#[c]⟩)) (.d (.str t)) S (.d (.bool (decide (c ∈ t.cps.toList)))) := by
  intro H u v rm hu hv Q q
  cases hu; cases hv
  exact ⟨c, t, rfl, rfl, q _ H (.bl _) (fun _ r => r) (Ex.refl _)⟩
theorem ev_gstr {nm : Str} {s : Str} {t : Tok} (hg : Gl X nm) (hm : X.mg nm = some (.str s t)) (hd : (nm == ("__debug__" : Str)) = false) : EV X b (.Name nm pos) S (.d (.str s)) S := fun σ H r Q q => wE_of (pe_glob (v := .str s) hg hm ⟨t, rfl⟩ hd) (q _ H (.str s) r (Ex.refl _) fun _ h => h)
theorem et_str {e : Expr} {s : Str} (h : EV X b e S (.d (.str s)) S1) (hl : s.length ≤ 1000000) (he : ∀ whole, isTrue e X.env whole = (do let v ← whole; standAt e.pos; holding [v] (truthy v)) := by intro _; rfl) : ET X b e S (s.length != 0) S1 := by
  refine et_truth h (fun v H k => ?_) he
  cases k
  refine ⟨by rw [sizeLine_eq]; omega, ?_⟩
  cases hh : s.length with
  | zero => rfl
  | succ n => rfl
/-- a text, sign by sign -/
def signsD (s : Str) : List PyData := s.cps.toList.map fun c => .str ⟨#[c]⟩
theorem ei_str {tg e : Expr} {s : Str} (h : EV X b e S (.d (.str s)) S1) : EI X b tg e S (signsD s) S1 := by
  intro σ H r R q
  refine wI_of (pi_str (peW _)) (h σ H r _ fun v H1 k1 r1 x1 a1 => ?_)
  cases k1
  refine ⟨_, rfl, q _ _ ?_ r1 x1 a1⟩
  intro i A H2 hx hA
  unfold signsD
  refine ⟨fun d hd => ?_, fun hle => ?_⟩
  · rw [List.getElem?_map] at hd
    cases hc : s.cps.toList[i]? with
    | none => rw [hc] at hd; cases hd
    | some c =>
      rw [hc] at hd
      cases hd
      have hi : i < s.cps.size := by
        have := (List.getElem?_eq_some_iff.mp hc).1
        rwa [Array.length_toList] at this
      refine ⟨hi, fun x H' yy => ?_⟩
      obtain ⟨rfl, c', e1, rfl⟩ := yy
      rw [Array.getElem?_toList] at hc
      rw [hc] at e1
      cases e1
      exact ⟨Ex.refl _, .str _⟩
  · rw [List.length_map, Array.length_toList] at hle
    exact hle
/-! slices of texts -/
theorem ev_cutTo {e1 e2 : Expr} {s : Str} {i : Int} {p2 : Pos} (h1 : EV X b e1 S (.d (.str s)) S1) (h2 : EV X b e2 S1 (.d (.int i)) S2) (hl : s.length ≤ 1000000) : EV X b (.Subscript e1 (.Slice none (some e2) none p2) pos) S (.d (.str (cutS s none (some i)))) S2 := by
  intro σ H r Q q
  refine wE_of (pe_slice sl_str (peW _) po_none (po_some (peW _))) (h1 σ H r _ fun v H1 k1 r1 x1 a1 => ?_)
  cases k1
  refine h2 σ H1 r1 _ fun v H2 k2 r2 x2 a2 => ?_
  cases k2
  exact ⟨i, rfl, s, rfl, by rw [sizeLine_eq]; omega, q _ H2 (.str _) r2 (x1.trans x2) fun c hc => a2 c (a1 c hc)⟩
theorem ev_cutFrom {e1 e2 : Expr} {s : Str} {i : Int} {p2 : Pos} (h1 : EV X b e1 S (.d (.str s)) S1) (h2 : EV X b e2 S1 (.d (.int i)) S2) (hl : s.length ≤ 1000000) : EV X b (.Subscript e1 (.Slice (some e2) none none p2) pos) S (.d (.str (cutS s (some i) none))) S2 := by
  intro σ H r Q q
  refine wE_of (pe_slice sl_str (peW _) (po_some (peW _)) po_none) (h1 σ H r _ fun v H1 k1 r1 x1 a1 => ?_)
  cases k1
  refine h2 σ H1 r1 _ fun v H2 k2 r2 x2 a2 => ?_
  cases k2
  exact ⟨i, rfl, s, rfl, by rw [sizeLine_eq]; omega, q _ H2 (.str _) r2 (x1.trans x2) fun c hc => a2 c (a1 c hc)⟩
/-- xs[:-1] -/
theorem cut_but (xs : List V) : cutV xs none (some (-1)) = xs.dropLast := by
  unfold cutV
  have e0 : ∀ n : Nat, HT.sIx n 0 none = 0 := fun n => rfl
  have e1 : ∀ n d : Nat, HT.sIx n d (some (-1)) = n - 1 := fun n d => by
    show (if (-1 : Int) < 0 then ((-1 : Int) + (n : Int)).toNat else min ((-1 : Int).toNat) n) = n - 1
    rw [if_pos (by omega)]
    omega
  rw [e0, e1, List.drop_zero, Nat.sub_zero, List.dropLast_eq_take]
theorem dpAll_dropLast {K : PySem.W.Frag} {H : Hp} {vs : List V} {ds : List PyData} (h : DpAll K H vs ds) : DpAll K H vs.dropLast ds.dropLast := by
  have hl := DpAll.len h
  rw [List.dropLast_eq_take, List.dropLast_eq_take, hl]
  generalize ds.length - 1 = n
  clear hl
  induction n generalizing vs ds with
  | zero => exact .nil
  | succ n ih =>
    cases h with
    | nil => exact .nil
    | cons h hs => exact .cons h (ih hs)
theorem ev_butL {e1 e2 : Expr} {ds : List PyData} {p2 : Pos} (hK : X.K = b.K) (h1 : EV X b e1 S (.d (.list ds)) S1) (h2 : EV X b e2 S1 (.d (.int (-1))) S2) : EV X b (.Subscript e1 (.Slice none (some e2) none p2) pos) S (.d (.list ds.dropLast)) S2 := by
  intro σ H r Q q
  refine wE_of (pe_slice sl_list (peW _) po_none (po_some (peW _))) (h1 σ H r _ fun v H1 k1 r1 x1 a1 => ?_)
  refine h2 σ H1 r1 _ fun v2 H2 k2 r2 x2 a2 => ?_
  cases k2
  have k1' := k1.ex x2 a2
  cases k1' with
  | lst hs ha =>
    rename_i c xs
    refine ⟨-1, rfl, c, xs, rfl, by rw [hK]; exact ex_l hide_ex hs, fun p hp => ?_⟩
    rw [cut_but]
    obtain ⟨r3, x3⟩ := r2.grow (Ex.new (o := .lst xs.dropLast) hp)
    exact q _ _ (.lst (.inl (.inl (hide_new (r2.rm.fresh hp)))) (DpAll.ex x3 (dpAll_dropLast ha))) r3 ((x1.trans x2).trans x3) fun c hc => a2 c (a1 c hc)
end
end DX
end
section
set_option Elab.async false
set_option linter.all false
set_option maxRecDepth 100000
set_option maxHeartbeats 4000000
set_option exponentiation.threshold 300000
namespace KC
open PySem PySem.Spec PyProof.Rows L2 DX
set_option autoImplicit false
/-! texts, as lists of code points -/
open SX (S)
abbrev nl (i : Int) : List Nat := TL.numL i.toNat
def lotL (l : List Int) : List Nat := TL.joinL [32] (l.map nl)
def lenL (p : Int × Int) : List Nat := if p.2 = 1 then nl p.1 else nl p.1 ++ [47] ++ nl p.2
def partL (p : Rd) : List Nat := [32] ++ lotL p.1 ++ [32, 61, 32] ++ lenL p.2 ++ [59]
def headL (n : Nat) : List Nat := nl (n : Int) ++ [58]
def textL (n : Nat) (rs : List Rd) : List Nat := headL n ++ (rs.map partL).flatten
structure TrB (n : Nat) (rs : List Rd) : Prop where
  many : n ≤ 1000
  few : rs.length ≤ 900
  lot : ∀ p ∈ rs, p.1.length ≤ 6 ∧ ∀ i ∈ p.1, 0 ≤ i ∧ i ≤ 6
  len : ∀ p ∈ rs, 0 ≤ p.2.1 ∧ p.2.1 ≤ 1000 ∧ 0 ≤ p.2.2 ∧ p.2.2 ≤ 2
def r_text (ds : List PyData) (d : PyData) : Prop := ∃ (n : Nat) (rs : List Rd), TrB n rs ∧ ds = [treeD n rs] ∧ d = .str (S (textL n rs))
theorem nl_len {i : Int} (h : i ≤ 1000) : (nl i).length ≤ 4 := TL.numL_len (by decide) (by omega)
theorem joinL_len : ∀ (k : Nat) (xs : List (List Nat)), (∀ x ∈ xs, x.length ≤ k) → (TL.joinL [32] xs).length ≤ xs.length * (k + 1)
  | k, [], _ => by simp [TL.joinL]
  | k, [x], h => by
    have := h x List.mem_cons_self
    simp [TL.joinL]; omega
  | k, x :: y :: r, h => by
    have h1 := h x List.mem_cons_self
    have h2 := joinL_len k (y :: r) fun z hz => h z (List.mem_cons_of_mem _ hz)
    have e : TL.joinL [32] (x :: y :: r) = x ++ [32] ++ TL.joinL [32] (y :: r) := by simp [TL.joinL]
    rw [e]
    simp only [List.length_append, List.length_cons, List.length_nil] at h2 ⊢
    rw [Nat.succ_mul]
    omega
theorem joinL_nil : ∀ xs : List (List Nat), TL.joinL [] xs = xs.flatten
  | [] => by simp [TL.joinL]
  | [x] => by simp [TL.joinL]
  | x :: y :: r => by
    have e : TL.joinL [] (x :: y :: r) = x ++ [] ++ TL.joinL [] (y :: r) := by simp [TL.joinL]
    rw [e, joinL_nil (y :: r)]
    simp
theorem lotL_len {l : List Int} (h : l.length ≤ 6) (h6 : ∀ i ∈ l, i ≤ 6) : (lotL l).length ≤ 30 := by
  have := joinL_len 4 (l.map nl) fun x hx => by
    obtain ⟨i, hi, rfl⟩ := List.mem_map.mp hx
    exact nl_len (by have := h6 i hi; omega)
  rw [List.length_map] at this
  unfold lotL
  omega
theorem lenL_len {p : Int × Int} (h : p.1 ≤ 1000) (h2 : p.2 ≤ 2) : (lenL p).length ≤ 10 := by
  have := nl_len h
  have := nl_len (i := p.2) (by omega)
  unfold lenL
  split
  · omega
  · simp only [List.length_append, List.length_cons, List.length_nil]
    omega
theorem partL_len {n : Nat} {rs : List Rd} (h : TrB n rs) {p : Rd} (hp : p ∈ rs) : (partL p).length ≤ 60 := by
  have h1 := lotL_len (h.lot p hp).1 fun i hi => ((h.lot p hp).2 i hi).2
  have h2 := lenL_len (p := p.2) (h.len p hp).2.1 (h.len p hp).2.2.2
  unfold partL
  simp only [List.length_append, List.length_cons, List.length_nil]
  omega
theorem flat_len {k : Nat} : ∀ xs : List (List Nat), (∀ x ∈ xs, x.length ≤ k) → xs.flatten.length ≤ xs.length * k
  | [], _ => by simp
  | x :: xs, h => by
    have := flat_len xs fun y hy => h y (List.mem_cons_of_mem _ hy)
    have := h x List.mem_cons_self
    rw [List.flatten_cons, List.length_append, List.length_cons, Nat.succ_mul]
    omega
theorem textL_len {n : Nat} {rs : List Rd} (h : TrB n rs) : (textL n rs).length ≤ 100000 := by
  have h1 := flat_len (k := 60) (rs.map partL) fun x hx => by
    obtain ⟨p, hp, rfl⟩ := List.mem_map.mp hx
    exact partL_len h hp
  have h2 : (nl (n : Int)).length ≤ 4 := nl_len (by have := h.many; omega)
  have h3 := h.few
  rw [List.length_map] at h1
  unfold textL headL
  simp only [List.length_append, List.length_cons, List.length_nil]
  omega
/-! rules over such texts -/
section
variable {X : Cx} {b : Bs} {S0 S1 S2 S3 S' : DS} {x y z : DV} {pos : Pos} {D : DE}
theorem ev_cast {e : Expr} (h : EV X b e S0 x S1) (q : x = y) : EV X b e S0 y S1 := q ▸ h
theorem ev_lit {c : Str} {j} (a : List Nat) (h : c = S a := by decide) : EV X b (.Constant (.str c) j pos) S0 (.d (.str (S a))) S0 := ev_cast ev_str (by rw [h])
theorem ev_addL {e1 e2 : Expr} {a t : List Nat} (h1 : EV X b e1 S0 (.d (.str (S a))) S1) (h2 : EV X b e2 S1 (.d (.str (S t))) S2) (hl : a.length + t.length ≤ 1000000) : EV X b (.BinOp e1 .Add e2 pos) S0 (.d (.str (S (a ++ t)))) S2 :=
  ev_cast (ev_addS h1 h2 (by rw [SX.S_len, SX.S_len]; exact hl)) (by rw [SX.S_cat])
theorem ev_strL {e : Expr} {i : Int} {p : Pos} (hg : Gl X "str") (hm : X.mg "str" = none) (h : EV X b e S0 (.d (.int i)) S1) (h0 : 0 ≤ i) (h1 : i ≤ 1000)
    (he : starEach [e] X.env = (false, eval e X.env) :: starEach [] X.env := by rfl) (hpl : (backTo pos (starEach [] X.env)).any (·.1) = false := by rfl) : EV X b (.Call (.Name "str" p) [e] [] pos) S0 (.d (.str (S (nl i)))) S1 := by
  have hb : i.natAbs.log2 < 1920 := by
    have : i.natAbs < 2 ^ 1920 := by
      have : (1001 : Nat) ≤ 2 ^ 1920 := by
        have : (2 : Nat) ^ 10 ≤ 2 ^ 1920 := Nat.pow_le_pow_right (by decide) (by decide)
        omega
      omega
    rcases Nat.eq_zero_or_pos i.natAbs with h | h
    · rw [h]; decide
    · exact (Nat.log2_lt (by omega)).mpr this
  refine ev_cast (ev_callTy call_str_int hg hm (by decide +kernel) (ea_cons h ea_nil he) (rc_strI hb) (by decide) (by decide) he hpl) ?_
  have e : i = (i.toNat : Int) := by omega
  rw [show Str.ofString (toString i) = S (nl i) by rw [e, SX.num_S]; rfl]
theorem ev_joinL {o e : Expr} {apos : Pos} {a : List Nat} {ss : List (List Nat)} (hK : X.K = b.K) (h1 : EV X b o S0 (.d (.str (S a))) S1) (h2 : EV X b e S1 (.d (.list (ss.map fun s => .str (S s)))) S2) (hz : (ss.map (·.length)).sum + ss.length * a.length ≤ 1000000)
    (he : starEach [e] X.env = [(false, eval e X.env)] := by rfl) (hb : attributeBase o "join" X.env (eval o X.env) = eval o X.env := by rfl) (hp : (apos.endLine == pos.line) = true := by rfl) :
    EV X b (.Call (.Attribute o "join" apos) [e] [] pos) S0 (.d (.str (S (TL.joinL a ss)))) S2 := by
  refine ev_cast (ev_join (ss := ss.map S) hK h1 (by rw [List.map_map]; exact h2) ?_ he hb hp) (by rw [SX.join_S])
  rw [SX.lens, List.length_map, SX.S_len]
  exact hz
theorem ev_joinML {o e : Expr} {apos : Pos} {a : List Nat} {l : Addr} {ss : List (List Nat)} (hin : (l, MO.lst (ss.map fun s => .str (S s))) ∈ S2.m) (h1 : EV X b o S0 (.d (.str (S a))) S1) (h2 : EV X b e S1 (.m l) S2) (hz : (ss.map (·.length)).sum + ss.length * a.length ≤ 1000000)
    (he : starEach [e] X.env = [(false, eval e X.env)] := by rfl) (hb : attributeBase o "join" X.env (eval o X.env) = eval o X.env := by rfl) (hp : (apos.endLine == pos.line) = true := by rfl) :
    EV X b (.Call (.Attribute o "join" apos) [e] [] pos) S0 (.d (.str (S (TL.joinL a ss)))) S2 := by
  refine ev_cast (ev_joinM (ss := ss.map S) (by rw [List.map_map]; exact hin) h1 h2 ?_ he hb hp) (by rw [SX.join_S])
  rw [SX.lens, List.length_map, SX.S_len]
  exact hz
end
theorem map_take_succ' {α β : Type} {f : α → β} {xs : List α} {i : Nat} {p : α} (h : xs[i]? = some p) : (xs.take (i + 1)).map f = (xs.take i).map f ++ [f p] := by
  rw [List.take_add_one, h, List.map_append]
  rfl
theorem sum_flat : ∀ xs : List (List Nat), (xs.map (·.length)).sum = xs.flatten.length
  | [] => rfl
  | x :: xs => by
    rw [List.map_cons, List.sum_cons, sum_flat xs, List.flatten_cons, List.length_append]
section
variable {P : Program} {w : World} {K : PySem.W.Frag} {mg : Str → Option Value} {base : Heap}
abbrev gTx (a : Addr) (n : Nat) (rs : List Rd) (ss : List (List Nat)) (v4 v5 v6 v7 : DV) : DS := ⟨[.d (treeD n rs), .d (.int (n : Int)), .d (.tuple (rs.map roadD)), .m a, v4, v5, v6, v7, .no], [(a, .lst (ss.map fun s => .str (S s)))]⟩
theorem ok_text_of (T : Tx K mg) : FnOk P w K mg base CX0 1 T.d_text_of.fa T.d_text_of.fd P_text_of (FP K r_text) := by
  refine fp_ok T.d_text_of.F sc_text_of (fun ds d h => ?_) fun cdv A outer s H E b hK hr ds d h => ?_
  · obtain ⟨n, rs, _, rfl, _⟩ := h
    rfl
  · obtain ⟨n, rs, hB, rfl, rfl⟩ := h
    have hn := hB.many
    have hf := hB.few
    have hhl : (headL n).length ≤ 5 := by
      have h2 : (nl (n : Int)).length ≤ 4 := nl_len (by omega)
      unfold headL
      simp only [List.length_append, List.length_cons, List.length_nil]
      omega
    refine sx_cons (sy_unpack (S2 := ⟨[.d (treeD n rs), .d (.int (n : Int)), .d (.tuple (rs.map roadD)), .no, .no, .no, .no, .no, .no], []⟩) (vn 0) (pg_tup rfl (pgs_cons (pg_name (i := 1) sc_text_of.nd rfl (.inl rfl)) (pgs_cons (pg_name (i := 2) sc_text_of.nd rfl (.inl rfl)) pgs_nil))) (tg_tup hK.symm rfl (.cons (S := gStart N_text_of [.d (treeD n rs)] |> fun g => ⟨g, []⟩) (tg_name (i := 1) li) rfl (.cons (tg_name (i := 2) li) rfl .nil))) rfl ?_)
    refine sx_cons (sy_newL (i := 3) (ds := [.str (S (headL n))]) (S1 := ⟨[.d (treeD n rs), .d (.int (n : Int)), .d (.tuple (rs.map roadD)), .no, .no, .no, .no, .no, .no], []⟩) (ea_cons (ev_addL (a := nl (n : Int)) (t := [58]) (ev_strL rfl T.n_str (vn 1) (by omega) (by omega)) (ev_lit [58]) (by have := nl_len (i := (n : Int)) (by omega); show (nl (n : Int)).length + 1 ≤ _; omega)) ea_nil) lq sc_text_of.nd rfl (.inl rfl) li fun a => ?_)
    show SX _ _ _ (gTx a n rs [headL n] .no .no .no .no) _
    refine sx_cons (sy_forG (g := gTup K 2 (gList [gName 4, gTup K 2 (gList [gName 5, gName 6])])) (ds := rs.map roadD) (S1 := gTx a n rs [headL n] .no .no .no .no) PassesOwn.never rfl (ei_tup hK.symm (vn 2)) (pg_tup rfl (pgs_cons (pg_name (i := 4) sc_text_of.nd rfl (.inl rfl)) (pgs_cons (pg_tup rfl (pgs_cons (pg_name (i := 5) sc_text_of.nd rfl (.inl rfl)) (pgs_cons (pg_name (i := 6) sc_text_of.nd rfl (.inl rfl)) pgs_nil))) pgs_nil)))
      (fun i S' => ∃ v4 v5 v6 v7, S' = gTx a n rs (headL n :: (rs.take i).map partL) v4 v5 v6 v7) ⟨_, _, _, _, rfl⟩ (fun i d S' hd hW => ?_) fun S' hW => ?_)
    · obtain ⟨v4, v5, v6, v7, rfl⟩ := hW
      rw [List.getElem?_map] at hd
      obtain ⟨p, hp, rfl⟩ := Option.map_eq_some_iff.mp hd
      have hpm := List.mem_of_getElem? hp
      obtain ⟨l, t, lw⟩ := p
      have hl := hB.lot _ hpm
      have ht := hB.len _ hpm
      have hpl := partL_len hB hpm
      have ell := lotL_len hl.1 fun i hi => (hl.2 i hi).2
      have eln := lenL_len (p := (t, lw)) ht.2.1 ht.2.2.2
      refine ⟨gTx a n rs (headL n :: (rs.take i).map partL) (.d (intsD l)) (.d (.int t)) (.d (.int lw)) v7, tg_tup (ds := [intsD l, frD (t, lw)]) hK.symm rfl (.cons (S := gTx a n rs (headL n :: (rs.take i).map partL) v4 v5 v6 v7) (tg_name (i := 4) li) rfl (.cons (tg_tup (ds := [.int t, .int lw]) hK.symm rfl (.cons (S := gTx a n rs (headL n :: (rs.take i).map partL) (.d (intsD l)) v5 v6 v7) (tg_name (i := 5) li) rfl (.cons (tg_name (i := 6) li) rfl .nil))) rfl .nil)), rfl, ?_⟩
      refine sx_cons (sy_asg (i := 7) (x := .d (.str (S (lenL (t, lw))))) (S1 := gTx a n rs (headL n :: (rs.take i).map partL) (.d (intsD l)) (.d (.int t)) (.d (.int lw)) v7) (ev_ifS (t := decide (lw = 1)) (et_eqI (vn 6) ev_int) (fun h => ?_) fun h => ?_) sc_text_of.nd rfl (.inl rfl) li ?_)
      · rw [show lenL (t, lw) = nl t from if_pos (of_decide_eq_true h)]
        exact ev_strL rfl T.n_str (vn 5) ht.1 ht.2.1
      · rw [show lenL (t, lw) = nl t ++ [47] ++ nl lw from if_neg (of_decide_eq_false h)]
        have e1 := nl_len ht.2.1
        have e2 := nl_len (i := lw) (by have := ht.2.2.2; simp only at this; omega)
        refine ev_addL (ev_addL (ev_strL rfl T.n_str (vn 5) ht.1 ht.2.1) (ev_lit [47]) ?_) (ev_strL rfl T.n_str (vn 6) ht.2.2.1 (by have := ht.2.2.2; simp only at this; omega)) ?_
        · show (nl t).length + 1 ≤ _
          simp only at e1 ⊢; omega
        · simp only [List.length_append, List.length_cons, List.length_nil]
          simp only at e1 e2; omega
      · show SX _ _ _ (gTx a n rs (headL n :: (rs.take i).map partL) (.d (intsD l)) (.d (.int t)) (.d (.int lw)) (.d (.str (S (lenL (t, lw)))))) _
        refine sx_one (sy_append (a := a) (ms := (headL n :: (rs.take i).map partL).map fun s => .str (S s)) (d := .str (S (partL (l, t, lw)))) (S1 := gTx a n rs (headL n :: (rs.take i).map partL) (.d (intsD l)) (.d (.int t)) (.d (.int lw)) (.d (.str (S (lenL (t, lw)))))) (vn 3) ?_ (List.mem_singleton.mpr rfl) (List.mem_singleton.mpr rfl) (by rw [List.length_map, List.length_cons, List.length_map, List.length_take]; omega) ?_)
        · refine ev_addL (a := [32] ++ lotL l ++ [32, 61, 32] ++ lenL (t, lw)) (ev_addL (ev_addL (ev_addL (ev_lit [32]) (ev_joinL (a := [32]) (ss := l.map nl) hK.symm (ev_lit [32]) (S2 := gTx a n rs (headL n :: (rs.take i).map partL) (.d (intsD l)) (.d (.int t)) (.d (.int lw)) (.d (.str (S (lenL (t, lw)))))) ?_ ?_) ?_) (ev_lit [32, 61, 32]) ?_) (vn 7) ?_) (ev_lit [59]) ?_
          · refine ev_lcG0 (S1 := gTx a n rs (headL n :: (rs.take i).map partL) (.d (intsD l)) (.d (.int t)) (.d (.int lw)) (.d (.str (S (lenL (t, lw)))))) (g := gName 8) [("tip", 8)] (ds := l.map .int) (fun d => [.d (treeD n rs), .d (.int (n : Int)), .d (.tuple (rs.map roadD)), .m a, .d (intsD l), .d (.int t), .d (.int lw), .d (.str (S (lenL (t, lw)))), .d d]) (fun d => .str (S (nl (i0 d)))) ?_ ?_ ?_ ?_ ?_ ?_ ?_ ?_ ?_
            · rfl
            · exact sc_text_of.nd
            · exact ei_tup hK.symm (vn 4)
            · rw [List.length_map]; have := hl.1; simp only at this; omega
            · exact blkOk_by (N := N_text_of) (sc := defScope s_text_of) (by decide +kernel)
            · exact fun _ _ _ _ _ => pg_name (i := 8) sc_text_of.nd rfl (.inl rfl)
            · exact fun i d hd => tgb_name (vs := [8]) (j := 8) (g0 := [.d (treeD n rs), .d (.int (n : Int)), .d (.tuple (rs.map roadD)), .m a, .d (intsD l), .d (.int t), .d (.int lw), .d (.str (S (lenL (t, lw)))), .no]) (List.mem_singleton.mpr rfl) li
            · intro i d hd Dl acc s H C cl fp
              obtain ⟨j, hj, rfl⟩ := List.mem_map.mp (List.mem_of_getElem? hd)
              have hj6 := hl.2 j hj
              exact ev_strL rfl T.n_str (vn 8) hj6.1 (by show j ≤ 1000; omega)
            · rw [List.map_map, List.map_map]; rfl
          · have : ((l.map nl).map (·.length)).sum ≤ 6 * 4 := by
              rw [sum_flat]
              have := flat_len (k := 4) (l.map nl) fun x hx => by
                obtain ⟨i, hi, rfl⟩ := List.mem_map.mp hx
                exact nl_len (by have := hl.2 i hi; omega)
              rw [List.length_map] at this
              have h6 := hl.1
              simp only at h6
              omega
            rw [List.length_map]
            have h6 := hl.1
            simp only [List.length_cons, List.length_nil] at h6 ⊢
            omega
          · show 1 + (lotL l).length ≤ _
            simp only at ell; omega
          · show ([32] ++ lotL l).length + 3 ≤ _
            simp only [List.length_append, List.length_cons, List.length_nil] at ell ⊢; omega
          · show ([32] ++ lotL l ++ [32, 61, 32]).length + _ ≤ _
            simp only [List.length_append, List.length_cons, List.length_nil] at ell eln ⊢; omega
          · simp only [List.length_append, List.length_cons, List.length_nil] at ell eln ⊢; omega
        · refine ⟨.d (intsD l), .d (.int t), .d (.int lw), .d (.str (S (lenL (t, lw)))), ?_⟩
          rw [map_take_succ' hp]
          show DS.setm _ _ _ = _
          unfold DS.setm setM
          simp
    · obtain ⟨v4, v5, v6, v7, rfl⟩ := hW
      rw [List.length_map, List.take_length]
      refine sx_one (sy_retF (S1 := gTx a n rs (headL n :: rs.map partL) v4 v5 v6 v7) (ev_cast (ev_joinML (a := []) (ss := headL n :: rs.map partL) (l := a) (List.mem_singleton.mpr rfl) (ev_lit []) (vn 3) ?_) ?_))
      · have := textL_len hB
        rw [sum_flat, List.flatten_cons]
        show (textL n rs).length + _ * 0 ≤ _
        omega
      · rw [joinL_nil, List.flatten_cons]
        rfl
end
end KC
end
section
set_option Elab.async false
set_option linter.all false
set_option maxRecDepth 100000
set_option maxHeartbeats 4000000
set_option exponentiation.threshold 300000
namespace KC
open PySem PySem.Spec PyProof.Rows L2 DX
set_option autoImplicit false
/-! words as numbers -/
open SX (S)
def isNum (a : List Nat) : Bool := decide (1 ≤ (a.length : Int)) && decide ((a.length : Int) ≤ 3)
def digs (a : List Nat) : Bool := (a.map fun c => decide (c ∈ ("0123456789" : Str).cps.toList)).all id
def numN (a : List Nat) : Nat := if isNum a && digs a then NumText.digitsVal a else 0
def r_num (ds : List PyData) (d : PyData) : Prop := ∃ a : List Nat, a.length ≤ 1000000 ∧ ds = [.str (S a)] ∧ d = .int (numN a : Int)
theorem dig_iff (c : Nat) : decide (c ∈ ("0123456789" : Str).cps.toList) = (decide (48 ≤ c) && decide (c ≤ 57)) := by
  have e : ("0123456789" : Str).cps.toList = [48, 49, 50, 51, 52, 53, 54, 55, 56, 57] := by decide
  rw [e]
  simp only [List.mem_cons, List.not_mem_nil, or_false]
  by_cases h : 48 ≤ c ∧ c ≤ 57
  · rw [decide_eq_true h.1, decide_eq_true h.2]
    simp
    omega
  · have : (decide (48 ≤ c) && decide (c ≤ 57)) = false := by
      rw [← Bool.decide_and]
      exact decide_eq_false h
    rw [this]
    simp
    omega
theorem digs_eq (a : List Nat) : digs a = a.all fun c => decide (48 ≤ c) && decide (c ≤ 57) := by
  unfold digs
  rw [List.all_map]
  congr 1
  funext c
  exact dig_iff c
section
variable {X : Cx} {b : Bs} {S0 S1 S2 : DS} {pos : Pos}
theorem ev_inS {e1 e2 : Expr} {c : Nat} {t : Str} (h1 : EV X b e1 S0 (.d (.str ⟨#[c]⟩)) S1) (h2 : EV X b e2 S1 (.d (.str t)) S2) (hm : behindInMarks .In e2 = false := by rfl) : EV X b (.Compare e1 [.In] [e2] pos) S0 (.d (.bool (decide (c ∈ t.cps.toList)))) S2 := ev_cmp op_in_sign hm h1 h2 rv_inS
end
section
variable {P : Program} {w : World} {K : PySem.W.Frag} {mg : Str → Option Value} {base : Heap}
theorem ok_number_of (T : Tx K mg) : FnOk P w K mg base CX0 1 T.d_number_of.fa T.d_number_of.fd P_number_of (FP K r_num) := by
  refine fp_ok T.d_number_of.F sc_number_of (fun ds d h => ?_) fun cdv A outer s H E b hK hr ds d h => ?_
  · obtain ⟨a, _, rfl, _⟩ := h
    rfl
  · obtain ⟨a, ha, rfl, rfl⟩ := h
    refine sx_cons (sy_if (S1 := ⟨gStart N_number_of [.d (.str (S a))], []⟩) (t := !isNum a || !digs a) (et_w (ew_or (et_not (et_chain (X := (cxOf CX0 P w K mg base N_number_of "number_of" (defScope s_number_of) T.d_number_of.fa cdv A outer s H E).nox) op_le op_le rfl ev_int (ev_callB call_len_str rfl T.n_len PySem.boot_len (ea_cons (vn 0) ea_nil) (z := .d (.int (a.length : Int))) ?_) (ev_gint rfl (T.g_MOST_DIGITS).choose_spec (by decide)) (rv_I0 fun _ => .bl _) (rv_I0 fun _ => .bl _))) fun h1 => et_or1 (et_not (et_val (ev_callB (cr_all rfl) rfl T.n_all (by decide +kernel) (ea_cons (S1 := ⟨gStart N_number_of [.d (.str (S a))], []⟩) (x := .d (.list ((a.map fun c => decide (c ∈ ("0123456789" : Str).cps.toList)).map .bool))) ?_ ea_nil) (rc_all hK.symm)))))) (fun h => ?_) fun h => ?_)
    · have := rc_lenS (b := b) (S := ⟨gStart N_number_of [.d (.str (S a))], []⟩) (a := S a) (by rw [SX.S_len]; exact ha)
      rw [SX.S_len] at this
      exact this
    · have hl : a.length ≤ 3 := by
        have h1 : isNum a = true := by simpa using h1
        unfold isNum at h1
        rw [Bool.and_eq_true, decide_eq_true_eq, decide_eq_true_eq] at h1
        omega
      refine ev_lcG0 (S1 := ⟨gStart N_number_of [.d (.str (S a))], []⟩) (g := gName 1) [("sign", 1)] (ds := signsD (S a)) (fun d => [.d (.str (S a)), .d d]) (fun d => match d with
        | .str s => .bool (decide (s.cps.toList.headD 0 ∈ ("0123456789" : Str).cps.toList))
        | _ => .none) ?_ ?_ ?_ ?_ ?_ ?_ ?_ ?_ ?_
      · rfl
      · exact sc_number_of.nd
      · exact ei_str (vn 0)
      · unfold signsD; rw [List.length_map]; show a.length ≤ _; omega
      · exact blkOk_by (N := N_number_of) (sc := defScope s_number_of) (by decide +kernel)
      · exact fun _ _ _ _ _ => pg_name (i := 1) sc_number_of.nd rfl (.inl rfl)
      · exact fun i d hd => tgb_name (vs := [1]) (j := 1) (g0 := [.d (.str (S a)), .no]) (List.mem_singleton.mpr rfl) li
      · intro i d hd Dl acc s H C cl fp
        obtain ⟨c, hc, rfl⟩ := List.mem_map.mp (List.mem_of_getElem? hd)
        exact ev_inS (vn 1) (ev_gstr rfl (T.g_DIGITS).choose_spec (by decide))
      · unfold signsD
        rw [List.map_map, List.map_map]
        rfl
    · have e : numN a = 0 := by
        unfold numN
        rw [if_neg]
        intro h2
        rw [Bool.and_eq_true] at h2
        rw [h2.1, h2.2] at h
        cases h
      rw [e]
      exact sx_one (sy_retF ev_int)
    · have h1 : isNum a = true ∧ digs a = true := by
        cases e1 : isNum a <;> cases e2 : digs a <;> rw [e1, e2] at h <;> first | exact ⟨rfl, rfl⟩ | cases h
      have hl : 1 ≤ a.length ∧ a.length ≤ 3 := by
        have h1 := h1.1
        unfold isNum at h1
        rw [Bool.and_eq_true, decide_eq_true_eq, decide_eq_true_eq] at h1
        omega
      have e : numN a = NumText.digitsVal a := by
        unfold numN
        rw [h1.1, h1.2]; rfl
      rw [e]
      refine sx_nil (sx_one (sy_retF (ev_callTy call_int_str rfl T.n_int (by decide +kernel) (ea_cons (vn 0) ea_nil) (rc_intS (SX.int_S (by rw [← digs_eq]; exact h1.2) (fun e => by rw [e] at hl; simp at hl) (by omega)) (by rw [SX.S_len]; omega)))))
end
end KC
end
section
set_option Elab.async false
set_option linter.all false
set_option maxRecDepth 100000
set_option maxHeartbeats 4000000
set_option exponentiation.threshold 300000
namespace KC
open PySem PySem.Spec PyProof.Rows L2 DX
set_option autoImplicit false
/-! a part of a text as a road -/
open SX (S)
def par3 (sep a : List Nat) : List Nat × List Nat × List Nat := match TL.par sep [] a with
  | some (p, q) => (p, sep, q)
  | none => (a, [], [])
theorem par3_eq {sep a : List Nat} (h : sep ≠ []) : Txt.partition (S a) (S sep) = (S (par3 sep a).1, S (par3 sep a).2.1, S (par3 sep a).2.2) := by
  unfold par3
  cases e : TL.par sep [] a with
  | none => exact SX.partition_none h e
  | some v => obtain ⟨p, q⟩ := v; exact SX.partition_some h e
theorem par3_sum {sep a : List Nat} (h : sep ≠ []) : (par3 sep a).1 ++ (par3 sep a).2.1 ++ (par3 sep a).2.2 = a := by
  have := StrLaws.partition_sum (S a) (S sep)
  rw [par3_eq h] at this
  simp only [SX.S_cat] at this
  exact SX.S_inj this
theorem par3_len {sep a : List Nat} (h : sep ≠ []) : (par3 sep a).1.length ≤ a.length ∧ (par3 sep a).2.1.length ≤ a.length ∧ (par3 sep a).2.2.length ≤ a.length := by
  have := congrArg List.length (par3_sum (a := a) h)
  simp only [List.length_append] at this
  omega
def wds (a : List Nat) : List (List Nat) := TL.wfin (List.foldl TL.wstep ([], []) a)
theorem wds_eq (a : List Nat) : Txt.words (S a) = (wds a).map S := by
  apply TL.map_tl_inj
  rw [TL.words_tl, SX.map_S_tl]
  rfl
theorem wds_tot : ∀ (l : List Nat) (st : List (List Nat) × List Nat), (List.foldl TL.wstep st l).1.flatten.length + (List.foldl TL.wstep st l).2.length ≤ st.1.flatten.length + st.2.length + l.length
  | [], st => Nat.le_refl _
  | c :: l, st => by
    rw [List.foldl_cons]
    have h1 := wds_tot l (TL.wstep st c)
    have h2 : (TL.wstep st c).1.flatten.length + (TL.wstep st c).2.length ≤ st.1.flatten.length + st.2.length + 1 := by
      unfold TL.wstep
      split
      · split
        · omega
        · simp only [List.flatten_append, List.length_append, List.flatten_cons, List.flatten_nil, List.length_nil, List.append_nil]; omega
      · simp only [List.length_append, List.length_cons, List.length_nil]; omega
    rw [List.length_cons]
    omega
theorem mem_flat_len {xs : List (List Nat)} {w : List Nat} (h : w ∈ xs) : w.length ≤ xs.flatten.length := by
  induction xs with
  | nil => cases h
  | cons x xs ih =>
    rw [List.flatten_cons, List.length_append]
    rcases List.mem_cons.mp h with rfl | h
    · omega
    · have := ih h; omega
theorem wds_word {a w : List Nat} (h : w ∈ wds a) : w.length ≤ a.length := by
  have h1 := mem_flat_len h
  have h2 := wds_tot a ([], [])
  unfold wds TL.wfin at h1
  split at h1
  · simp only [List.flatten_nil, List.length_nil] at h2; omega
  · simp only [List.flatten_append, List.length_append, List.flatten_cons, List.flatten_nil, List.length_nil, List.append_nil] at h1 h2; omega
theorem wds_count (a : List Nat) : (wds a).length ≤ a.length + 1 := by
  have := words_le (S a)
  rw [wds_eq, List.length_map, SX.S_len] at this
  exact this
def roadP (a : List Nat) : Rd := ((wds (par3 [32, 61, 32] a).1).map fun w => (numN w : Int), ((numN (par3 [47] (par3 [32, 61, 32] a).2.2).1 : Int), if (par3 [47] (par3 [32, 61, 32] a).2.2).2.1 = [] then 1 else (numN (par3 [47] (par3 [32, 61, 32] a).2.2).2.2 : Int)))
def r_roadof (ds : List PyData) (d : PyData) : Prop := ∃ a : List Nat, a.length ≤ 900000 ∧ ds = [.str (S a)] ∧ d = roadD (roadP a)
section
variable {X : Cx} {b : Bs} {S0 S1 S2 : DS} {pos : Pos}
theorem ev_partL {o e : Expr} {apos : Pos} {a t : List Nat} (h1 : EV X b o S0 (.d (.str (S a))) S1) (h2 : EV X b e S1 (.d (.str (S t))) S2) (ht : t ≠ []) (ha : a.length ≤ 1000000)
    (he : starEach [e] X.env = [(false, eval e X.env)] := by rfl) (hb : attributeBase o "partition" X.env (eval o X.env) = eval o X.env := by rfl) (hp : (apos.endLine == pos.line) = true := by rfl) :
    EV X b (.Call (.Attribute o "partition" apos) [e] [] pos) S0 (.d (.tuple [.str (S (par3 t a).1), .str (S (par3 t a).2.1), .str (S (par3 t a).2.2)])) S2 := by
  refine ev_cast (ev_part h1 h2 ?_ (by rw [SX.S_len]; exact ha) he hb hp) (by rw [par3_eq ht])
  rw [SX.S_len]
  cases t with
  | nil => exact (ht rfl).elim
  | cons x t => rfl
theorem ev_wordsL {o : Expr} {apos : Pos} {a : List Nat} (h1 : EV X b o S0 (.d (.str (S a))) S1) (ha : a.length ≤ 1000000)
    (hb : attributeBase o "split" X.env (eval o X.env) = eval o X.env := by rfl) (hp : (apos.endLine == pos.line) = true := by rfl) :
    EV X b (.Call (.Attribute o "split" apos) [] [] pos) S0 (.d (.list ((wds a).map fun w => .str (S w)))) S1 := ev_cast (ev_words h1 (by rw [SX.S_len]; exact ha) hb hp) (by rw [wds_eq, List.map_map]; rfl)
theorem et_strL {e : Expr} {s : List Nat} (h : EV X b e S0 (.d (.str (S s))) S1) (hl : s.length ≤ 1000000) (he : ∀ whole, isTrue e X.env whole = (do let v ← whole; standAt e.pos; holding [v] (truthy v)) := by intro _; rfl) : ET X b e S0 (!decide (s = [])) S1 := by
  have := et_str h (by rw [SX.S_len]; exact hl) he
  rw [SX.S_len] at this
  rw [show (!decide (s = [])) = (s.length != 0) by cases s <;> rfl]
  exact this
end
section
variable {P : Program} {w : World} {K : PySem.W.Frag} {mg : Str → Option Value} {base : Heap}
abbrev gRo (a l q t s w : List Nat) (v7 v8 : DV) : DS := ⟨[.d (.str (S a)), .d (.str (S l)), .d (.str (S [])), .d (.str (S q)), .d (.str (S t)), .d (.str (S s)), .d (.str (S w)), v7, v8, .no], []⟩
theorem ok_road_of (T : Tx K mg) : FnOk P w K mg base CX0 2 T.d_road_of.fa T.d_road_of.fd P_road_of (FP K r_roadof) := by
  refine fp_ok T.d_road_of.F sc_road_of (fun ds d h => ?_) fun cdv A outer s H E b hK hr ds d h => ?_
  · obtain ⟨a, _, rfl, _⟩ := h
    rfl
  · obtain ⟨a, ha, rfl, rfl⟩ := h
    obtain ⟨z1, z2, z3⟩ := par3_len (sep := [32, 61, 32]) (a := a) (by decide)
    obtain ⟨y1, y2, y3⟩ := par3_len (sep := [47]) (a := (par3 [32, 61, 32] a).2.2) (by decide)
    have er : roadP a = ((wds (par3 [32, 61, 32] a).1).map fun w => (numN w : Int), ((numN (par3 [47] (par3 [32, 61, 32] a).2.2).1 : Int), if (par3 [47] (par3 [32, 61, 32] a).2.2).2.1 = [] then 1 else (numN (par3 [47] (par3 [32, 61, 32] a).2.2).2.2 : Int))) := rfl
    rw [er]
    refine sx_cons (sy_unpack (S2 := ⟨[.d (.str (S a)), .d (.str (S (par3 [32, 61, 32] a).1)), .d (.str (S (par3 [32, 61, 32] a).2.1)), .d (.str (S (par3 [32, 61, 32] a).2.2)), .no, .no, .no, .no, .no, .no], []⟩) (ev_partL (vn 0) (ev_lit [32, 61, 32]) (by decide) (by omega)) (pg_tup rfl (pgs_cons (pg_name (i := 1) sc_road_of.nd rfl (.inl rfl)) (pgs_cons (pg_name (i := 2) sc_road_of.nd rfl (.inl rfl)) (pgs_cons (pg_name (i := 3) sc_road_of.nd rfl (.inl rfl)) pgs_nil)))) (tg_tup hK.symm rfl (.cons (S := ⟨gStart N_road_of [.d (.str (S a))], []⟩) (tg_name (i := 1) li) rfl (.cons (tg_name (i := 2) li) rfl (.cons (tg_name (i := 3) li) rfl .nil)))) rfl ?_)
    generalize hu1 : (par3 [32, 61, 32] a).1 = u1 at *
    generalize (par3 [32, 61, 32] a).2.1 = u2 at *
    generalize (par3 [32, 61, 32] a).2.2 = u3 at *
    refine sx_cons (sy_unpack (S2 := ⟨[.d (.str (S a)), .d (.str (S u1)), .d (.str (S u2)), .d (.str (S u3)), .d (.str (S (par3 [47] u3).1)), .d (.str (S (par3 [47] u3).2.1)), .d (.str (S (par3 [47] u3).2.2)), .no, .no, .no], []⟩) (ev_partL (vn 3) (ev_lit [47]) (by decide) (by omega)) (pg_tup rfl (pgs_cons (pg_name (i := 4) sc_road_of.nd rfl (.inl rfl)) (pgs_cons (pg_name (i := 5) sc_road_of.nd rfl (.inl rfl)) (pgs_cons (pg_name (i := 6) sc_road_of.nd rfl (.inl rfl)) pgs_nil)))) (tg_tup hK.symm rfl (.cons (S := ⟨[.d (.str (S a)), .d (.str (S u1)), .d (.str (S u2)), .d (.str (S u3)), .no, .no, .no, .no, .no, .no], []⟩) (tg_name (i := 4) li) rfl (.cons (tg_name (i := 5) li) rfl (.cons (tg_name (i := 6) li) rfl .nil)))) rfl ?_)
    generalize (par3 [47] u3).1 = v1 at *
    generalize (par3 [47] u3).2.1 = v2 at *
    generalize (par3 [47] u3).2.2 = v3 at *
    refine sx_cons (sy_asg (i := 7) (x := .d (intsD ((wds u1).map fun w => (numN w : Int)))) (S1 := ⟨[.d (.str (S a)), .d (.str (S u1)), .d (.str (S u2)), .d (.str (S u3)), .d (.str (S v1)), .d (.str (S v2)), .d (.str (S v3)), .no, .no, .no], []⟩) (ev_tupleL hK.symm rfl T.n_tuple (S1 := ⟨[.d (.str (S a)), .d (.str (S u1)), .d (.str (S u2)), .d (.str (S u3)), .d (.str (S v1)), .d (.str (S v2)), .d (.str (S v3)), .no, .no, .no], []⟩) (ds := ((wds u1).map fun w => (numN w : Int)).map .int) ?_) sc_road_of.nd rfl (.inl rfl) li ?_)
    · refine ev_lcG0W (S1 := ⟨[.d (.str (S a)), .d (.str (S u1)), .d (.str (S u2)), .d (.str (S u3)), .d (.str (S v1)), .d (.str (S v2)), .d (.str (S v3)), .no, .no, .no], []⟩) (g := gName 9) [("word", 9)] (ds := (wds u1).map fun w => .str (S w)) (fun d => [.d (.str (S a)), .d (.str (S u1)), .d (.str (S u2)), .d (.str (S u3)), .d (.str (S v1)), .d (.str (S v2)), .d (.str (S v3)), .no, .no, .d d]) (fun d => match d with
        | .str s => .int (numN s.cps.toList : Int)
        | _ => .none) ?_ ?_ ?_ ?_ ?_ ?_ ?_ ?_ ?_
      · rfl
      · exact sc_road_of.nd
      · exact ei_lst hK.symm (ev_wordsL (vn 1) (by omega))
      · rw [List.length_map]; have := wds_count u1; omega
      · exact blkOk_by (N := N_road_of) (sc := defScope s_road_of) (by decide +kernel)
      · exact fun _ _ _ _ _ => pg_name (i := 9) sc_road_of.nd rfl (.inl rfl)
      · exact fun i d hd => tgb_name (vs := [9]) (j := 9) (g0 := [.d (.str (S a)), .d (.str (S u1)), .d (.str (S u2)), .d (.str (S u3)), .d (.str (S v1)), .d (.str (S v2)), .d (.str (S v3)), .no, .no, .no]) (List.mem_singleton.mpr rfl) li
      · intro i d hd Dl acc s H C cl fp
        obtain ⟨q, hq, rfl⟩ := List.mem_map.mp (List.mem_of_getElem? hd)
        have := wds_word hq
        exact ev_call (ok_number_of T) hK.symm (hr.mono (by decide)) rfl T.d_number_of.m T.d_number_of.F.kp T.d_number_of.b pass0 (ds := [.str (S q)]) (ea_cons (vn 9) ea_nil) ⟨q, by omega, rfl, rfl⟩
      · rw [List.map_map, List.map_map]; rfl
    · generalize ((wds u1).map fun w => (numN w : Int)) = lot
      refine sx_cons (sy_asg (i := 8) (x := .d (.int (if v2 = [] then 1 else (numN v3 : Int)))) (S1 := ⟨[.d (.str (S a)), .d (.str (S u1)), .d (.str (S u2)), .d (.str (S u3)), .d (.str (S v1)), .d (.str (S v2)), .d (.str (S v3)), .d (intsD lot), .no, .no], []⟩) (ev_ifS (t := !decide (v2 = [])) (et_strL (vn 5) (by omega)) (fun h => ?_) fun h => ?_) sc_road_of.nd rfl (.inl rfl) li ?_)
      · have h : ¬ v2 = [] := by simpa using h
        rw [if_neg h]
        exact ev_call (ok_number_of T) hK.symm (hr.mono (by decide)) rfl T.d_number_of.m T.d_number_of.F.kp T.d_number_of.b pass0 (ds := [.str (S v3)]) (ea_cons (vn 6) ea_nil) ⟨v3, by omega, rfl, rfl⟩
      · have h : v2 = [] := by simpa using h
        rw [if_pos h]
        exact ev_int
      · generalize (if v2 = [] then 1 else (numN v3 : Int)) = lw
        exact sx_one (sy_retF (ev_tup (ds := [intsD lot, .tuple [.int (numN v1 : Int), .int lw]]) (ea_cons (vn 7) (ea_cons (ev_tup (ds := [.int (numN v1 : Int), .int lw]) (ea_cons (ev_call (ok_number_of T) hK.symm (hr.mono (by decide)) rfl T.d_number_of.m T.d_number_of.F.kp T.d_number_of.b pass0 (ds := [.str (S v1)]) (ea_cons (vn 4) ea_nil) ⟨v1, by omega, rfl, rfl⟩) (ea_cons (vn 8) ea_nil)) lq) ea_nil)) lq))
end
end KC
end
section
set_option Elab.async false
set_option linter.all false
set_option maxRecDepth 100000
set_option maxHeartbeats 4000000
set_option exponentiation.threshold 300000
namespace KC
open PySem PySem.Spec PyProof.Rows L2 DX
set_option autoImplicit false
/-! write and read -/
open SX (S)
structure TxE {K : PySem.W.Frag} {mg : Str → Option Value} (T : Tx K mg) : Prop where
  tree : ExcK K T.c_BadTree
  text : ExcK K T.c_BadText
theorem Str.isStr : bootBuiltins "str" = some (.type "str") := by decide +kernel
def few25 (x : PyData) : Prop := ∀ m xs, x = .tuple [m, .tuple xs] → xs.length ≤ 900
def r_check (C : Addr) (ds : List PyData) (r : Res) : Prop := ∃ x, ds = [x] ∧ few25 x ∧ ((isTree x = true ∧ r = .val .none) ∨ (isTree x = false ∧ r = .err C))
def r_write (C : Addr) (ds : List PyData) (r : Res) : Prop := ∃ x, ds = [x] ∧ few25 x ∧ ((isTree x = false ∧ r = .err C) ∨ ∃ n rs, TrB n rs ∧ x = treeD n rs ∧ isTree x = true ∧ r = .val (.str (S (textL n rs))))
def spl59 (a : List Nat) : List (List Nat) := TL.spl [59] 0 [] a
def readP (a : List Nat) : Nat × List Rd := (numN (par3 [58] a).1, (spl59 (par3 [58] a).2.2).dropLast.map roadP)
def r_read (C : Addr) (ds : List PyData) (r : Res) : Prop := ∃ x, ds = [x] ∧ ((isInst x "str" = false ∧ r = .err C) ∨ ∃ a : List Nat, x = .str (S a) ∧ a.length ≤ 900000 ∧ (spl59 (par3 [58] a).2.2).length ≤ 901 ∧
  r = if isTree (treeD (readP a).1 (readP a).2) && decide (textL (readP a).1 (readP a).2 = a) then .val (treeD (readP a).1 (readP a).2) else .err C)
theorem spl_hit59 (acc r : List Nat) : TL.spl [59] 0 acc (59 :: r) = acc :: TL.spl [59] 0 [] r := TL.spl_hit (by simp [TL.pre])
theorem spl_miss59 {c : Nat} (h : c ≠ 59) (acc r : List Nat) : TL.spl [59] 0 acc (c :: r) = TL.spl [59] 0 (acc ++ [c]) r := TL.spl_miss (TL.pre_of_head _ _ h)
theorem spl_bound : ∀ (l acc : List Nat), ∀ q ∈ TL.spl [59] 0 acc l, q.length ≤ acc.length + l.length
  | [], acc, q, h => by
    rw [TL.spl_nil, List.mem_singleton] at h
    rw [h]; exact Nat.le_add_right _ _
  | c :: r, acc, q, h => by
    by_cases hc : c = 59
    · subst hc
      rw [spl_hit59] at h
      rcases List.mem_cons.mp h with rfl | h
      · omega
      · have := spl_bound r [] q h
        simp only [List.length_nil, List.length_cons] at this ⊢
        omega
    · rw [spl_miss59 hc] at h
      have := spl_bound r _ q h
      simp only [List.length_append, List.length_cons, List.length_nil] at this ⊢
      omega
theorem few_treeD {n : Nat} {rs : List Rd} (h : rs.length ≤ 900) : few25 (treeD n rs) := fun m xs e => by
  unfold treeD at e
  injection e with e
  injection e with _ e
  injection e with e _
  injection e with e
  rw [← e, List.length_map]
  exact h
theorem isTree_bound {n : Nat} {rs : List Rd} (h : isTree (treeD n rs) = true) (hf : rs.length ≤ 900) : TrB n rs := by
  have h : (isMany (.int (n : Int)) && isRoads (n : Int) (.tuple (rs.map roadD))) = true := h
  rw [Bool.and_eq_true] at h
  have hm : (decide (3 ≤ (n : Int)) && decide ((n : Int) ≤ 6)) = true := h.1
  rw [Bool.and_eq_true, decide_eq_true_eq, decide_eq_true_eq] at hm
  have h2 : (((rs.map roadD).map roadOk).all id && isShape (n : Int) ((rs.map roadD).map fst0)) = true := h.2
  rw [Bool.and_eq_true] at h2
  have h3 := (all_map_id _ _).mp h2.1
  have h4 : ((((rs.map roadD).map fst0).map (isLot (n : Int))).all id && _) = true := h2.2
  rw [Bool.and_eq_true] at h4
  have h5 := (all_map_id _ _).mp h4.1
  refine ⟨by omega, hf, fun p hp => ?_, fun p hp => ?_⟩
  · have := h5 (fst0 (roadD p)) (List.mem_map.mpr ⟨_, List.mem_map.mpr ⟨p, hp, rfl⟩, rfl⟩)
    have this : isLot (n : Int) (intsD p.1) = true := this
    obtain ⟨ns, e, e2, e3, e4, _⟩ := isLot_inv this
    have e : p.1 = ns := by rw [← intsOf_ints p.1, e, intsOf_ints]
    subst e
    exact ⟨by omega, fun i hi => by have := e4 i hi; omega⟩
  · have := h3 (roadD p) (List.mem_map.mpr ⟨p, hp, rfl⟩)
    have this : (isPair (roadD p) && isLength (frD p.2)) = true := this
    rw [Bool.and_eq_true] at this
    have h6 : (isFrac (.tuple [.int p.2.1, .int p.2.2]) && (decide (p.2.2 ≤ 2) && (decide (0 < p.2.1) && decide (p.2.1 ≤ 500 * p.2.2)))) = true := this.2
    simp only [Bool.and_eq_true, decide_eq_true_eq] at h6
    omega
section
variable {X : Cx} {b : Bs} {S0 S1 S2 : DS} {pos : Pos}
theorem ev_splitL {o e : Expr} {apos : Pos} {a : List Nat} (h1 : EV X b o S0 (.d (.str (S a))) S1) (h2 : EV X b e S1 (.d (.str (S [59]))) S2) (ha : a.length ≤ 1000000)
    (he : starEach [e] X.env = [(false, eval e X.env)] := by rfl) (hb : attributeBase o "split" X.env (eval o X.env) = eval o X.env := by rfl) (hp : (apos.endLine == pos.line) = true := by rfl) :
    EV X b (.Call (.Attribute o "split" apos) [e] [] pos) S0 (.d (.list ((spl59 a).map fun w => .str (S w)))) S2 :=
  ev_cast (ev_split h1 h2 (by decide) (by rw [SX.S_len]; exact ha) he hb hp) (by rw [SX.split_S (by decide) (by decide), List.map_map]; rfl)
theorem rv_eqS {a t : List Nat} : RV b rEq (.d (.str (S a))) (.d (.str (S t))) S0 (.d (.bool (decide (a = t)))) := by
  intro H u v rm hu hv Q q
  cases hu; cases hv
  refine ⟨rfl, q _ H ?_ (fun _ h => h) (Ex.refl _)⟩
  have : decide (V.str (S a) = V.str (S t)) = decide (a = t) := by
    by_cases h : a = t
    · subst h; simp
    · have : ¬ V.str (S a) = V.str (S t) := fun e => h (SX.S_inj (by injection e))
      simp only [h, this, decide_false]
  rw [this]
  exact .bl _
theorem rv_neS {a t : List Nat} : RV b rNe (.d (.str (S a))) (.d (.str (S t))) S0 (.d (.bool (!decide (a = t)))) := by
  intro H u v rm hu hv Q q
  cases hu; cases hv
  refine ⟨rfl, q _ H ?_ (fun _ h => h) (Ex.refl _)⟩
  have : decide (V.str (S a) = V.str (S t)) = decide (a = t) := by
    by_cases h : a = t
    · subst h; simp
    · have : ¬ V.str (S a) = V.str (S t) := fun e => h (SX.S_inj (by injection e))
      simp only [h, this, decide_false]
  rw [this]
  exact .bl _
theorem et_eqS {e1 e2 : Expr} {a t : List Nat} (h1 : EV X b e1 S0 (.d (.str (S a))) S1) (h2 : EV X b e2 S1 (.d (.str (S t))) S2) : ET X b (.Compare e1 [.Eq] [e2] pos) S0 (decide (a = t)) S2 := et_cmp op_eq (nobehind _ (by decide) (by decide)) h1 h2 rv_eqS
theorem et_neS {e1 e2 : Expr} {a t : List Nat} (h1 : EV X b e1 S0 (.d (.str (S a))) S1) (h2 : EV X b e2 S1 (.d (.str (S t))) S2) : ET X b (.Compare e1 [.NotEq] [e2] pos) S0 (!decide (a = t)) S2 := et_cmp op_ne (nobehind _ (by decide) (by decide)) h1 h2 rv_neS
end
section
variable {P : Program} {w : World} {K : PySem.W.Frag} {mg : Str → Option Value} {base : Heap}
theorem ok_check_tree (T : Tx K mg) (TE : TxE T) : FnOk P w K mg base (L2.CX P w) 6 T.d_check_tree.fa T.d_check_tree.fd P_check_tree (FX K (r_check T.c_BadTree)) := by
  refine fx_ok T.d_check_tree.F sc_check_tree (fun ds r h => ?_) fun cdv A outer s H E b hK hfx hr ds r h hE => ?_
  · obtain ⟨x, rfl, _⟩ := h
    rfl
  · obtain ⟨x, rfl, h25, h⟩ := h
    refine sx_one (sy_if (t := !isTree x) (et_not (et_val (ev_call (ok_is_tree T) hK.symm (hr.mono (by decide)) rfl T.d_is_tree.m T.d_is_tree.F.kp T.d_is_tree.b pass0 (ds := [x]) (ea_cons (vn 0) ea_nil) ⟨_, rfl, h25, rfl⟩))) (fun hx => ?_) fun hx => ?_)
    · rcases h with ⟨h1, _⟩ | ⟨_, rfl⟩
      · rw [h1] at hx; cases hx
      · exact sx_one (sy_raise0 TE.tree T.m_BadTree rfl rfl (takes_of rfl rfl rfl rfl) fun H' rm => hE _ rfl _ H' rm)
    · rcases h with ⟨_, rfl⟩ | ⟨h1, _⟩
      · exact sx_nil rfl
      · rw [h1] at hx; cases hx
theorem ok_write (T : Tx K mg) (TE : TxE T) : FnOk P w K mg base (L2.CX P w) 7 T.d_write.fa T.d_write.fd P_write (FX K (r_write T.c_BadTree)) := by
  refine fx_ok T.d_write.F sc_write (fun ds r h => ?_) fun cdv A outer s H E b hK hfx hr ds r h hE => ?_
  · obtain ⟨x, rfl, _⟩ := h
    rfl
  · obtain ⟨x, rfl, h25, h⟩ := h
    rcases h with ⟨h1, rfl⟩ | ⟨n, rs, hB, rfl, h1, rfl⟩
    · exact sx_cons (sy_callX (r := .err T.c_BadTree) (ok_check_tree T TE) hK.symm hr rfl T.d_check_tree.m T.d_check_tree.F.kp T.d_check_tree.b (takes_of rfl rfl rfl rfl) (ds := [x]) (ea_cons (vn 0) ea_nil) ⟨x, rfl, h25, .inr ⟨h1, rfl⟩⟩ (fun d e => by cases e) fun C e H' rm => hE C e _ H' rm)
    · refine sx_cons (sy_callX (r := .val .none) (ok_check_tree T TE) hK.symm hr rfl T.d_check_tree.m T.d_check_tree.F.kp T.d_check_tree.b (takes_of rfl rfl rfl rfl) (ds := [treeD n rs]) (ea_cons (vn 0) ea_nil) ⟨_, rfl, h25, .inl ⟨h1, rfl⟩⟩ (fun d e => ?_) fun C e => by cases e)
      exact sx_one (sy_retX (ev_call (ok_text_of T) hK.symm (hr.mono (by decide)) rfl T.d_text_of.m T.d_text_of.F.kp T.d_text_of.b pass0 (ds := [treeD n rs]) (ea_cons (vn 0) ea_nil) ⟨n, rs, hB, rfl, rfl⟩))
abbrev gRe (a r : List Nat) (v1 v2 v4 : DV) : DS := ⟨[.d (.str (S a)), v1, v2, .d (.str (S r)), v4, .no], []⟩
theorem ok_read (T : Tx K mg) (TE : TxE T) : FnOk P w K mg base (L2.CX P w) 6 T.d_read.fa T.d_read.fd P_read (FX K (r_read T.c_BadText)) := by
  refine fx_ok T.d_read.F sc_read (fun ds r h => ?_) fun cdv A outer s H E b hK hfx hr ds r h hE => ?_
  · obtain ⟨x, rfl, _⟩ := h
    rfl
  · obtain ⟨x, rfl, h⟩ := h
    rcases h with ⟨h1, rfl⟩ | ⟨a, rfl, ha, hsp, rfl⟩
    · refine sx_cons (sy_if (t := !isInst x "str") (et_not (et_val (ev_isi hK.symm rfl T.n_isinstance rfl T.n_str Str.isStr (.inr (.inr (.inl rfl))) (vn 0)))) (fun _ => sx_one (sy_raise0 TE.text T.m_BadText rfl rfl (takes_of rfl rfl rfl rfl) fun H' rm => hE _ rfl _ H' rm)) fun h => by rw [h1] at h; cases h)
    · refine sx_cons (sy_if (t := !isInst (.str (S a)) "str") (et_not (et_val (ev_isi hK.symm rfl T.n_isinstance rfl T.n_str Str.isStr (.inr (.inr (.inl rfl))) (vn 0)))) (fun h => by cases h) fun _ => sx_nil ?_)
      obtain ⟨z1, z2, z3⟩ := par3_len (sep := [58]) (a := a) (by decide)
      have er : readP a = (numN (par3 [58] a).1, (spl59 (par3 [58] a).2.2).dropLast.map roadP) := rfl
      rw [er] at hE ⊢
      refine sx_cons (sy_unpack (S2 := gRe a (par3 [58] a).2.2 (.d (.str (S (par3 [58] a).1))) (.d (.str (S (par3 [58] a).2.1))) .no) (ev_partL (vn 0) (ev_lit [58]) (by decide) (by omega)) (pg_tup rfl (pgs_cons (pg_name (i := 1) sc_read.nd rfl (.inl rfl)) (pgs_cons (pg_name (i := 2) sc_read.nd rfl (.inl rfl)) (pgs_cons (pg_name (i := 3) sc_read.nd rfl (.inl rfl)) pgs_nil)))) (tg_tup hK.symm rfl (.cons (S := ⟨gStart N_read [.d (.str (S a))], []⟩) (tg_name (i := 1) li) rfl (.cons (tg_name (i := 2) li) rfl (.cons (tg_name (i := 3) li) rfl .nil)))) rfl ?_)
      generalize (par3 [58] a).1 = u1 at *
      generalize (par3 [58] a).2.1 = u2 at *
      generalize (par3 [58] a).2.2 = u3 at *
      have hrl : ((spl59 u3).dropLast.map roadP).length ≤ 900 := by rw [List.length_map, List.length_dropLast]; omega
      have hpl : ∀ q ∈ (spl59 u3).dropLast, q.length ≤ 900000 := fun q hq => ?_
      · generalize hrs : (spl59 u3).dropLast.map roadP = rs at *
        refine sx_cons (sy_asg (i := 4) (x := .d (treeD (numN u1) rs)) (S1 := gRe a u3 (.d (.str (S u1))) (.d (.str (S u2))) .no) (ev_tup (ds := [.int (numN u1 : Int), .tuple (rs.map roadD)]) (ea_cons (ev_call (ok_number_of T) hK.symm (hr.mono (by decide)) rfl T.d_number_of.m T.d_number_of.F.kp T.d_number_of.b pass0 (ds := [.str (S u1)]) (ea_cons (vn 1) ea_nil) ⟨u1, by omega, rfl, rfl⟩) (ea_cons (ev_tupleL hK.symm rfl T.n_tuple (S1 := gRe a u3 (.d (.str (S u1))) (.d (.str (S u2))) .no) (ds := rs.map roadD) ?_) ea_nil)) lq) sc_read.nd rfl (.inl rfl) li ?_)
        · refine ev_lcG0 (S1 := gRe a u3 (.d (.str (S u1))) (.d (.str (S u2))) .no) (g := gName 5) [("part", 5)] (ds := ((spl59 u3).map fun w => PyData.str (S w)).dropLast) (fun d => [.d (.str (S a)), .d (.str (S u1)), .d (.str (S u2)), .d (.str (S u3)), .no, .d d]) (fun d => match d with
            | .str s => roadD (roadP s.cps.toList)
            | _ => .none) ?_ ?_ ?_ ?_ ?_ ?_ ?_ ?_ ?_
          · rfl
          · exact sc_read.nd
          · exact ei_lst hK.symm (ev_butL hK.symm (ev_splitL (vn 3) (ev_lit [59]) (by omega)) (ev_neg ev_int))
          · rw [List.length_dropLast, List.length_map]; omega
          · exact blkOk_by (N := N_read) (sc := defScope s_read) (by decide +kernel)
          · exact fun _ _ _ _ _ => pg_name (i := 5) sc_read.nd rfl (.inl rfl)
          · exact fun i d hd => tgb_name (vs := [5]) (j := 5) (g0 := [.d (.str (S a)), .d (.str (S u1)), .d (.str (S u2)), .d (.str (S u3)), .no, .no]) (List.mem_singleton.mpr rfl) li
          · intro i d hd Dl acc s H C cl fp
            rw [← List.map_dropLast] at hd
            obtain ⟨q, hq, rfl⟩ := List.mem_map.mp (List.mem_of_getElem? hd)
            exact ev_call (ok_road_of T) hK.symm (hr.mono (by decide)) rfl T.d_road_of.m T.d_road_of.F.kp T.d_road_of.b pass0 (ds := [.str (S q)]) (ea_cons (vn 5) ea_nil) ⟨q, hpl q hq, rfl, rfl⟩
          · rw [← List.map_dropLast, List.map_map, ← hrs, List.map_map]; rfl
        · show SX _ _ _ (gRe a u3 (.d (.str (S u1))) (.d (.str (S u2))) (.d (treeD (numN u1) rs))) _
          refine sx_cons (sy_if (S1 := gRe a u3 (.d (.str (S u1))) (.d (.str (S u2))) (.d (treeD (numN u1) rs))) (t := !isTree (treeD (numN u1) rs) || !decide (textL (numN u1) rs = a)) (et_w (ew_or (et_not (et_val (ev_call (ok_is_tree T) hK.symm (hr.mono (by decide)) rfl T.d_is_tree.m T.d_is_tree.F.kp T.d_is_tree.b pass0 (ds := [treeD (numN u1) rs]) (ea_cons (vn 4) ea_nil) ⟨_, rfl, few_treeD hrl, rfl⟩))) fun hx => et_or1 (et_neS (ev_call (ok_text_of T) hK.symm (hr.mono (by decide)) rfl T.d_text_of.m T.d_text_of.F.kp T.d_text_of.b pass0 (ds := [treeD (numN u1) rs]) (ea_cons (vn 4) ea_nil) ⟨_, _, isTree_bound (by simpa using hx) hrl, rfl, rfl⟩) (vn 0)))) (fun h => ?_) fun h => ?_)
          · have e : (isTree (treeD (numN u1) rs) && decide (textL (numN u1) rs = a)) = false := by
              rw [← Bool.not_and] at h
              exact (Bool.not_eq_true' _).mp h
            rw [e] at hE
            exact sx_one (sy_raise0 TE.text T.m_BadText rfl rfl (takes_of rfl rfl rfl rfl) fun H' rm => hE _ rfl _ H' rm)
          · have e : (isTree (treeD (numN u1) rs) && decide (textL (numN u1) rs = a)) = true := by
              rw [← Bool.not_and] at h
              simpa using h
            rw [e]
            exact sx_nil (sx_one (sy_retX (vn 4)))
      · have := spl_bound u3 [] q ((List.dropLast_sublist _).subset hq)
        simp only [List.length_nil] at this
        omega
end
end KC
end
section
set_option Elab.async false
set_option linter.all false
set_option maxRecDepth 100000
set_option maxHeartbeats 4000000
set_option exponentiation.threshold 300000
namespace KC
open PySem PySem.Spec PyProof.Rows L2 DX
set_option autoImplicit false
open SX (S)
/-! alike -/
inductive Alk : Nat → PyData → Prop
  | int (n : Nat) (i : Int) : Alk n (.int i)
  | str (n : Nat) (a : List Nat) : Alk n (.str (S a))
  | tup {n : Nat} {xs : List PyData} : xs.length ≤ 1000 → (∀ x ∈ xs, Alk n x) → Alk (n + 1) (.tuple xs)
def r_alike (n : Nat) (ds : List PyData) (d : PyData) : Prop := ∃ x, ds = [x, x] ∧ Alk n x ∧ d = .bool true
theorem outs_no (y : Nat → PyData) : ∀ n, outs (fun _ => !true) y n = []
  | 0 => rfl
  | n + 1 => by
    unfold outs
    rw [outs_no y n]
    rfl
theorem alk_ints (ns : List Int) (h : ns.length ≤ 1000) (n : Nat) : Alk (n + 1) (intsD ns) := .tup (by rw [List.length_map]; exact h) fun x hx => by
  obtain ⟨i, _, rfl⟩ := List.mem_map.mp hx
  exact .int _ _
theorem alk_treeD {n : Nat} {rs : List Rd} (h : TrB n rs) : Alk 4 (treeD n rs) := .tup lq fun x hx => by
  rcases List.mem_cons.mp hx with rfl | hx
  · exact .int _ _
  · rw [List.mem_singleton] at hx
    subst hx
    refine .tup (by rw [List.length_map]; have := h.few; omega) fun x hx => ?_
    obtain ⟨p, hp, rfl⟩ := List.mem_map.mp hx
    refine .tup lq fun x hx => ?_
    rcases List.mem_cons.mp hx with rfl | hx
    · exact alk_ints _ (by have := (h.lot p hp).1; omega) 0
    · rw [List.mem_singleton] at hx
      subst hx
      refine .tup lq fun x hx => ?_
      rcases List.mem_cons.mp hx with rfl | hx
      · exact .int _ _
      · rw [List.mem_singleton] at hx
        subst hx
        exact .int _ _
section
variable {P : Program} {w : World} {K : PySem.W.Frag} {mg : Str → Option Value} {base : Heap}
theorem Str.isList : bootBuiltins "list" = some (.type "list") := by decide +kernel
theorem ok_law_alike (T : Tx K mg) : ∀ n, FnOk P w K mg base CX0 (n + 1) T.d_law_alike.fa T.d_law_alike.fd P_law_alike (FP K (r_alike n)) := by
  intro n
  induction n with
  | zero =>
    refine fp_ok T.d_law_alike.F sc_law_alike (fun ds d h => ?_) fun cdv A outer s H E b hK hr ds d h => ?_
    · obtain ⟨x, rfl, _⟩ := h
      rfl
    · obtain ⟨x, rfl, hx, rfl⟩ := h
      cases hx with
      | int _ i =>
        refine sx_cons (sy_if (t := isInst (.int i) "tuple" || isInst (.int i) "list") (et_val (ev_isi2 hK.symm rfl T.n_isinstance rfl T.n_tuple Str.isTuple (.inr (.inr (.inr (.inl rfl)))) rfl T.n_list Str.isList (.inr (.inr (.inr (.inr rfl)))) (vn 1))) (fun h => by cases h) fun _ => sx_nil ?_)
        refine sx_cons (sy_if (t := isNoneD (.int i) || isInst (.int i) "str") (et_w (ew_or (et_isN (vn 1)) fun _ => et_or1 (et_val (ev_isi hK.symm rfl T.n_isinstance rfl T.n_str Str.isStr (.inr (.inr (.inl rfl))) (vn 1))))) (fun h => by cases h) fun _ => sx_nil ?_)
        refine sx_one (sy_ret (x := .d (.bool (isInst (.int i) "int" && (PyData.eqv (.bool (isInst (.int i) "bool")) (.bool (isInst (.int i) "bool")) && decide (i = i))))) (ev_and (ev_isi hK.symm rfl T.n_isinstance rfl T.n_int Str.isInt (.inl rfl) (vn 0)) fun _ => ev_and (ev_eq hK.symm hr.units (ev_isi hK.symm rfl T.n_isinstance rfl T.n_bool Str.isBool (.inr (.inl rfl)) (vn 0)) (ev_isi hK.symm rfl T.n_isinstance rfl T.n_bool Str.isBool (.inr (.inl rfl)) (vn 1)) (by rfl) (by rfl)) fun _ => ev_one (ev_eqI (vn 0) (vn 1))) ?_)
        show DV.d (.bool _) = .d (.bool true)
        rw [decide_eq_true rfl]
        rfl
      | str _ a =>
        refine sx_cons (sy_if (t := isInst (.str (S a)) "tuple" || isInst (.str (S a)) "list") (et_val (ev_isi2 hK.symm rfl T.n_isinstance rfl T.n_tuple Str.isTuple (.inr (.inr (.inr (.inl rfl)))) rfl T.n_list Str.isList (.inr (.inr (.inr (.inr rfl)))) (vn 1))) (fun h => by cases h) fun _ => sx_nil ?_)
        refine sx_cons (sy_if (t := isNoneD (.str (S a)) || isInst (.str (S a)) "str") (et_w (ew_or (et_isN (vn 1)) fun _ => et_or1 (et_val (ev_isi hK.symm rfl T.n_isinstance rfl T.n_str Str.isStr (.inr (.inr (.inl rfl))) (vn 1))))) (fun _ => ?_) fun h => by cases h)
        refine sx_one (sy_ret (x := .d (.bool (decide (a = a) && PyData.eqv (.bool (isInst (.str (S a)) "str")) (.bool (isInst (.str (S a)) "str"))))) (ev_and (ev_cmp op_eq (nobehind _ (by decide) (by decide)) (vn 0) (vn 1) rv_eqS) fun _ => ev_one (ev_eq hK.symm hr.units (ev_isi hK.symm rfl T.n_isinstance rfl T.n_str Str.isStr (.inr (.inr (.inl rfl))) (vn 0)) (ev_isi hK.symm rfl T.n_isinstance rfl T.n_str Str.isStr (.inr (.inr (.inl rfl))) (vn 1)) (by rfl) (by rfl))) ?_)
        show DV.d (.bool _) = .d (.bool true)
        rw [decide_eq_true rfl]
        rfl
  | succ n ih =>
    refine fp_ok T.d_law_alike.F sc_law_alike (fun ds d h => ?_) fun cdv A outer s H E b hK hr ds d h => ?_
    · obtain ⟨x, rfl, _⟩ := h
      rfl
    · obtain ⟨x, rfl, hx, rfl⟩ := h
      cases hx with
      | int _ i =>
        refine sx_cons (sy_if (t := isInst (.int i) "tuple" || isInst (.int i) "list") (et_val (ev_isi2 hK.symm rfl T.n_isinstance rfl T.n_tuple Str.isTuple (.inr (.inr (.inr (.inl rfl)))) rfl T.n_list Str.isList (.inr (.inr (.inr (.inr rfl)))) (vn 1))) (fun h => by cases h) fun _ => sx_nil ?_)
        refine sx_cons (sy_if (t := isNoneD (.int i) || isInst (.int i) "str") (et_w (ew_or (et_isN (vn 1)) fun _ => et_or1 (et_val (ev_isi hK.symm rfl T.n_isinstance rfl T.n_str Str.isStr (.inr (.inr (.inl rfl))) (vn 1))))) (fun h => by cases h) fun _ => sx_nil ?_)
        refine sx_one (sy_ret (x := .d (.bool (isInst (.int i) "int" && (PyData.eqv (.bool (isInst (.int i) "bool")) (.bool (isInst (.int i) "bool")) && decide (i = i))))) (ev_and (ev_isi hK.symm rfl T.n_isinstance rfl T.n_int Str.isInt (.inl rfl) (vn 0)) fun _ => ev_and (ev_eq hK.symm hr.units (ev_isi hK.symm rfl T.n_isinstance rfl T.n_bool Str.isBool (.inr (.inl rfl)) (vn 0)) (ev_isi hK.symm rfl T.n_isinstance rfl T.n_bool Str.isBool (.inr (.inl rfl)) (vn 1)) (by rfl) (by rfl)) fun _ => ev_one (ev_eqI (vn 0) (vn 1))) ?_)
        show DV.d (.bool _) = .d (.bool true)
        rw [decide_eq_true rfl]
        rfl
      | str _ a =>
        refine sx_cons (sy_if (t := isInst (.str (S a)) "tuple" || isInst (.str (S a)) "list") (et_val (ev_isi2 hK.symm rfl T.n_isinstance rfl T.n_tuple Str.isTuple (.inr (.inr (.inr (.inl rfl)))) rfl T.n_list Str.isList (.inr (.inr (.inr (.inr rfl)))) (vn 1))) (fun h => by cases h) fun _ => sx_nil ?_)
        refine sx_cons (sy_if (t := isNoneD (.str (S a)) || isInst (.str (S a)) "str") (et_w (ew_or (et_isN (vn 1)) fun _ => et_or1 (et_val (ev_isi hK.symm rfl T.n_isinstance rfl T.n_str Str.isStr (.inr (.inr (.inl rfl))) (vn 1))))) (fun _ => ?_) fun h => by cases h)
        refine sx_one (sy_ret (x := .d (.bool (decide (a = a) && PyData.eqv (.bool (isInst (.str (S a)) "str")) (.bool (isInst (.str (S a)) "str"))))) (ev_and (ev_cmp op_eq (nobehind _ (by decide) (by decide)) (vn 0) (vn 1) rv_eqS) fun _ => ev_one (ev_eq hK.symm hr.units (ev_isi hK.symm rfl T.n_isinstance rfl T.n_str Str.isStr (.inr (.inr (.inl rfl))) (vn 0)) (ev_isi hK.symm rfl T.n_isinstance rfl T.n_str Str.isStr (.inr (.inr (.inl rfl))) (vn 1)) (by rfl) (by rfl))) ?_)
        show DV.d (.bool _) = .d (.bool true)
        rw [decide_eq_true rfl]
        rfl
      | @tup _ xs hz hxs =>
        refine sx_cons (sy_if (t := isInst (.tuple xs) "tuple" || isInst (.tuple xs) "list") (et_val (ev_isi2 hK.symm rfl T.n_isinstance rfl T.n_tuple Str.isTuple (.inr (.inr (.inr (.inl rfl)))) rfl T.n_list Str.isList (.inr (.inr (.inr (.inr rfl)))) (vn 1))) (fun _ => ?_) fun h => by cases h)
        refine sx_cons (sy_if (t := !(isInst (.tuple xs) "tuple" || isInst (.tuple xs) "list") || !PyData.eqv (.bool (isInst (.tuple xs) "list")) (.bool (isInst (.tuple xs) "list"))) (et_w (ew_or (et_not (et_val (ev_isi2 hK.symm rfl T.n_isinstance rfl T.n_tuple Str.isTuple (.inr (.inr (.inr (.inl rfl)))) rfl T.n_list Str.isList (.inr (.inr (.inr (.inr rfl)))) (vn 0)))) fun _ => et_or1 (et_ne hK.symm hr.units (ev_isi hK.symm rfl T.n_isinstance rfl T.n_list Str.isList (.inr (.inr (.inr (.inr rfl)))) (vn 0)) (ev_isi hK.symm rfl T.n_isinstance rfl T.n_list Str.isList (.inr (.inr (.inr (.inr rfl)))) (vn 1)) (by rfl) (by rfl)))) (fun h => by cases h) fun _ => sx_nil ?_)
        refine sx_cons (sy_if (t := !decide ((xs.length : Int) = (xs.length : Int))) (et_neI (ev_callB call_len_seq rfl T.n_len PySem.boot_len (ea_cons (vn 0) ea_nil) (rc_lenT hK.symm)) (ev_callB call_len_seq rfl T.n_len PySem.boot_len (ea_cons (vn 1) ea_nil) (rc_lenT hK.symm))) (fun h => by rw [decide_eq_true rfl] at h; cases h) fun _ => sx_nil ?_)
        refine sx_one (sy_retF (S1 := ⟨gStart N_law_alike [.d (.tuple xs), .d (.tuple xs)], []⟩) (d0 := .bool (PyData.eqv (.list []) (.list []))) (ev_eq hK.symm hr.units (S1 := ⟨gStart N_law_alike [.d (.tuple xs), .d (.tuple xs)], []⟩) (d := .list []) ?_ (ev_lst (ds := []) ea_nil lq) (by rfl) (by rfl)))
        refine ev_lcR1i (S1 := ⟨gStart N_law_alike [.d (.tuple xs), .d (.tuple xs)], []⟩) [("k", 2)] (g := gName 2) (n := xs.length) (fun d => [.d (.tuple xs), .d (.tuple xs), .d d]) (fun _ => !true) (fun _ => .none) ?_ ?_ ?_ ?_ ?_ ?_ ?_ ?_ ?_ ?_ ?_ ?_ ?_
        · exact hK.symm
        · rfl
        · exact sc_law_alike.nd
        · rfl
        · exact T.n_range
        · exact ev_callB call_len_seq rfl T.n_len PySem.boot_len (ea_cons (vn 1) ea_nil) (rc_lenT hK.symm)
        · exact hz
        · exact blkOk_by (N := N_law_alike) (sc := defScope s_law_alike) (by decide +kernel)
        · exact fun _ _ _ _ _ => pg_name (i := 2) sc_law_alike.nd rfl (.inl rfl)
        · exact fun i hi => tgb_name (vs := [2]) (j := 2) (g0 := [.d (.tuple xs), .d (.tuple xs), .no]) (List.mem_singleton.mpr rfl) li
        · intro i hi Dl acc s H C cl fp
          have hat : atI xs (i : Int) = some xs[i] := atI_nat (List.getElem?_eq_getElem hi)
          exact et_not (et_val (ev_call ih hK.symm hr rfl T.d_law_alike.m T.d_law_alike.F.kp T.d_law_alike.b pass0 (ds := [xs[i], xs[i]]) (ea_cons (ev_ixT hK.symm (vn 0) (vn 2) hat) (ea_cons (ev_ixT hK.symm (vn 1) (vn 2) hat) ea_nil)) ⟨_, rfl, hxs _ (List.getElem_mem hi), rfl⟩))
        · intro i hi hc
          cases hc
        · rw [outs_no]
end
end KC
end
section
set_option Elab.async false
set_option linter.all false
set_option maxRecDepth 100000
set_option maxHeartbeats 4000000
set_option exponentiation.threshold 300000
namespace KC
open PySem PySem.Spec PyProof.Rows L2 DX
set_option autoImplicit false
/-! what is read of a written text -/
open SX (S)
theorem nl_free {s : Nat} {i : Int} (h : s < 48 ∨ 57 < s) : s ∉ nl i := TL.numL_free h
theorem numN_nl {i : Int} (h0 : 0 ≤ i) (h : i ≤ 999) : (numN (nl i) : Int) = i := by
  have h1 : (nl i).length ≤ 3 := TL.numL_len (by decide) (by omega)
  have h2 : nl i ≠ [] := TL.numL_ne _
  have h3 : 1 ≤ (nl i).length := List.length_pos_iff.mpr h2
  have e1 : isNum (nl i) = true := by
    unfold isNum
    rw [Bool.and_eq_true, decide_eq_true_eq, decide_eq_true_eq]
    omega
  have e2 : digs (nl i) = true := by
    rw [digs_eq, List.all_eq_true]
    intro c hc
    have := TL.numL_digits i.toNat c hc
    rw [Bool.and_eq_true, decide_eq_true_eq, decide_eq_true_eq]
    exact this
  unfold numN
  rw [e1, e2]
  show ((NumText.digitsVal (TL.numL i.toNat) : Nat) : Int) = i
  rw [TL.numL_val]
  omega
def bodyL (p : Rd) : List Nat := [32] ++ lotL p.1 ++ [32, 61, 32] ++ lenL p.2
theorem partL_body (p : Rd) : partL p = bodyL p ++ [59] := rfl
theorem joinL_free {s : Nat} (hs : s ≠ 32) : ∀ xs : List (List Nat), (∀ x ∈ xs, s ∉ x) → s ∉ TL.joinL [32] xs
  | [], _ => by simp [TL.joinL]
  | [x], h => by
    have := h x List.mem_cons_self
    simpa [TL.joinL] using this
  | x :: y :: r, h => by
    have e : TL.joinL [32] (x :: y :: r) = x ++ [32] ++ TL.joinL [32] (y :: r) := by simp [TL.joinL]
    rw [e]
    have h1 := h x List.mem_cons_self
    have h2 := joinL_free hs (y :: r) fun z hz => h z (List.mem_cons_of_mem _ hz)
    intro hm
    rcases List.mem_append.mp hm with hm | hm
    · rcases List.mem_append.mp hm with hm | hm
      · exact h1 hm
      · exact hs (List.mem_singleton.mp hm)
    · exact h2 hm
theorem lotL_free {s : Nat} (hs : s ≠ 32) (h : s < 48 ∨ 57 < s) (l : List Int) : s ∉ lotL l := joinL_free hs _ fun x hx => by
  obtain ⟨i, _, rfl⟩ := List.mem_map.mp hx
  exact nl_free h
theorem lenL_free {s : Nat} (hs : s ≠ 47) (h : s < 48 ∨ 57 < s) (p : Int × Int) : s ∉ lenL p := by
  unfold lenL
  split
  · exact nl_free h
  · intro hm
    rcases List.mem_append.mp hm with hm | hm
    · rcases List.mem_append.mp hm with hm | hm
      · exact nl_free h hm
      · exact hs (List.mem_singleton.mp hm)
    · exact nl_free h hm
theorem bodyL_free {s : Nat} (h : s = 58 ∨ s = 59) (p : Rd) : s ∉ bodyL p := by
  unfold bodyL
  intro hm
  simp only [List.mem_append, List.mem_cons, List.not_mem_nil, or_false] at hm
  rcases hm with ((hm | hm) | hm) | hm
  · omega
  · exact lotL_free (by omega) (by omega) _ hm
  · omega
  · exact lenL_free (by omega) (by omega) _ hm
theorem spl_parts : ∀ rs : List Rd, spl59 (rs.map partL).flatten = rs.map bodyL ++ [[]]
  | [] => TL.spl_nil _ _ _
  | p :: rs => by
    have ih := spl_parts rs
    unfold spl59 at ih ⊢
    rw [List.map_cons, List.flatten_cons, partL_body, List.append_assoc]
    show TL.spl [59] 0 [] (bodyL p ++ (59 :: [] ++ (rs.map partL).flatten)) = _
    rw [TL.spl_part1 (bodyL_free (.inr rfl) p), ih]
    rfl
theorem wds_lot {l : List Int} (h : l ≠ []) : wds ([32] ++ lotL l) = l.map nl := by
  unfold wds
  rw [List.foldl_append]
  have e : List.foldl TL.wstep ([], []) [32] = ([], []) := by decide +kernel
  rw [e]
  unfold lotL
  rw [TL.wfold_join _ _ (by simpa using h)]
  · rfl
  · intro p hp
    obtain ⟨i, _, rfl⟩ := List.mem_map.mp hp
    refine ⟨TL.numL_ne _, fun c hc => ?_⟩
    have := TL.numL_digits i.toNat c hc
    have hall : ∀ c : Nat, c < 58 → 48 ≤ c → Unicode.isSpace c = false := by decide +kernel
    exact hall c (by omega) this.1
theorem pre_no {p q : List Nat} (h : 61 ∉ p) : ∀ i, i < p.length → TL.pre [32, 61, 32] (List.drop i (p ++ ([32, 61, 32] ++ q))) = false := by
  intro i hi
  cases hp : TL.pre [32, 61, 32] (List.drop i (p ++ ([32, 61, 32] ++ q))) with
  | false => rfl
  | true =>
    unfold TL.pre at hp
    have hp := eq_of_beq hp
    have h1 : (List.take 3 (List.drop i (p ++ ([32, 61, 32] ++ q))))[1]? = some 61 := by
      have : ([32, 61, 32] : List Nat).length = 3 := rfl
      rw [this] at hp
      rw [hp]; rfl
    rw [List.getElem?_take_of_lt (by decide), List.getElem?_drop] at h1
    by_cases h2 : i + 1 < p.length
    · rw [List.getElem?_append_left h2] at h1
      exact (h (List.mem_of_getElem? h1)).elim
    · have e : i + 1 = p.length := by omega
      rw [e, List.getElem?_append_right (Nat.le_refl _), Nat.sub_self] at h1
      cases h1
theorem roadP_body {p : Rd} (h1 : p.1 ≠ []) (h2 : ∀ i ∈ p.1, 0 ≤ i ∧ i ≤ 6) (h3 : 0 ≤ p.2.1 ∧ p.2.1 ≤ 999) (h4 : p.2.2 = 1 ∨ p.2.2 = 2) : roadP (bodyL p) = p := by
  obtain ⟨l, t, lw⟩ := p
  have e1 : par3 [32, 61, 32] (bodyL (l, t, lw)) = ([32] ++ lotL l, [32, 61, 32], lenL (t, lw)) := by
    have hf : 61 ∉ [32] ++ lotL l := by
      intro hm
      rcases List.mem_append.mp hm with hm | hm
      · exact absurd (List.mem_singleton.mp hm) (by decide)
      · exact lotL_free (by decide) (by decide) l hm
    have := TL.par_part (S := [32, 61, 32]) (p := [32] ++ lotL l) (rest := lenL (t, lw)) (acc := []) (by decide) (pre_no hf)
    unfold par3 bodyL
    rw [List.append_assoc, this]
    rfl
  have e2 : (wds ([32] ++ lotL l)).map (fun w => (numN w : Int)) = l := by
    rw [wds_lot h1, List.map_map]
    refine (List.map_congr_left fun i hi => ?_).trans (List.map_id _)
    have := h2 i hi
    exact numN_nl this.1 (by omega)
  have e3 : ∀ u : List Nat × List Nat × List Nat, u = par3 [47] (lenL (t, lw)) → (numN u.1 : Int) = t ∧ (if u.2.1 = [] then (1 : Int) else (numN u.2.2 : Int)) = lw := by
    intro u hu
    rcases h4 with h4 | h4
    · simp only at h4
      subst h4
      have : par3 [47] (lenL (t, 1)) = (nl t, [], []) := by
        unfold par3
        rw [show lenL (t, 1) = nl t from if_pos rfl, SX.par_head_none (nl_free (by decide))]
      rw [this] at hu
      subst hu
      exact ⟨numN_nl h3.1 h3.2, if_pos rfl⟩
    · simp only at h4
      subst h4
      have : par3 [47] (lenL (t, 2)) = (nl t, [47], nl 2) := by
        unfold par3
        rw [show lenL (t, 2) = nl t ++ [47] ++ nl 2 from if_neg (show ¬ ((2 : Int) = 1) by decide), List.append_assoc]
        show (match TL.par [47] [] (nl t ++ (47 :: [] ++ nl 2)) with | some (p, q) => (p, [47], q) | none => _) = _
        rw [SX.par_head (nl 2) (nl_free (by decide))]
      rw [this] at hu
      subst hu
      exact ⟨numN_nl h3.1 h3.2, by rw [if_neg (show ¬ (([47] : List Nat) = []) by decide)]; exact numN_nl (by decide) (by decide)⟩
  obtain ⟨e4, e5⟩ := e3 _ rfl
  unfold roadP
  rw [e1]
  show ((wds ([32] ++ lotL l)).map (fun w => (numN w : Int)), ((numN (par3 [47] (lenL (t, lw))).1 : Int), if (par3 [47] (lenL (t, lw))).2.1 = [] then (1 : Int) else (numN (par3 [47] (lenL (t, lw))).2.2 : Int))) = (l, t, lw)
  rw [e2, e4, e5]
theorem par3_text (n : Nat) (rs : List Rd) : par3 [58] (textL n rs) = (nl (n : Int), [58], (rs.map partL).flatten) := by
  unfold par3 textL headL
  rw [List.append_assoc]
  show (match TL.par [58] [] (nl (n : Int) ++ (58 :: [] ++ (rs.map partL).flatten)) with | some (p, q) => (p, [58], q) | none => _) = _
  rw [SX.par_head _ (nl_free (by decide))]
theorem readP_text {n : Nat} {rs : List Rd} (h : TrN n rs) : readP (textL n rs) = (n, rs) := by
  have hB := isTree_bound (isTree_treeD h) (by have := h.few; omega)
  have hn : n ≤ 6 := by rcases h.many with rfl | rfl | rfl | rfl <;> decide
  unfold readP
  rw [par3_text, spl_parts, List.dropLast_concat, List.map_map]
  have e1 : numN (nl (n : Int)) = n := by
    have := numN_nl (i := (n : Int)) (by omega) (by omega)
    omega
  have e2 : rs.map (roadP ∘ bodyL) = rs := by
    refine (List.map_congr_left fun p hp => ?_).trans (List.map_id _)
    have hl := h.len p hp
    have hs := lots_lot h.many p.1 (h.sub p hp)
    refine roadP_body (fun e => ?_) (hB.lot p hp).2 ?_ ?_
    · rw [e] at hs
      cases hs
    · have h1 := hl.t0
      have h2 := hl.t5
      have h3 := hl.l0
      have h4 := hl.l2
      have h5 := hl.g
      by_cases e : p.2.1 = 1000
      · have e2 : p.2.2 = 2 := by omega
        rw [e, e2] at h5
        exact absurd h5 (by decide)
      · omega
    · have h3 := hl.l0
      have h4 := hl.l2
      omega
  show (numN (nl (n : Int)), rs.map (roadP ∘ bodyL)) = (n, rs)
  rw [e1, e2]
def okRead (a : List Nat) : Bool := isTree (treeD (readP a).1 (readP a).2) && decide (textL (readP a).1 (readP a).2 = a)
theorem okRead_text {n : Nat} {rs : List Rd} (h : TrN n rs) : okRead (textL n rs) = true := by
  unfold okRead
  rw [readP_text h, isTree_treeD h, decide_eq_true rfl]
  rfl
theorem okRead_eq {a : List Nat} (h : okRead a = true) : isTree (treeD (readP a).1 (readP a).2) = true ∧ textL (readP a).1 (readP a).2 = a := by
  unfold okRead at h
  rw [Bool.and_eq_true, decide_eq_true_eq] at h
  exact h
/-! how often a sign stands in a text, and its last one -/
theorem spl_count : ∀ (l acc : List Nat), (TL.spl [59] 0 acc l).length = l.count 59 + 1
  | [], acc => by rw [TL.spl_nil]; rfl
  | c :: r, acc => by
    by_cases hc : c = 59
    · subst hc
      rw [spl_hit59, List.length_cons, spl_count r [], List.count_cons_self]
    · rw [spl_miss59 hc, spl_count r, List.count_cons_of_ne (by simpa using hc)]
theorem flat_count58 : ∀ rs : List Rd, (rs.map partL).flatten.count 58 = 0
  | [] => rfl
  | p :: rs => by
    rw [List.map_cons, List.flatten_cons, List.count_append, flat_count58 rs, partL_body, List.count_append, List.count_eq_zero.mpr (bodyL_free (.inl rfl) p)]
    rfl
theorem flat_count59 : ∀ rs : List Rd, (rs.map partL).flatten.count 59 = rs.length
  | [] => rfl
  | p :: rs => by
    rw [List.map_cons, List.flatten_cons, List.count_append, flat_count59 rs, partL_body, List.count_append, List.count_eq_zero.mpr (bodyL_free (.inr rfl) p), List.length_cons]
    show 0 + 1 + _ = _
    omega
theorem text_count58 (n : Nat) (rs : List Rd) : (textL n rs).count 58 = 1 := by
  unfold textL headL
  rw [List.count_append, flat_count58, List.count_append, List.count_eq_zero.mpr (nl_free (by decide))]
  rfl
theorem text_count59 (n : Nat) (rs : List Rd) : (textL n rs).count 59 = rs.length := by
  unfold textL headL
  rw [List.count_append, flat_count59, List.count_append, List.count_eq_zero.mpr (nl_free (by decide))]
  show 0 + 0 + _ = _
  omega
theorem text_last (n : Nat) (rs : List Rd) : ∃ u c, textL n rs = u ++ [c] ∧ (c = 58 ∨ c = 59) := by
  rcases List.eq_nil_or_concat rs with rfl | ⟨qs, p, rfl⟩
  · exact ⟨nl (n : Int), 58, by unfold textL headL; simp, .inl rfl⟩
  · refine ⟨headL n ++ ((qs.map partL).flatten ++ bodyL p), 59, ?_, .inr rfl⟩
    unfold textL
    simp [partL_body]
theorem okRead_last {a : List Nat} {c : Nat} (h1 : c ≠ 58) (h2 : c ≠ 59) : okRead (a ++ [c]) = false := by
  cases h : okRead (a ++ [c]) with
  | false => rfl
  | true =>
    obtain ⟨_, e⟩ := okRead_eq h
    obtain ⟨u, d, e2, hd⟩ := text_last (readP (a ++ [c])).1 (readP (a ++ [c])).2
    rw [e] at e2
    have := List.append_inj_right' e2 rfl
    cases this
    omega
theorem okRead_many {a : List Nat} (h1 : a.count 58 ≠ 1) : okRead a = false := by
  cases h : okRead a with
  | false => rfl
  | true =>
    obtain ⟨_, e⟩ := okRead_eq h
    have := text_count58 (readP a).1 (readP a).2
    rw [e] at this
    exact (h1 this).elim
theorem par3_count {c : Nat} {sep a : List Nat} (h : sep ≠ []) : (par3 sep a).2.2.count c ≤ a.count c := by
  have := congrArg (List.count c) (par3_sum (a := a) h)
  rw [List.count_append, List.count_append] at this
  omega
theorem spl_few {a : List Nat} (h : a.count 59 ≤ 900) : (spl59 (par3 [58] a).2.2).length ≤ 901 := by
  have := par3_count (c := 59) (sep := [58]) (a := a) (by decide)
  unfold spl59
  rw [spl_count]
  omega
theorem readP_few {a : List Nat} (h : a.count 59 ≤ 900) : (readP a).2.length ≤ 900 := by
  have := spl_few h
  show ((spl59 (par3 [58] a).2.2).dropLast.map roadP).length ≤ 900
  rw [List.length_map, List.length_dropLast]
  omega
theorem rep_count (c : Nat) (a : List Nat) : ∀ k : Nat, ((List.replicate k a).flatten).count c = k * a.count c
  | 0 => by simp
  | k + 1 => by
    rw [List.replicate_succ, List.flatten_cons, List.count_append, rep_count c a k, Nat.succ_mul]
    omega
end KC
end
section
set_option Elab.async false
set_option linter.all false
set_option maxRecDepth 100000
set_option maxHeartbeats 4000000
namespace DX
open PySem PySem.Spec PyProof.Rows L2
set_option autoImplicit false
/-! a text some times -/
section
variable {X : Cx} {b : Bs} {S0 S1 S2 : DS} {pos : Pos}
theorem op_mulS : OpR X (binaryOp .Mult) (fun x y H Q => ∃ (z : Str) (k : Int), x = V.str z ∧ y = V.int k ∧ 2 ≤ k ∧ k ≤ 1000 ∧ z.length * k.toNat ≤ 1000000 ∧ Q (V.str (Txt.mul z k)) H) := by
  intro pins s σ H x y v u Q I rx ry h
  obtain ⟨z, k, rfl, rfl, h2, h3, h4, q⟩ := h
  obtain ⟨t, rfl⟩ := rx
  obtain ⟨t2, rfl⟩ := ry
  refine SB.mul ⟨?_, fun _ _ => ?_, fun _ _ => ?_⟩ fun t' k' => ?_
  · rw [Bool.or_eq_false_iff]
    exact ⟨decide_eq_false (by omega), decide_eq_false (by omega)⟩
  · have e : ((z.length * k.toNat : Nat) : Int) = (z.length : Int) * k := by rw [Int.natCast_mul, Int.toNat_of_nonneg (by omega)]
    have h5 : (z.length : Int) * k ≤ 1000000 := by omega
    have h6 : (z.length : Int) ≤ 1000000 := by
      have : (z.length : Int) * 1 ≤ (z.length : Int) * k := Int.mul_le_mul_of_nonneg_left (by omega) (by omega)
      omega
    have h7 : (1000000 : Int) ≤ (2 ^ 63 - 1) / k := by
      rw [Int.le_ediv_iff_mul_le (by omega)]
      have : (1000000 : Int) * k ≤ 1000000 * 1000 := Int.mul_le_mul_of_nonneg_left h3 (by omega)
      omega
    omega
  · unfold Builtin.Str.tooLong
    have e := sizeLine_eq
    simp
    omega
  · exact ⟨.str (Txt.mul z k), H, ⟨I.ok, I.os, I.bare, I.base, I.loc, I.cell, I.free, I.freeC, I.pin, I.hok, I.len⟩, ⟨_, rfl⟩, q⟩
theorem foldl_app : ∀ (xs : List (Array Nat)) (acc : Array Nat), (List.foldl (fun x1 x2 => x1 ++ x2) acc xs) = (acc.toList ++ (xs.map Array.toList).flatten).toArray
  | [], acc => by simp
  | x :: xs, acc => by
    rw [List.foldl_cons, foldl_app xs]
    simp
theorem mul_L {a : List Nat} {k : Int} (h : 2 ≤ k) : Txt.mul (SX.S a) k = SX.S (List.replicate k.toNat a).flatten := by
  unfold Txt.mul
  rw [if_neg (by omega)]
  by_cases ha : a = []
  · subst ha
    rw [if_pos (by rw [Bool.or_eq_true]; exact .inr rfl)]
    have : (List.replicate k.toNat ([] : List Nat)).flatten = [] := by simp
    rw [this]
  · rw [if_neg]
    · rw [foldl_app]
      simp
    · rw [Bool.or_eq_true]
      rintro (h1 | h1)
      · have : k = 1 := by simpa using h1
        omega
      · rw [SX.S_len] at h1
        have : a.length = 0 := by simpa using h1
        exact ha (List.length_eq_zero_iff.mp this)
theorem ev_mulL {e1 e2 : Expr} {a : List Nat} {k : Int} (h1 : EV X b e1 S0 (.d (.str (SX.S a))) S1) (h2 : EV X b e2 S1 (.d (.int k)) S2) (hk : 2 ≤ k ∧ k ≤ 1000) (hl : a.length * k.toNat ≤ 1000000) : EV X b (.BinOp e1 .Mult e2 pos) S0 (.d (.str (SX.S (List.replicate k.toNat a).flatten))) S2 := by
  refine ev_op op_mulS h1 h2 ?_
  intro H u v rm hu hv Q q
  cases hu; cases hv
  refine ⟨SX.S a, k, rfl, rfl, hk.1, hk.2, by rw [SX.S_len]; exact hl, ?_⟩
  rw [mul_L hk.1]
  exact q _ H (.str _) (fun _ r => r) (Ex.refl _)
end
end DX
end
section
set_option Elab.async false
set_option linter.all false
set_option maxRecDepth 100000
set_option maxHeartbeats 4000000
namespace DX
open PySem PySem.Spec PyProof.Rows L2 LamX
set_option autoImplicit false
section
variable {X : Cx} {b : Bs} {S S1 : DS} {pos p lpos : Pos} {D : DE}
theorem rel_no {σ : List (Option V)} {H : Hp} {j : Nat} {y : Option V} (r : Rel b S σ H) (hj : S.g[j]? = some .no) : Rel b S (σ.set j y) H := by
  refine ⟨by rw [List.length_set]; exact r.len, fun i x h => ?_, r.rm⟩
  by_cases e : i = j
  · subst e
    rw [hj] at h
    cases h
    exact .inl rfl
  · rcases r.slot i x h with q | ⟨v, q, k⟩
    · exact .inl q
    · exact .inr ⟨v, by rw [List.getElem?_set_ne (Ne.symm e)]; exact q, k⟩
/-- try: name = f(..) except C as e: .. -/
theorem sy_tryCall {k : Nat} {fa : Addr} {fd : FuncData} {ps : List Str} {f : List PyData → Res → Prop} {nm ny x n : Str} {e : Expr} {es : List Expr} {ds : List PyData} {r : Res} {c : Value} {i j : Nat} {b0 : Stmt} {su : List Stmt} {p1 p2 cp ap py : Pos}
    (F : FnOk X.prog X.w X.K X.mg X.base (L2.CX X.prog X.w) k fa fd ps (FX X.K f)) (hK : X.K = b.K) (hr : Room k X.A) (hm : X.mg nm = some (.ref fa)) (kp : PySem.W.keepIn X.K (.ref fa) = true) (hb : L2.Binds X.K fd ps [])
    (hs : X.stack = X.env :: X.outer) (hfr : X.env.frame = some X.env.locals) (hN : X.N.Nodup) (hc : Names X x c) (hj : X.N[j]? = some n) (hnk : X.env.kindOf n = some .local)
    (ha : ∀ pn xe, EA (X.tr pn xe) b (e :: es) S (ds.map .d) S) (hf : f ds r)
    (hi : X.N[i]? = some ny) (hxl : Loc X.env.scope ny) (hl : i < S.g.length) (hjn : S.g[j]? = some .no)
    (hv : ∀ d, r = .val d → D.nx (S.put i (.d d))) (hx : ∀ C, r = .err C → PySem.W.exmOne X.K (.ref C) c = some true)
    (hh : ∀ C, r = .err C → ∀ a pn, SX (X.suite a pn) b (b0 :: su) S { nx := fun S' => D.nx S' ∧ S'.g[j]? = some .no, rt := D.rt })
    (hfn : X.fn ny = true ∨ List.lookup ny X.env.scope.names = some .local := by first | exact .inl rfl | exact .inr rfl) (hg : Gl X nm := by rfl) (hdb : (nm == ("__debug__" : Str)) = false := by decide) (he : starEach (e :: es) X.env = (false, eval e X.env) :: starEach es X.env := by rfl) (hpl : (backTo cp (starEach es X.env)).any (·.1) = false := by rfl)
    (hsw : swapsWithSole [.Name ny py] (.Call (.Name nm p) (e :: es) [] cp) ap.line X.env = pure false := by rfl) (hsw2 : swappedStores [.Name ny py] (.Call (.Name nm p) (e :: es) [] cp) X.env = pure none := by rfl) (has : List.map (fun x => x.snd) (assignEach [.Name ny py] X.env) = [assign (.Name ny py) X.env] := by rfl) :
    SY X b (.Try [.Assign [.Name ny py] (.Call (.Name nm p) (e :: es) [] cp) ap] [.ExceptHandler (some (.Name x p1)) (some n) (b0 :: su) p2] [] [] pos) S D := by
  intro σ H rl E kE
  refine w1_of (ps_tryA (X := X) (tb := fun W E σ H => ∀ pn xe, Takes (X.tr pn xe) W → wS (X.tr pn xe) [.Assign [.Name ny py] (.Call (.Name nm p) (e :: es) [] cp) ap] E σ H) hs hfr hN LamX.takes0 (fun W pn xe tk _ => ⟨fun pins s σ H D I h => h pn xe tk pins s I⟩)
    (.cons (ts := fun E σ H => ∀ a pn, wS (X.suite a pn) (b0 :: su) E σ H) hc hj hnk (fun a pn => ⟨fun pins s σ H D I h => h a pn pins s I⟩) .nil)) ?_
  intro pn xe tk
  refine wS_of (X := X.tr pn xe) (pss_one (ps_asg (pe_callS (X := X.tr pn xe) F hr hg hm kp hb (fun σ => passAt tk σ) (paW _) hdb he hpl) (pg_name (i := i) hN hi hxl hfn) hsw hsw2 has)) ?_
  refine ha pn xe σ H rl _ fun vs H1 k1 r1 x1 a1 => ?_
  show FX X.K f vs H1 _ _
  rw [hK]
  refine ⟨Hd b S, ds, r, r1.rm.tracked, vall_d k1, hf, fun d ed v H2 x2 k2 => ?_, fun C ec H2 x2 => ?_⟩
  · obtain ⟨r2, x3⟩ := r1.grow x2
    exact kE.nx _ _ _ (hv d ed) (r2.put hl k2) (x1.trans x3)
  · obtain ⟨r2, x3⟩ := r1.grow x2
    refine ⟨true, (by rw [← hK]; exact hx C ec), fun _ a _ a' pn' => ?_, fun h => by cases h⟩
    refine hh C ec a' pn' (σ.set j (some (.ref a))) H2 (rel_no r2 hjn) _ ⟨fun S' σ' H' hd r' x' => ?_, fun y S' v H' hd vo r' x' => kE.rt y S' v H' hd vo r' ((x1.trans x3).trans x'), fun _ _ _ h => h.elim, fun _ _ _ h => h.elim⟩
    exact kE.nx S' (σ'.set j none) H' hd.1 (rel_no r' hd.2) ((x1.trans x3).trans x')
/-- a call that ends in an error, behind arguments that change what is -/
theorem wE_err2 {EE : XK} {k : Nat} {fa : Addr} {fd : FuncData} {ps : List Str} {f : List PyData → Res → Prop} {nm : Str} {e : Expr} {es : List Expr} {ds : List PyData} {C : Addr} (F : FnOk X.prog X.w X.K X.mg X.base (L2.CX X.prog X.w) k fa fd ps (FX X.K f)) (hK : X.K = b.K) (hr : Room k X.A) (hm : X.mg nm = some (.ref fa)) (kp : PySem.W.keepIn X.K (.ref fa) = true) (hb : L2.Binds X.K fd ps []) (hx : Passes (L2.CX X.prog X.w) X EE)
    (ha : EA X b (e :: es) S (ds.map .d) S1) (hf : f ds (.err C)) {σ : List (Option V)} {H : Hp} (r : Rel b S σ H) (hE : ∀ H', Rel b S1 σ H' → Ex (hide (Hd b S) H) (hide (Hd b S1) H') → EE (.ref C) none H') {Q : VK} (hg : Gl X nm := by rfl) (hdb : (nm == ("__debug__" : Str)) = false := by decide)
    (he : starEach (e :: es) X.env = (false, eval e X.env) :: starEach es X.env := by rfl) (hpl : (backTo pos (starEach es X.env)).any (·.1) = false := by rfl) : wE X (.Call (.Name nm p) (e :: es) [] pos) σ H Q := by
  refine wE_of (pe_call F hr hg hm kp hb .nil hx (paW _) hdb he hpl) (ha σ H r _ fun vs H1 k1 r1 x1 a1 => ?_)
  show FX X.K f (vs ++ []) H1 Q EE
  rw [List.append_nil, hK]
  refine ⟨Hd b S1, ds, _, r1.rm.tracked, vall_d k1, hf, fun d' e => (by cases e), fun C' e H2 x2 => ?_⟩
  cases e
  obtain ⟨r2, x3⟩ := r1.grow x2
  exact hE H2 r2 (x1.trans x3)
/-- told(lambda: ..), where the lambda changes what is -/
theorem ev_tell2 {l : List (Addr × Str)} {x a : Str} {g P C : Addr} {r : Str} {k : Nat} {st : Stmt} {fd : FuncData} {Ng : List Str} {params : Arguments} {body : Expr} {scope : Scope} (hin : (P, MO.tab (lamQ X)) ∈ S.m) (hm : X.mg x = some (.ref g)) (F : Fun X.K x x st g fd) (hb : L2.Binds X.K fd [a] []) (Sg : FnScope Ng [a] (defScope st)) (hNg : Ng[0]? = some a) (hva : Vis (defScope st) a)
    (hG : ∀ cdv : Value, GivesTo X Ng x (defScope st) g cdv (defBody st) a (lamQ X) (Tell3 l)) (hmk : LamMk X P params body scope lpos) (hr : Room (k + 2) X.A) (L : LamA X.N X.env.scope scope) (hCl : (C, r) ∈ l) (hsub : ∀ a ∈ Hd b S, a ∈ Hd b S1)
    (hbody : ∀ (σ : List (Option V)) (H : Hp) (E : XK), Rel b S σ H → (∀ H', Rel b S1 σ H' → Ex (hide (Hd b S) H) (hide (Hd b S1) H') → E (.ref C) none H') → ∀ Q : VK, wEl X k scope body E σ H Q) (hg : Gl X x := by rfl)
    (hdb : (x == ("__debug__" : Str)) = false := by decide) (hd : (a == ("__debug__" : Str)) = false := by decide) (hcd : (a == ("__classdict__" : Str)) = false := by decide) :
    EV X b (.Call (.Name x p) [.Lambda params body scope lpos] [] pos) S (.d (.str r)) S1 := by
  intro σ H rl Q q
  refine wE_of (pe_lamP (t := wEl X k scope body) hg hm F hb Sg hNg hva hG hmk hr L (fun A outer s H0 E f c' hr2 => ⟨fun pins s' σ' H' Q' I h => h A outer s H0 f c' hr2 pins s' I⟩) hdb hd hcd) ?_
  refine ⟨rl.rm.mem _ hin, fun H1 e1 t1 => ?_⟩
  obtain ⟨r1, x1⟩ := rl.tabbed hin e1 t1
  refine ⟨fun cls d H' => cls = .ref C ∧ Rel b S1 σ H' ∧ Ex (hide (Hd b S) H1) (hide (Hd b S1) H'), fun cls d H' ⟨h1, h2, h3⟩ => ⟨C, r, hCl, h1, q _ H' (.str r) h2 (x1.trans h3) hsub⟩, fun Q' => ?_⟩
  exact hbody σ H1 _ r1 (fun H' h2 h3 => ⟨rfl, h2, h3⟩) Q'
end
end DX
end
section
set_option Elab.async false
set_option linter.all false
set_option maxRecDepth 100000
set_option maxHeartbeats 4000000
set_option exponentiation.threshold 300000
namespace KC
open PySem PySem.Spec PyProof.Rows L2 DX
set_option autoImplicit false
open LamX
/-! the def that tells errors -/
structure TxM {K : PySem.W.Frag} {mg : Str → Option Value} (T : Tx K mg) : Prop where
  tt : PySem.W.exmOne K (.ref T.c_BadText) (.ref T.c_BadText) = some true
  rt : PySem.W.exmOne K (.ref T.c_BadTree) (.ref T.c_BadText) = some false
  rr : PySem.W.exmOne K (.ref T.c_BadTree) (.ref T.c_BadTree) = some true
def tl2 {K : PySem.W.Frag} {mg : Str → Option Value} (T : Tx K mg) : List (Addr × Str) := [(T.c_BadText, "BadText"), (T.c_BadTree, "BadTree")]
theorem told_gives {X : Cx} (T : Tx X.K X.mg) (M : TxM T) (q : Str) (cdv : Value) : GivesTo X N_law_told "_law_told" (defScope s_law_told) T.d_law_told.fa cdv (defBody s_law_told) "work" q (Tell3 (tl2 T)) := by
  intro f c' s H Q tl act hc h
  obtain ⟨Ech, hE, htl⟩ := h
  refine ⟨_, pss_cons (ps_tryA (X := (cxOf C8.CX0 X.prog X.w X.K X.mg X.base N_law_told "_law_told" (defScope s_law_told) T.d_law_told.fa cdv X.A X.stack s H C8.E0).nox)
      (tb := fun W D σ H => ∃ Ec : XK, (∀ cls d σ' H', Ec cls d H' → W cls d σ' H') ∧ σ[0]? = some (some (.ref f)) ∧ H c' = some (CodeO c' q) ∧ tl Ec H fun _ H1 => D.nx σ H1)
      rfl rfl sc_law_told.nd LamX.takes0 (fun W pn xe tk _ => ?_)
      (.cons (c := .ref T.c_BadText) (i := 1) ⟨rfl, by decide, .inl T.m_BadText⟩ rfl rfl (fun a pn => pss_one (ps_ret pe_str)) (.cons (c := .ref T.c_BadTree) (i := 1) ⟨rfl, by decide, .inl T.m_BadTree⟩ rfl rfl (fun a pn => pss_one (ps_ret pe_str)) .nil))) (pss_one (ps_ret pe_str)), ?_⟩
  · refine ⟨fun pins s' σ H' D I h' => ?_⟩
    obtain ⟨Ec, hW, h1, h2, h3⟩ := h'
    exact (pss_one (ps_expr (act W pn xe Ec _ _ tk hW))).run pins s' σ H' D I ⟨h1, h2, h3⟩
  · refine ⟨Ech, fun cls d σ' H' h1 => ?_, rfl, hc, htl _⟩
    obtain ⟨C, r, hm, rfl, hq⟩ := hE cls d H' h1
    have hm : (C, r) ∈ [(T.c_BadText, ("BadText" : Str)), (T.c_BadTree, ("BadTree" : Str))] := hm
    rcases List.mem_cons.mp hm with hm | hm
    · cases hm
      exact ⟨true, M.tt, fun _ a _ => hq, fun z => by cases z⟩
    · rw [List.mem_singleton] at hm
      cases hm
      exact ⟨false, M.rt, (fun z => by cases z), fun _ => ⟨true, M.rr, fun _ a _ => hq, fun z => by cases z⟩⟩
/-! the law itself -/
def lawQ : Str := "law.<locals>.<lambda>"
abbrev lawDE (Pt : Addr) : DE := { nx := fun _ => PyData.bool true = .none, rt := fun x S' => x = .d (.bool true) ∧ ∃ q', (Pt, MO.tab q') ∈ S'.m }
abbrev gL (Pt a : Addr) (R : Row) (g : List DV) : DS := ⟨g, [(Pt, .tab lawQ), (a, .lst R.ms)]⟩
section
variable {X : Cx} {b : Bs} {pos p : Pos} {e1 e2 : Expr} {g : List DV} {Pt a : Addr} {S0 : DS}
theorem ev_taken2 (T : Tx X.K X.mg) (hK : X.K = b.K) (hr : Room 1 X.A) (ne : Pt ≠ a) {R1 : Row} {m : Int} (hR : R1.Ok) (m0 : 0 < m) (mz : Sz 60 m) (ha : EA X b [e1, e2] S0 [.m a, .d (.int m)] (gL Pt a R1 g)) (hg : Gl X "_law_taken" := by rfl)
    (he : starEach [e1, e2] X.env = (false, eval e1 X.env) :: starEach [e2] X.env := by rfl) (hpl : (backTo pos (starEach [e2] X.env)).any (·.1) = false := by rfl) :
    EV X b (.Call (.Name "_law_taken" p) [e1, e2] [] pos) S0 (.d (.int (R1.step m).1)) (gL Pt a (R1.step m).2 g) := by
  have h := ev_callM (E := fun _ _ _ => False) (p := p) (pos := pos) (ok_law_taken T) hK hr hg T.d_law_taken.m T.d_law_taken.F.kp T.d_law_taken.b pass0 (ds := [.int m]) (ms := R1.ms) ha (List.mem_cons_of_mem _ (List.mem_singleton.mpr rfl)) ⟨R1, m, hR, rfl, rfl, m0, mz, rfl, rfl⟩ (by decide) he hpl
  rw [setm2 ne] at h
  exact h
theorem ev_pick2 (T : Tx X.K X.mg) (hK : X.K = b.K) (hr : Room 2 X.A) (ne : Pt ≠ a) {R1 : Row} {xs : List PyData} (hR : R1.Ok) (x0 : xs ≠ []) (xz : xs.length ≤ 1000) (ha : EA X b [e1, e2] S0 [.m a, .d (.list xs)] (gL Pt a R1 g)) (hg : Gl X "_law_pick" := by rfl)
    (he : starEach [e1, e2] X.env = (false, eval e1 X.env) :: starEach [e2] X.env := by rfl) (hpl : (backTo pos (starEach [e2] X.env)).any (·.1) = false := by rfl) :
    EV X b (.Call (.Name "_law_pick" p) [e1, e2] [] pos) S0 (.d (xs.getD (R1.step (xs.length : Int)).1.toNat .none)) (gL Pt a (R1.step (xs.length : Int)).2 g) := by
  have h := ev_callM (E := fun _ _ _ => False) (p := p) (pos := pos) (ok_law_pick T) hK hr hg T.d_law_pick.m T.d_law_pick.F.kp T.d_law_pick.b pass0 (ds := [.list xs]) (ms := R1.ms) ha (List.mem_cons_of_mem _ (List.mem_singleton.mpr rfl)) ⟨R1, xs, hR, rfl, rfl, x0, xz, rfl, rfl⟩ (by decide) he hpl
  rw [setm2 ne] at h
  exact h
end
theorem pick_in {R : Row} (hR : R.Ok) {xs : List PyData} (h : xs ≠ []) : xs.getD (R.step (xs.length : Int)).1.toNat .none ∈ xs := by
  have l0 : (0 : Int) < (xs.length : Int) := by
    have := List.length_pos_iff.mpr h
    omega
  obtain ⟨_, h1, h2⟩ := Row.step_ok hR l0
  have hlt : (R.step (xs.length : Int)).1.toNat < xs.length := by omega
  rw [List.getD_eq_getElem?_getD, List.getElem?_eq_getElem hlt]
  exact List.getElem_mem hlt
theorem pick_some {R : Row} (hR : R.Ok) {xs : List PyData} (h : xs ≠ []) : ∃ v R', xs.getD (R.step (xs.length : Int)).1.toNat .none = v ∧ (R.step (xs.length : Int)).2 = R' ∧ v ∈ xs ∧ R'.Ok := by
  have l0 : (0 : Int) < (xs.length : Int) := by
    have := List.length_pos_iff.mpr h
    omega
  exact ⟨_, _, rfl, rfl, pick_in hR h, (Row.step_ok hR l0).1⟩
theorem ev_pick3 {X : Cx} {b : Bs} {pos p : Pos} {e1 e2 : Expr} {g : List DV} {Pt a : Addr} {S0 : DS} (T : Tx X.K X.mg) (hK : X.K = b.K) (hr : Room 2 X.A) (ne : Pt ≠ a) {R1 R' : Row} {xs : List PyData} {v : PyData} (hR : R1.Ok) (x0 : xs ≠ []) (xz : xs.length ≤ 1000) (hv : xs.getD (R1.step (xs.length : Int)).1.toNat .none = v) (hR' : (R1.step (xs.length : Int)).2 = R') (ha : EA X b [e1, e2] S0 [.m a, .d (.list xs)] (gL Pt a R1 g)) (hg : Gl X "_law_pick" := by rfl)
    (he : starEach [e1, e2] X.env = (false, eval e1 X.env) :: starEach [e2] X.env := by rfl) (hpl : (backTo pos (starEach [e2] X.env)).any (·.1) = false := by rfl) :
    EV X b (.Call (.Name "_law_pick" p) [e1, e2] [] pos) S0 (.d v) (gL Pt a R' g) := by
  subst hv
  subst hR'
  exact ev_pick2 T hK hr ne hR x0 xz ha hg he hpl
theorem step_some {R : Row} (hR : R.Ok) {m : Int} (hm : 0 < m) : ∃ v R', (R.step m).1 = v ∧ (R.step m).2 = R' ∧ 0 ≤ v ∧ v < m ∧ R'.Ok := ⟨_, _, rfl, rfl, (Row.step_ok hR hm).2.1, (Row.step_ok hR hm).2.2, (Row.step_ok hR hm).1⟩
theorem ev_taken3 {X : Cx} {b : Bs} {pos p : Pos} {e1 e2 : Expr} {g : List DV} {Pt a : Addr} {S0 : DS} (T : Tx X.K X.mg) (hK : X.K = b.K) (hr : Room 1 X.A) (ne : Pt ≠ a) {R1 R' : Row} {m v : Int} (hR : R1.Ok) (m0 : 0 < m) (mz : Sz 60 m) (hv : (R1.step m).1 = v) (hR' : (R1.step m).2 = R') (ha : EA X b [e1, e2] S0 [.m a, .d (.int m)] (gL Pt a R1 g)) (hg : Gl X "_law_taken" := by rfl)
    (he : starEach [e1, e2] X.env = (false, eval e1 X.env) :: starEach [e2] X.env := by rfl) (hpl : (backTo pos (starEach [e2] X.env)).any (·.1) = false := by rfl) :
    EV X b (.Call (.Name "_law_taken" p) [e1, e2] [] pos) S0 (.d (.int v)) (gL Pt a R' g) := by
  subst hv
  subst hR'
  exact ev_taken2 T hK hr ne hR m0 mz ha hg he hpl
theorem ev_pick4 {X : Cx} {b : Bs} {pos p : Pos} {e1 e2 : Expr} {g : List DV} {Pt a : Addr} (T : Tx X.K X.mg) (hK : X.K = b.K) (hr : Room 2 X.A) (ne : Pt ≠ a) {R1 R' : Row} {xs : List PyData} {v : PyData} (hR : R1.Ok) (x0 : xs ≠ []) (xz : xs.length ≤ 1000) (hv : xs.getD (R1.step (xs.length : Int)).1.toNat .none = v) (hR' : (R1.step (xs.length : Int)).2 = R')
    (h1 : EV X b e1 (gL Pt a R1 g) (.m a) (gL Pt a R1 g)) (h2 : EV X b e2 (gL Pt a R1 g) (.d (.list xs)) (gL Pt a R1 g)) (hg : Gl X "_law_pick" := by rfl)
    (he : starEach [e1, e2] X.env = (false, eval e1 X.env) :: starEach [e2] X.env := by rfl) (he2 : starEach [e2] X.env = (false, eval e2 X.env) :: starEach [] X.env := by rfl) (hpl : (backTo pos (starEach [e2] X.env)).any (·.1) = false := by rfl) :
    EV X b (.Call (.Name "_law_pick" p) [e1, e2] [] pos) (gL Pt a R1 g) (.d v) (gL Pt a R' g) :=
  ev_pick3 T hK hr ne hR x0 xz hv hR' (ea_cons h1 (ea_cons h2 ea_nil he2) he) hg he hpl
theorem ev_taken4 {X : Cx} {b : Bs} {pos p : Pos} {e1 e2 : Expr} {g : List DV} {Pt a : Addr} (T : Tx X.K X.mg) (hK : X.K = b.K) (hr : Room 1 X.A) (ne : Pt ≠ a) {R1 R' : Row} {m v : Int} (hR : R1.Ok) (m0 : 0 < m) (mz : Sz 60 m) (hv : (R1.step m).1 = v) (hR' : (R1.step m).2 = R')
    (h1 : EV X b e1 (gL Pt a R1 g) (.m a) (gL Pt a R1 g)) (h2 : EV X b e2 (gL Pt a R1 g) (.d (.int m)) (gL Pt a R1 g)) (hg : Gl X "_law_taken" := by rfl)
    (he : starEach [e1, e2] X.env = (false, eval e1 X.env) :: starEach [e2] X.env := by rfl) (he2 : starEach [e2] X.env = (false, eval e2 X.env) :: starEach [] X.env := by rfl) (hpl : (backTo pos (starEach [e2] X.env)).any (·.1) = false := by rfl) :
    EV X b (.Call (.Name "_law_taken" p) [e1, e2] [] pos) (gL Pt a R1 g) (.d (.int v)) (gL Pt a R' g) :=
  ev_taken3 T hK hr ne hR m0 mz hv hR' (ea_cons h1 (ea_cons h2 ea_nil he2) he) hg he hpl
section
variable {P : Program} {w : World} {K : PySem.W.Frag} {mg : Str → Option Value} {base : Heap}
abbrev XL (P : Program) (w : World) (K : PySem.W.Frag) (mg : Str → Option Value) (base : Heap) (T : Tx K mg) (A : Around) (outer : List Env) (s : Shared) (H : Hp) (E : XK) : Cx := (cxOf CX0 P w K mg base N_law "law" (defScope s_law) T.d_law.fa T.d_law.fd.code A outer s H E).nox
abbrev Xl (X : Cx) (A : Around) (outer : List Env) (s : Shared) (H : Hp) (E : XK) (scope : Scope) (f c' : Addr) : Cx := lamCx X A outer s H E scope f c'
theorem shS (x : Str) (h : PyData.strOk x = true := by decide +kernel) : SeqAt.shaped (.str x) = true := by
  show (PyData.canLay0 (.str x) && decide (PyData.depth (.str x) ≤ 64)) = true
  simp [PyData.canLay0, PyData.depth, h]
theorem eqvS (x : Str) : PyData.eqv (.str x) (.str x) = true := by simp [PyData.eqv]
theorem lawQ_is (T : Tx K mg) (A : Around) (outer : List Env) (s : Shared) (H : Hp) (E : XK) : lamQ (XL P w K mg base T A outer s H E) = lawQ := by rfl
theorem ev_taken5 {X : Cx} {b : Bs} {pos p : Pos} {e1 e2 : Expr} {g : List DV} {Pt a : Addr} (T : Tx X.K X.mg) (hK : X.K = b.K) (hr : Room 1 X.A) (ne : Pt ≠ a) {R0 R1 R' : Row} {m v : Int} (hR : R1.Ok) (m0 : 0 < m) (mz : Sz 60 m) (hv : (R1.step m).1 = v) (hR' : (R1.step m).2 = R')
    (h1 : EV X b e1 (gL Pt a R0 g) (.m a) (gL Pt a R0 g)) (h2 : EV X b e2 (gL Pt a R0 g) (.d (.int m)) (gL Pt a R1 g)) (hg : Gl X "_law_taken" := by rfl)
    (he : starEach [e1, e2] X.env = (false, eval e1 X.env) :: starEach [e2] X.env := by rfl) (he2 : starEach [e2] X.env = (false, eval e2 X.env) :: starEach [] X.env := by rfl) (hpl : (backTo pos (starEach [e2] X.env)).any (·.1) = false := by rfl) :
    EV X b (.Call (.Name "_law_taken" p) [e1, e2] [] pos) (gL Pt a R0 g) (.d (.int v)) (gL Pt a R' g) :=
  ev_taken3 T hK hr ne hR m0 mz hv hR' (ea_cons h1 (ea_cons h2 ea_nil he2) he) hg he hpl
end
end KC
end
section
set_option Elab.async false
set_option linter.all false
set_option maxRecDepth 100000
set_option maxHeartbeats 4000000
set_option exponentiation.threshold 300000
namespace KC
open PySem PySem.Spec PyProof.Rows L2 DX
set_option autoImplicit false
open LamX
open SX (S)
theorem st_T {es rest : List Expr} {k : Nat} {p : Pos} {env : Env} : starEach (.Tuple es k p :: rest) env = (false, eval (.Tuple es k p) env) :: starEach rest env := by rfl
theorem st_L {es rest : List Expr} {p : Pos} {env : Env} : starEach (.List es p :: rest) env = (false, eval (.List es p) env) :: starEach rest env := by rfl
mutual
inductive Lit : Expr → PyData → Prop
  | int (i : Int) (j : Nat) (p : Pos) : Lit (.Constant (.int i) j p) (.int i)
  | non (j : Nat) (p : Pos) : Lit (.Constant .none j p) .none
  | str (c : Str) (j : Nat) (p : Pos) : Lit (.Constant (.str c) j p) (.str c)
  | tup {es : List Expr} {ds : List PyData} (k : Nat) (p : Pos) : LitAll es ds → ds.length ≤ 1000 → Lit (.Tuple es k p) (.tuple ds)
  | lst {es : List Expr} {ds : List PyData} (p : Pos) : LitAll es ds → ds.length ≤ 1000 → Lit (.List es p) (.list ds)
inductive LitAll : List Expr → List PyData → Prop
  | nil : LitAll [] []
  | cons {e : Expr} {d : PyData} {es : List Expr} {ds : List PyData} : Lit e d → LitAll es ds → LitAll (e :: es) (d :: ds)
end
theorem Lit.star {e : Expr} {d : PyData} {rest : List Expr} {env : Env} (h : Lit e d) : starEach (e :: rest) env = (false, eval e env) :: starEach rest env := by
  cases h <;> rfl
mutual
theorem Lit.ev {X : Cx} {b : Bs} {S : DS} : ∀ {e : Expr} {d : PyData}, Lit e d → EV X b e S (.d d) S
  | _, _, .int _ _ _ => ev_int
  | _, _, .non _ _ => ev_non
  | _, _, .str _ _ _ => ev_str
  | _, _, .tup _ _ h z => ev_tup (LitAll.ea h) z
  | _, _, .lst _ h z => ev_lst (LitAll.ea h) z
theorem LitAll.ea {X : Cx} {b : Bs} {S : DS} : ∀ {es : List Expr} {ds : List PyData}, LitAll es ds → EA X b es S (ds.map .d) S
  | _, _, .nil => ea_nil
  | _, _, .cons h hs => ea_cons (Lit.ev h) (LitAll.ea hs) h.star
end
def nots (rs : List Rd) : List PyData := [.none, .tuple [.int 3], .tuple [.int 2, .tuple []], .tuple (rs.map roadD), .tuple [.int 4, .none], .list [.int 3, .tuple []]]
theorem nots_bad (rs : List Rd) : ∀ x ∈ nots rs, few25 x ∧ isTree x = false := by
  intro x hx
  unfold nots at hx
  rcases List.mem_cons.mp hx with rfl | hx
  · exact ⟨fun m xs e => (by cases e), rfl⟩
  rcases List.mem_cons.mp hx with rfl | hx
  · exact ⟨fun m xs e => (by cases e), rfl⟩
  rcases List.mem_cons.mp hx with rfl | hx
  · exact ⟨fun m xs e => (by cases e; decide), by decide +kernel⟩
  rcases List.mem_cons.mp hx with rfl | hx
  · match rs with
    | [] => exact ⟨fun m xs e => (by cases e), rfl⟩
    | [p] => exact ⟨fun m xs e => (by cases e), rfl⟩
    | [p, q] =>
      refine ⟨fun m xs e => ?_, rfl⟩
      injection e with e
      injection e with _ e
      injection e with e _
      injection e with e
      rw [← e]
      show 2 ≤ 900
      decide
    | p :: q :: u :: r => exact ⟨fun m xs e => (by cases e), rfl⟩
  rcases List.mem_cons.mp hx with rfl | hx
  · exact ⟨fun m xs e => (by cases e), by decide +kernel⟩
  rw [List.mem_singleton] at hx
  subst hx
  exact ⟨fun m xs e => (by cases e), rfl⟩
section
variable {P : Program} {w : World} {K : PySem.W.Frag} {mg : Str → Option Value} {base : Heap}
theorem seg16 (T : Tx K mg) (TE : TxE T) (TM : TxM T) (c Pt a : Addr) (TB : TabB base mg c Pt) (hcode : T.d_law.fd.code = .ref c) (ne : Pt ≠ a) (A : Around) (outer : List Env) (s : Shared) (H : Hp) (E : XK) (b : Bs) (hK : b.K = K)
    (hr : Room 12 (XL P w K mg base T A outer s H E).A) (R : Row) (hR : R.Ok) (n : Nat) (rs : List Rd) (x0 x3 x4 x5 x6 x7 x8 x9 x10 x11 x12 x13 x14 : DV) :
    SX (XL P w K mg base T A outer s H E) b ((defBody s_law).drop 16) (gL Pt a R [x0, .m a, .d (treeD n rs), x3, x4, x5, x6, x7, x8, x9, x10, x11, x12, x13, x14]) (lawDE Pt) := by
  have hin : ∀ {R g}, (Pt, MO.tab (lamQ (XL P w K mg base T A outer s H E))) ∈ (gL Pt a R g).m := List.mem_cons_self ..
  obtain ⟨odd, R1, v1, q1, m1, o1⟩ := pick_some hR (xs := nots rs) (by unfold nots; simp)
  obtain ⟨b1, b2⟩ := nots_bad rs odd m1
  refine sx_one (sy_ret (S1 := gL Pt a R1 [x0, .m a, .d (treeD n rs), x3, x4, x5, x6, x7, x8, x9, x10, x11, x12, x13, x14]) (ev_eq hK.symm (Nat.lt_of_le_of_lt (Nat.le_refl _) hr.units) (ev_tell2 (l := tl2 T) (C := T.c_BadTree) (r := "BadTree") (k := 10) (P := Pt) (S1 := gL Pt a R1 [x0, .m a, .d (treeD n rs), x3, x4, x5, x6, x7, x8, x9, x10, x11, x12, x13, x14]) hin T.d_law_told.m T.d_law_told.F T.d_law_told.b sc_law_told rfl (.inl rfl) (told_gives (X := XL P w K mg base T A outer s H E) T TM _) (lamMk0 TB hcode (lamA_by (N := N_law) (sc := defScope s_law) (by decide +kernel)) rfl fun _ _ _ _ _ => rfl) hr (lamA_by (N := N_law) (sc := defScope s_law) (by decide +kernel)) (List.mem_cons_of_mem _ (List.mem_singleton.mpr rfl)) (fun _ h => h) ?_) ev_str (shS _) (shS _)) ⟨?_, lawQ, List.mem_cons_self ..⟩)
  · intro σ H1 E1 rl hE Q A1 outer1 s1 H2 f1 c1 hr1
    refine wE_err2 (X := lamCx (XL P w K mg base T A outer s H E) A1 outer1 s1 H2 E1 _ f1 c1) (ok_write T TE) hK.symm (hr1.mono (by decide)) T.d_write.m T.d_write.F.kp T.d_write.b (passes_call (takes_of rfl rfl rfl rfl) fun _ _ _ _ h => h) (ds := [odd]) (ea_cons (ev_pick4 T hK.symm (hr1.mono (by decide)) ne hR (xs := nots rs) (by unfold nots; simp) (by unfold nots; simp) v1 q1 (vn 1) ?_) ea_nil) ⟨_, rfl, b1, .inl ⟨b2, rfl⟩⟩ rl hE
    refine ev_lst (ds := nots rs) (ea_cons ev_non (ea_cons (Lit.ev ?_) (ea_cons (Lit.ev ?_) (ea_cons (x := .d (.tuple (rs.map roadD))) (ev_ixT (ds := [.int (n : Int), .tuple (rs.map roadD)]) hK.symm (vn 2) ev_int rfl) (ea_cons (Lit.ev ?_) (ea_cons (Lit.ev ?_) ea_nil)))))) (by unfold nots; simp)
    · exact .tup _ _ (.cons (.int _ _ _) .nil) lq
    · exact .tup _ _ (.cons (.int _ _ _) (.cons (.tup _ _ .nil lq) .nil)) lq
    · exact .tup _ _ (.cons (.int _ _ _) (.cons (.non _ _) .nil)) lq
    · exact .lst _ (.cons (.int _ _ _) (.cons (.tup _ _ .nil lq) .nil)) lq
  · rw [eqvS]
def OddT (x : PyData) : Prop := isInst x "str" = false ∨ ∃ u : List Nat, x = .str (S u) ∧ u.length ≤ 100000 ∧ u.count 59 ≤ 900 ∧ okRead u = false
theorem seg15 (T : Tx K mg) (TE : TxE T) (TM : TxM T) (c Pt a : Addr) (TB : TabB base mg c Pt) (hcode : T.d_law.fd.code = .ref c) (ne : Pt ≠ a) (A : Around) (outer : List Env) (s : Shared) (H : Hp) (E : XK) (b : Bs) (hK : b.K = K)
    (hr : Room 12 (XL P w K mg base T A outer s H E).A) (R : Row) (hR : R.Ok) (n : Nat) (rs : List Rd) (odd : PyData) (ho : OddT odd) (x0 x3 x4 x5 x6 x7 x8 x9 x10 x11 x13 x14 : DV) :
    SX (XL P w K mg base T A outer s H E) b ((defBody s_law).drop 15) (gL Pt a R [x0, .m a, .d (treeD n rs), x3, x4, x5, x6, x7, x8, x9, x10, x11, .d odd, x13, x14]) (lawDE Pt) := by
  have hin : ∀ {R g}, (Pt, MO.tab (lamQ (XL P w K mg base T A outer s H E))) ∈ (gL Pt a R g).m := List.mem_cons_self ..
  refine sx_cons (sy_if (S1 := gL Pt a R [x0, .m a, .d (treeD n rs), x3, x4, x5, x6, x7, x8, x9, x10, x11, .d odd, x13, x14]) (t := !PyData.eqv (.str "BadText") (.str "BadText")) (et_ne hK.symm (Nat.lt_of_le_of_lt (Nat.le_refl _) hr.units) (ev_tell (l := tl2 T) (C := T.c_BadText) (r := "BadText") (k := 10) (P := Pt) hin T.d_law_told.m T.d_law_told.F T.d_law_told.b sc_law_told rfl (.inl rfl) (told_gives (X := XL P w K mg base T A outer s H E) T TM _) (lamMk0 TB hcode (lamA_by (N := N_law) (sc := defScope s_law) (by decide +kernel)) rfl fun _ _ _ _ _ => rfl) hr (lamA_by (N := N_law) (sc := defScope s_law) (by decide +kernel)) (List.mem_cons_self ..) ?_) ev_str (shS _) (shS _)) (fun h => ?_) fun _ => ?_)
  · intro σ H1 E1 rl hE Q A1 outer1 s1 H2 f1 c1 hr1
    refine wE_err (X := lamCx (XL P w K mg base T A outer s H E) A1 outer1 s1 H2 E1 _ f1 c1) (ok_read T TE) hK.symm (hr1.mono (by decide)) T.d_read.m T.d_read.F.kp T.d_read.b (passes_call (takes_of rfl rfl rfl rfl) fun _ _ _ _ h => h) (ds := [odd]) (ea_cons (vn 12) ea_nil) ?_ rl hE
    refine ⟨_, rfl, ?_⟩
    rcases ho with h | ⟨u, rfl, hu, hc, hb⟩
    · exact .inl ⟨h, rfl⟩
    · refine .inr ⟨u, rfl, by omega, spl_few hc, ?_⟩
      have : (isTree (treeD (readP u).1 (readP u).2) && decide (textL (readP u).1 (readP u).2 = u)) = false := hb
      rw [this]
      rfl
  · rw [eqvS] at h; cases h
  · exact sx_nil (seg16 T TE TM c Pt a TB hcode ne A outer s H E b hK hr R hR n rs x0 x3 x4 x5 x6 x7 x8 x9 x10 x11 (.d odd) x13 x14)
end
end KC
end
section
set_option Elab.async false
set_option linter.all false
set_option maxRecDepth 100000
set_option maxHeartbeats 4000000
set_option exponentiation.threshold 300000
namespace KC
open PySem PySem.Spec PyProof.Rows L2 DX
set_option autoImplicit false
open LamX
open SX (S)
def odd1 (u : List Nat) : List PyData := [.none, .int 3, .str "", .str ":", .str (S (u ++ [32])), .str (S (u ++ [10])), .str "3"]
def odd2 (u : List Nat) : List PyData := [.str "7:", .str "2:", .list [.str (S u)], .str (S (List.replicate 40 u).flatten), .str "3: 1 2 = 4/4;", .str "4: 1 2 = 02;"]
def odd3 (x : PyData) : List PyData := [x, .str "4: 2 1 = 3;", .str "4: 1 2 = 3; 1 3 = 1;"]
def odd4 : List PyData := [.str "4: 1 3 = 1; 1 2 3 = 1;;", .str "3: 1 2 = 501;", .str "3: 1 2=1;"]
theorem oddL (s : Str) (h : (decide (s.cps.toList.length ≤ 1000) && decide (s.cps.toList.count 59 ≤ 900) && !okRead s.cps.toList) = true) : OddT (.str s) := by
  simp only [Bool.and_eq_true, decide_eq_true_eq, Bool.not_eq_true'] at h
  exact .inr ⟨s.cps.toList, by rw [SX.S_tl], by omega, h.1.2, h.2⟩
theorem odd1_bad {u : List Nat} (hu : u.length ≤ 1000) (hc : u.count 59 ≤ 10) : ∀ x ∈ odd1 u, OddT x := by
  intro x hx
  unfold odd1 at hx
  rcases List.mem_cons.mp hx with rfl | hx
  · exact .inl rfl
  rcases List.mem_cons.mp hx with rfl | hx
  · exact .inl rfl
  rcases List.mem_cons.mp hx with rfl | hx
  · exact oddL _ (by decide +kernel)
  rcases List.mem_cons.mp hx with rfl | hx
  · exact oddL _ (by decide +kernel)
  rcases List.mem_cons.mp hx with rfl | hx
  · exact .inr ⟨_, rfl, by rw [List.length_append]; simp; omega, by rw [List.count_append]; simp; omega, okRead_last (by decide) (by decide)⟩
  rcases List.mem_cons.mp hx with rfl | hx
  · exact .inr ⟨_, rfl, by rw [List.length_append]; simp; omega, by rw [List.count_append]; simp; omega, okRead_last (by decide) (by decide)⟩
  rw [List.mem_singleton] at hx
  subst hx
  exact oddL _ (by decide +kernel)
theorem odd2_bad {u : List Nat} (hu : u.length ≤ 1000) (hc : u.count 59 ≤ 10) (h58 : u.count 58 = 1) : ∀ x ∈ odd2 u, OddT x := by
  intro x hx
  unfold odd2 at hx
  rcases List.mem_cons.mp hx with rfl | hx
  · exact oddL _ (by decide +kernel)
  rcases List.mem_cons.mp hx with rfl | hx
  · exact oddL _ (by decide +kernel)
  rcases List.mem_cons.mp hx with rfl | hx
  · exact .inl rfl
  rcases List.mem_cons.mp hx with rfl | hx
  · refine .inr ⟨_, rfl, ?_, by rw [rep_count]; omega, okRead_many (by rw [rep_count]; omega)⟩
    have := flat_len (k := 1000) (List.replicate 40 u) fun x hx => by rw [List.eq_of_mem_replicate hx]; exact hu
    rw [List.length_replicate] at this
    omega
  rcases List.mem_cons.mp hx with rfl | hx
  · exact oddL _ (by decide +kernel)
  rw [List.mem_singleton] at hx
  subst hx
  exact oddL _ (by decide +kernel)
theorem odd3_bad {y : PyData} (hy : OddT y) : ∀ x ∈ odd3 y ++ odd4, OddT x := by
  intro x hx
  rcases List.mem_append.mp hx with hx | hx
  · unfold odd3 at hx
    rcases List.mem_cons.mp hx with rfl | hx
    · exact hy
    rcases List.mem_cons.mp hx with rfl | hx
    · exact oddL _ (by decide +kernel)
    rw [List.mem_singleton] at hx
    subst hx
    exact oddL _ (by decide +kernel)
  · unfold odd4 at hx
    rcases List.mem_cons.mp hx with rfl | hx
    · exact oddL _ (by decide +kernel)
    rcases List.mem_cons.mp hx with rfl | hx
    · exact oddL _ (by decide +kernel)
    rw [List.mem_singleton] at hx
    subst hx
    exact oddL _ (by decide +kernel)
section
variable {P : Program} {w : World} {K : PySem.W.Frag} {mg : Str → Option Value} {base : Heap}
theorem seg11 (T : Tx K mg) (TE : TxE T) (TM : TxM T) (c Pt a : Addr) (TB : TabB base mg c Pt) (hcode : T.d_law.fd.code = .ref c) (ne : Pt ≠ a) (A : Around) (outer : List Env) (s : Shared) (H : Hp) (E : XK) (b : Bs) (hK : b.K = K)
    (hr : Room 12 (XL P w K mg base T A outer s H E).A) (R : Row) (hR : R.Ok) (n : Nat) (rs : List Rd) (u : List Nat) (hu : u.length ≤ 1000) (hc : u.count 59 ≤ 10) (h58 : u.count 58 = 1) (x0 x4 x5 x6 x7 x8 x9 x10 x11 x12 x13 x14 : DV) :
    SX (XL P w K mg base T A outer s H E) b ((defBody s_law).drop 11) (gL Pt a R [x0, .m a, .d (treeD n rs), .d (.str (S u)), x4, x5, x6, x7, x8, x9, x10, x11, x12, x13, x14]) (lawDE Pt) := by
  obtain ⟨y, R1, v1, q1, m1, o1⟩ := pick_some hR (xs := odd1 u ++ odd2 u) (by unfold odd1; simp)
  have hy : OddT y := by
    rcases List.mem_append.mp m1 with h | h
    · exact odd1_bad hu hc y h
    · exact odd2_bad hu hc h58 y h
  obtain ⟨z, R2, v2, q2, m2, o2⟩ := pick_some o1 (xs := odd3 y ++ odd4) (by unfold odd3; simp)
  have hz := odd3_bad hy z m2
  refine sx_cons (sy_asg (i := 11) (x := .d (.list (odd1 u))) (S1 := gL Pt a R [x0, .m a, .d (treeD n rs), .d (.str (S u)), x4, x5, x6, x7, x8, x9, x10, x11, x12, x13, x14]) (ev_lst (ds := odd1 u) (ea_cons ev_non (ea_cons ev_int (ea_cons ev_str (ea_cons ev_str (ea_cons (x := .d (.str (S (u ++ [32])))) (ev_addL (vn 3) (ev_lit [32]) (by simp; omega)) (ea_cons (x := .d (.str (S (u ++ [10])))) (ev_addL (vn 3) (ev_lit [10]) (by simp; omega)) (ea_cons ev_str ea_nil))))))) lq) sc_law.nd rfl (.inl rfl) li ?_)
  show SX _ _ _ (gL Pt a R [x0, .m a, .d (treeD n rs), .d (.str (S u)), x4, x5, x6, x7, x8, x9, x10, .d (.list (odd1 u)), x12, x13, x14]) _
  refine sx_cons (sy_asg (i := 12) (x := .d y) (S1 := gL Pt a R1 [x0, .m a, .d (treeD n rs), .d (.str (S u)), x4, x5, x6, x7, x8, x9, x10, .d (.list (odd1 u)), x12, x13, x14]) (ev_pick4 T hK.symm (hr.mono (by decide)) ne hR (xs := odd1 u ++ odd2 u) (by unfold odd1; simp) (by unfold odd1 odd2; simp) v1 q1 (vn 1) (ev_catL hK.symm (vn 11) (ev_lst (ds := odd2 u) (ea_cons ev_str (ea_cons ev_str (ea_cons (x := .d (.list [.str (S u)])) (ev_lst (ds := [.str (S u)]) (ea_cons (vn 3) ea_nil) lq) (ea_cons (x := .d (.str (S (List.replicate 40 u).flatten))) (ev_mulL (k := 40) (vn 3) ev_int (by decide) (by show u.length * 40 ≤ _; omega)) (ea_cons ev_str (ea_cons ev_str ea_nil)))))) lq) (by unfold odd1 odd2; simp))) sc_law.nd rfl (.inr rfl) li ?_)
  show SX _ _ _ (gL Pt a R1 [x0, .m a, .d (treeD n rs), .d (.str (S u)), x4, x5, x6, x7, x8, x9, x10, .d (.list (odd1 u)), .d y, x13, x14]) _
  refine sx_cons (sy_asg (i := 11) (x := .d (.list (odd3 y))) (S1 := gL Pt a R1 [x0, .m a, .d (treeD n rs), .d (.str (S u)), x4, x5, x6, x7, x8, x9, x10, .d (.list (odd1 u)), .d y, x13, x14]) (ev_lst (ds := odd3 y) (ea_cons (vn 12) (ea_cons ev_str (ea_cons ev_str ea_nil))) lq) sc_law.nd rfl (.inl rfl) li ?_)
  show SX _ _ _ (gL Pt a R1 [x0, .m a, .d (treeD n rs), .d (.str (S u)), x4, x5, x6, x7, x8, x9, x10, .d (.list (odd3 y)), .d y, x13, x14]) _
  refine sx_cons (sy_asg (i := 12) (x := .d z) (S1 := gL Pt a R2 [x0, .m a, .d (treeD n rs), .d (.str (S u)), x4, x5, x6, x7, x8, x9, x10, .d (.list (odd3 y)), .d y, x13, x14]) (ev_pick4 T hK.symm (hr.mono (by decide)) ne o1 (xs := odd3 y ++ odd4) (by unfold odd3; simp) (by unfold odd3 odd4; simp) v2 q2 (vn 1) (ev_catL hK.symm (vn 11) (ev_lst (ds := odd4) (ea_cons ev_str (ea_cons ev_str (ea_cons ev_str ea_nil))) lq) (by unfold odd3 odd4; simp))) sc_law.nd rfl (.inr rfl) li ?_)
  exact seg15 T TE TM c Pt a TB hcode ne A outer s H E b hK hr R2 o2 n rs z hz x0 (.d (.str (S u))) x4 x5 x6 x7 x8 x9 x10 (.d (.list (odd3 y))) x13 x14
end
end KC
end
section
set_option Elab.async false
set_option linter.all false
set_option maxRecDepth 100000
set_option maxHeartbeats 4000000
set_option exponentiation.threshold 300000
namespace KC
open PySem PySem.Spec PyProof.Rows L2 DX
set_option autoImplicit false
open LamX
open SX (S)
def bt : List Nat := [66, 97, 100, 84, 101, 120, 116]
theorem bt_is : ("BadText" : Str) = S bt := by decide
theorem cut_len (u : List Nat) (lo hi : Option Int) : (cutS (S u) lo hi).cps.toList.length ≤ u.length := by
  unfold cutS
  simp only [List.length_take, List.length_drop]
  omega
section
variable {X : Cx} {b : Bs} {S0 S1 S2 : DS} {pos : Pos}
theorem ev_cutToL {e1 e2 : Expr} {u : List Nat} {i : Int} {p2 : Pos} (h1 : EV X b e1 S0 (.d (.str (S u))) S1) (h2 : EV X b e2 S1 (.d (.int i)) S2) (hl : u.length ≤ 1000000) : EV X b (.Subscript e1 (.Slice none (some e2) none p2) pos) S0 (.d (.str (S (cutS (S u) none (some i)).cps.toList))) S2 := ev_cast (ev_cutTo h1 h2 (by rw [SX.S_len]; exact hl)) (by rw [SX.S_tl])
theorem ev_cutFromL {e1 e2 : Expr} {u : List Nat} {i : Int} {p2 : Pos} (h1 : EV X b e1 S0 (.d (.str (S u))) S1) (h2 : EV X b e2 S1 (.d (.int i)) S2) (hl : u.length ≤ 1000000) : EV X b (.Subscript e1 (.Slice (some e2) none none p2) pos) S0 (.d (.str (S (cutS (S u) (some i) none).cps.toList))) S2 := ev_cast (ev_cutFrom h1 h2 (by rw [SX.S_len]; exact hl)) (by rw [SX.S_tl])
end
def told2 : List PyData := [.str "", .str "BadText"]
theorem sh_told2 : SeqAt.shaped (.list told2) = true := by decide +kernel
def signs : List PyData := [.str "", .str " ", .str ";", .str "0", .str "1", .str "7", .str "/", .str "=", .str ":", .str "a", .str "/2"]
def signB : PyData → Bool
  | .str s => decide (s.cps.toList.length ≤ 2)
  | _ => false
theorem sign_S {x : PyData} (h : x ∈ signs) : ∃ sl : List Nat, x = .str (S sl) ∧ sl.length ≤ 2 := by
  have hall : ∀ x ∈ signs, signB x = true := by
    intro x hx
    have : signs.all signB = true := by decide +kernel
    exact List.all_eq_true.mp this x hx
  have := hall x h
  cases x with
  | str s => exact ⟨s.cps.toList, by rw [SX.S_tl], of_decide_eq_true this⟩
  | _ => cases this
section
variable {P : Program} {w : World} {K : PySem.W.Frag} {mg : Str → Option Value} {base : Heap}
theorem seg9A (T : Tx K mg) (TE : TxE T) (TM : TxM T) (c Pt a : Addr) (TB : TabB base mg c Pt) (hcode : T.d_law.fd.code = .ref c) (ne : Pt ≠ a) (A : Around) (outer : List Env) (s : Shared) (H : Hp) (E : XK) (b : Bs) (hK : b.K = K)
    (hr : Room 12 (XL P w K mg base T A outer s H E).A) (R : Row) (hR : R.Ok) (n : Nat) (rs : List Rd) (u : List Nat) (hu : u.length ≤ 1000) (hc : u.count 59 ≤ 10) (h58 : u.count 58 = 1) (v : List Nat) (hv : v.count 59 ≤ 900) (ho : okRead v = true) (x0 x4 x5 x6 x7 x11 x12 x13 x14 : DV) :
    SX (XL P w K mg base T A outer s H E) b ((defBody s_law).drop 9) (gL Pt a R [x0, .m a, .d (treeD n rs), .d (.str (S u)), x4, x5, x6, x7, .d (.str (S v)), .d (.str (S [])), .d (treeD (readP v).1 (readP v).2), x11, x12, x13, x14]) (lawDE Pt) := by
  obtain ⟨hT, hE⟩ := okRead_eq ho
  have hf := readP_few hv
  have hB := isTree_bound hT hf
  generalize (readP v).1 = n' at *
  generalize (readP v).2 = rs' at *
  refine sx_cons (sy_if (S1 := gL Pt a R [x0, .m a, .d (treeD n rs), .d (.str (S u)), x4, x5, x6, x7, .d (.str (S v)), .d (.str (S [])), .d (treeD n' rs'), x11, x12, x13, x14]) (t := (decide (([] : List Nat) = []) && !decide (textL n' rs' = v)) || !told2.any fun z => PyData.eqv z (.str (S []))) (et_w (ew_or (et_w (ew_and (et_eqS (vn 9) (ev_lit [])) fun _ => et_and1 (et_neS (ev_callX (EE := fun _ _ _ => False) (ok_write T TE) hK.symm (hr.mono (by decide)) rfl T.d_write.m T.d_write.F.kp T.d_write.b passF (ds := [treeD n' rs']) (ea_cons (vn 10) ea_nil) ⟨_, rfl, few_treeD hf, .inr ⟨n', rs', hB, rfl, hT, rfl⟩⟩) (vn 8)))) fun _ => et_or1 (et_notInD hK.symm (Nat.lt_of_le_of_lt (Nat.le_refl _) (hu_of65 hr)) (vn 9) (ev_lst (ds := told2) (ea_cons ev_str (ea_cons ev_str ea_nil)) lq) (shS _) sh_told2))) (fun h => ?_) fun _ => sx_nil ?_)
  · rw [hE, decide_eq_true rfl, decide_eq_true rfl] at h
    exact absurd h (by decide +kernel)
  · refine sx_cons (sy_if (S1 := gL Pt a R [x0, .m a, .d (treeD n rs), .d (.str (S u)), x4, x5, x6, x7, .d (.str (S v)), .d (.str (S [])), .d (treeD n' rs'), x11, x12, x13, x14]) (t := decide (([] : List Nat) = bt) && decide (v = u)) (et_w (ew_and (et_eqS (vn 9) (ev_lit bt)) fun _ => et_and1 (et_eqS (vn 8) (vn 3)))) (fun h => by cases h) fun _ => sx_nil ?_)
    exact seg11 T TE TM c Pt a TB hcode ne A outer s H E b hK hr R hR n rs u hu hc h58 x0 x4 x5 x6 x7 (.d (.str (S v))) (.d (.str (S []))) (.d (treeD n' rs')) x11 x12 x13 x14
theorem seg9B (T : Tx K mg) (TE : TxE T) (TM : TxM T) (c Pt a : Addr) (TB : TabB base mg c Pt) (hcode : T.d_law.fd.code = .ref c) (ne : Pt ≠ a) (A : Around) (outer : List Env) (s : Shared) (H : Hp) (E : XK) (b : Bs) (hK : b.K = K)
    (hr : Room 12 (XL P w K mg base T A outer s H E).A) (R : Row) (hR : R.Ok) (n : Nat) (rs : List Rd) (u : List Nat) (hu : u.length ≤ 1000) (hc : u.count 59 ≤ 10) (h58 : u.count 58 = 1) (v : List Nat) (hvu : v ≠ u) (x0 x4 x5 x6 x7 x11 x12 x13 x14 : DV) :
    SX (XL P w K mg base T A outer s H E) b ((defBody s_law).drop 9) (gL Pt a R [x0, .m a, .d (treeD n rs), .d (.str (S u)), x4, x5, x6, x7, .d (.str (S v)), .d (.str (S bt)), .d .none, x11, x12, x13, x14]) (lawDE Pt) := by
  refine sx_cons (sy_if (S1 := gL Pt a R [x0, .m a, .d (treeD n rs), .d (.str (S u)), x4, x5, x6, x7, .d (.str (S v)), .d (.str (S bt)), .d .none, x11, x12, x13, x14]) (t := (decide (bt = []) && true) || !told2.any fun z => PyData.eqv z (.str (S bt))) (et_w (ew_or (et_w (ew_and (et_eqS (vn 9) (ev_lit [])) fun h => by cases h)) fun _ => et_or1 (et_notInD hK.symm (Nat.lt_of_le_of_lt (Nat.le_refl _) (hu_of65 hr)) (vn 9) (ev_lst (ds := told2) (ea_cons ev_str (ea_cons ev_str ea_nil)) lq) (shS _) sh_told2))) (fun h => ?_) fun _ => sx_nil ?_)
  · exact absurd h (by decide +kernel)
  · refine sx_cons (sy_if (S1 := gL Pt a R [x0, .m a, .d (treeD n rs), .d (.str (S u)), x4, x5, x6, x7, .d (.str (S v)), .d (.str (S bt)), .d .none, x11, x12, x13, x14]) (t := decide (bt = bt) && decide (v = u)) (et_w (ew_and (et_eqS (vn 9) (ev_lit bt)) fun _ => et_and1 (et_eqS (vn 8) (vn 3)))) (fun h => by rw [decide_eq_false hvu, Bool.and_false] at h; cases h) fun _ => sx_nil ?_)
    exact seg11 T TE TM c Pt a TB hcode ne A outer s H E b hK hr R hR n rs u hu hc h58 x0 x4 x5 x6 x7 (.d (.str (S v))) (.d (.str (S bt))) (.d .none) x11 x12 x13 x14
theorem seg7 (T : Tx K mg) (TE : TxE T) (TM : TxM T) (c Pt a : Addr) (TB : TabB base mg c Pt) (hcode : T.d_law.fd.code = .ref c) (ne : Pt ≠ a) (A : Around) (outer : List Env) (s : Shared) (H : Hp) (E : XK) (b : Bs) (hK : b.K = K)
    (hr : Room 12 (XL P w K mg base T A outer s H E).A) (R : Row) (hR : R.Ok) (n : Nat) (rs : List Rd) (u : List Nat) (hu : u.length ≤ 1000) (hc : u.count 59 ≤ 10) (h58 : u.count 58 = 1) (hou : okRead u = true) (v : List Nat) (hvl : v.length ≤ 900000) (hv : v.count 59 ≤ 900) (x0 x4 x5 x6 x7 x9 x10 x11 x12 x14 : DV) :
    SX (XL P w K mg base T A outer s H E) b ((defBody s_law).drop 7) (gL Pt a R [x0, .m a, .d (treeD n rs), .d (.str (S u)), x4, x5, x6, x7, .d (.str (S v)), x9, x10, x11, x12, .no, x14]) (lawDE Pt) := by
  refine sx_cons (sy_unpack (S1 := gL Pt a R [x0, .m a, .d (treeD n rs), .d (.str (S u)), x4, x5, x6, x7, .d (.str (S v)), x9, x10, x11, x12, .no, x14]) (S2 := gL Pt a R [x0, .m a, .d (treeD n rs), .d (.str (S u)), x4, x5, x6, x7, .d (.str (S v)), .d (.str (S [])), .d .none, x11, x12, .no, x14]) (ev_tup (ds := [.str (S []), .none]) (ea_cons (ev_lit []) (ea_cons ev_non ea_nil)) lq) (pg_tup rfl (pgs_cons (pg_name (i := 9) sc_law.nd rfl (.inl rfl)) (pgs_cons (pg_name (i := 10) sc_law.nd rfl (.inl rfl)) pgs_nil))) (tg_tup (ds := [.str (S []), .none]) hK.symm rfl (.cons (S := gL Pt a R [x0, .m a, .d (treeD n rs), .d (.str (S u)), x4, x5, x6, x7, .d (.str (S v)), x9, x10, x11, x12, .no, x14]) (tg_name (i := 9) li) rfl (.cons (tg_name (i := 10) li) rfl .nil))) rfl ?_)
  show SX _ _ _ (gL Pt a R [x0, .m a, .d (treeD n rs), .d (.str (S u)), x4, x5, x6, x7, .d (.str (S v)), .d (.str (S [])), .d .none, x11, x12, .no, x14]) _
  refine sx_cons (sy_tryCall (i := 10) (j := 13) (c := .ref T.c_BadText) (ds := [.str (S v)]) (r := if isTree (treeD (readP v).1 (readP v).2) && decide (textL (readP v).1 (readP v).2 = v) then .val (treeD (readP v).1 (readP v).2) else .err T.c_BadText) (ok_read T TE) hK.symm (hr.mono (by decide)) T.d_read.m T.d_read.F.kp T.d_read.b rfl rfl sc_law.nd ⟨rfl, by decide, .inl T.m_BadText⟩ rfl rfl (fun pn xe => ea_cons (vn 8) ea_nil) ⟨_, rfl, .inr ⟨v, rfl, hvl, spl_few hv, rfl⟩⟩ rfl (.inl rfl) li rfl (fun d hd => ?_) (fun C hC => ?_) fun C hC a' pn => ?_)
  · by_cases h : (isTree (treeD (readP v).1 (readP v).2) && decide (textL (readP v).1 (readP v).2 = v)) = true
    · rw [if_pos h] at hd
      cases hd
      exact seg9A T TE TM c Pt a TB hcode ne A outer s H E b hK hr R hR n rs u hu hc h58 v hv h x0 x4 x5 x6 x7 x11 x12 .no x14
    · rw [if_neg h] at hd
      cases hd
  · by_cases h : (isTree (treeD (readP v).1 (readP v).2) && decide (textL (readP v).1 (readP v).2 = v)) = true
    · rw [if_pos h] at hC
      cases hC
    · rw [if_neg h] at hC
      cases hC
      exact TM.tt
  · refine sx_one (sy_asg (i := 9) (x := .d (.str (S bt))) (S1 := gL Pt a R [x0, .m a, .d (treeD n rs), .d (.str (S u)), x4, x5, x6, x7, .d (.str (S v)), .d (.str (S [])), .d .none, x11, x12, .no, x14]) (ev_lit bt) sc_law.nd rfl (.inl rfl) li ⟨?_, rfl⟩)
    by_cases h : (isTree (treeD (readP v).1 (readP v).2) && decide (textL (readP v).1 (readP v).2 = v)) = true
    · rw [if_pos h] at hC
      cases hC
    · refine seg9B T TE TM c Pt a TB hcode ne A outer s H E b hK hr R hR n rs u hu hc h58 v (fun e => ?_) x0 x4 x5 x6 x7 x11 x12 .no x14
      rw [e] at h
      exact h hou
end
end KC
end
section
set_option Elab.async false
set_option linter.all false
set_option maxRecDepth 100000
set_option maxHeartbeats 4000000
set_option exponentiation.threshold 300000
namespace KC
open PySem PySem.Spec PyProof.Rows L2 DX
set_option autoImplicit false
open LamX
open SX (S)
def r_law (ds : List PyData) (d : PyData) : Prop := ∃ sc : List Int, ds = [.list (sc.map .int)] ∧ d = .bool true
theorem textL_few {n : Nat} {rs : List Rd} (h : TrB n rs) (h4 : rs.length ≤ 4) : (textL n rs).length ≤ 300 := by
  have h1 := flat_len (k := 60) (rs.map partL) fun x hx => by
    obtain ⟨p, hp, rfl⟩ := List.mem_map.mp hx
    exact partL_len h hp
  have h2 : (nl (n : Int)).length ≤ 4 := nl_len (by have := h.many; omega)
  rw [List.length_map] at h1
  unfold textL headL
  simp only [List.length_append, List.length_cons, List.length_nil]
  omega
section
variable {P : Program} {w : World} {K : PySem.W.Frag} {mg : Str → Option Value} {base : Heap}
theorem seg5 (T : Tx K mg) (TE : TxE T) (TM : TxM T) (c Pt a : Addr) (TB : TabB base mg c Pt) (hcode : T.d_law.fd.code = .ref c) (ne : Pt ≠ a) (A : Around) (outer : List Env) (s : Shared) (H : Hp) (E : XK) (b : Bs) (hK : b.K = K)
    (hr : Room 12 (XL P w K mg base T A outer s H E).A) (R : Row) (hR : R.Ok) (n : Nat) (rs : List Rd) (u : List Nat) (hu : u.length ≤ 300) (hu0 : u ≠ []) (hc : u.count 59 ≤ 10) (h58 : u.count 58 = 1) (hou : okRead u = true) (x0 x4 x5 x6 x7 x8 x9 x10 x11 x12 x14 : DV) :
    SX (XL P w K mg base T A outer s H E) b ((defBody s_law).drop 5) (gL Pt a R [x0, .m a, .d (treeD n rs), .d (.str (S u)), x4, x5, x6, x7, x8, x9, x10, x11, x12, .no, x14]) (lawDE Pt) := by
  have hul : 0 < (u.length : Int) := by
    have := List.length_pos_iff.mpr hu0
    omega
  obtain ⟨i, R1, v1, q1, i0, i1, o1⟩ := step_some hR hul
  obtain ⟨sg, R2, v2, q2, m2, o2⟩ := pick_some o1 (xs := signs) (by unfold signs; simp)
  obtain ⟨sl, rfl, hsl⟩ := sign_S m2
  obtain ⟨k, R3, v3, q3, k0, k1, o3⟩ := step_some o2 (m := 2) (by decide)
  have hlen := rc_lenS (b := b) (S := gL Pt a R [x0, .m a, .d (treeD n rs), .d (.str (S u)), x4, x5, x6, x7, x8, x9, x10, x11, x12, .no, x14]) (a := S u) (by rw [SX.S_len]; omega)
  rw [SX.S_len] at hlen
  refine sx_cons (sy_par (i := 6) (j := 7) (u := .d (.int i)) (w := .d (.str (S sl))) (S1 := gL Pt a R2 [x0, .m a, .d (treeD n rs), .d (.str (S u)), x4, x5, x6, x7, x8, x9, x10, x11, x12, .no, x14]) rfl sc_law.nd rfl rfl (by decide) rfl rfl (ea_cons (ev_taken4 T hK.symm (hr.mono (by decide)) ne hR hul (by unfold Sz; omega) v1 q1 (vn 1) (ev_callB call_len_str rfl T.n_len PySem.boot_len (ea_cons (vn 3) ea_nil) hlen)) (ea_cons (ev_pick4 T hK.symm (hr.mono (by decide)) ne o1 (xs := signs) (by unfold signs; simp) (by unfold signs; simp) v2 q2 (vn 1) (Lit.ev ?_)) ea_nil)) li li ?_)
  · exact .lst _ (.cons (.str _ _ _) (.cons (.str _ _ _) (.cons (.str _ _ _) (.cons (.str _ _ _) (.cons (.str _ _ _) (.cons (.str _ _ _) (.cons (.str _ _ _) (.cons (.str _ _ _) (.cons (.str _ _ _) (.cons (.str _ _ _) (.cons (.str _ _ _) .nil))))))))))) lq
  · show SX _ _ _ (gL Pt a R2 [x0, .m a, .d (treeD n rs), .d (.str (S u)), x4, x5, .d (.int i), .d (.str (S sl)), x8, x9, x10, x11, x12, .no, x14]) _
    have c1 := cut_len u none (some i)
    have c2 := cut_len u (some (i + k)) none
    refine sx_cons (sy_asg (i := 8) (x := .d (.str (S ((cutS (S u) none (some i)).cps.toList ++ sl ++ (cutS (S u) (some (i + k)) none).cps.toList)))) (S1 := gL Pt a R3 [x0, .m a, .d (treeD n rs), .d (.str (S u)), x4, x5, .d (.int i), .d (.str (S sl)), x8, x9, x10, x11, x12, .no, x14]) (ev_addL (ev_addL (ev_cutToL (vn 3) (vn 6) (by omega)) (vn 7) (by omega)) (ev_cutFromL (vn 3) (ev_add (vn 6) (ev_taken4 T hK.symm (hr.mono (by decide)) ne o2 (m := 2) (by decide) (by unfold Sz; decide) v3 q3 (vn 1) ev_int)) (by omega)) (by rw [List.length_append]; omega)) sc_law.nd rfl (.inl rfl) li ?_)
    generalize hv : (cutS (S u) none (some i)).cps.toList ++ sl ++ (cutS (S u) (some (i + k)) none).cps.toList = v
    have hvl : v.length ≤ 602 := by
      rw [← hv, List.length_append, List.length_append]
      omega
    have hvc : v.count 59 ≤ v.length := List.count_le_length
    exact seg7 T TE TM c Pt a TB hcode ne A outer s H E b hK hr R3 o3 n rs u (by omega) hc h58 hou v (by omega) (by omega) x0 x4 x5 (.d (.int i)) (.d (.str (S sl))) x9 x10 x11 x12 x14
theorem seg4 (T : Tx K mg) (TE : TxE T) (TM : TxM T) (c Pt a : Addr) (TB : TabB base mg c Pt) (hcode : T.d_law.fd.code = .ref c) (ne : Pt ≠ a) (A : Around) (outer : List Env) (s : Shared) (H : Hp) (E : XK) (b : Bs) (hK : b.K = K)
    (hr : Room 12 (XL P w K mg base T A outer s H E).A) (R : Row) (hR : R.Ok) (n : Nat) (rs : List Rd) (ht : TrN n rs) (x0 x4 x5 x6 x7 x8 x9 x10 x11 x12 x14 : DV) :
    SX (XL P w K mg base T A outer s H E) b ((defBody s_law).drop 4) (gL Pt a R [x0, .m a, .d (treeD n rs), .d (.str (S (textL n rs))), x4, x5, x6, x7, x8, x9, x10, x11, x12, .no, x14]) (lawDE Pt) := by
  have hT := isTree_treeD ht
  have hf := ht.few
  have hB := isTree_bound hT (by omega)
  have hl := textL_few hB hf
  have hok := okRead_text ht
  have h59 := text_count59 n rs
  have h58 := text_count58 n rs
  have hrp := readP_text ht
  refine sx_cons (sy_if (S1 := gL Pt a R [x0, .m a, .d (treeD n rs), .d (.str (S (textL n rs))), x4, x5, x6, x7, x8, x9, x10, x11, x12, .no, x14]) (t := !true || !true) (et_w (ew_or (et_not (et_val (ev_call (ok_law_alike T 0) hK.symm (hr.mono (by decide)) rfl T.d_law_alike.m T.d_law_alike.F.kp T.d_law_alike.b pass0 (ds := [.str (S (textL n rs)), .str (S (textL n rs))]) (ea_cons (ev_callX (EE := fun _ _ _ => False) (ok_write T TE) hK.symm (hr.mono (by decide)) rfl T.d_write.m T.d_write.F.kp T.d_write.b passF (ds := [treeD n rs]) (ea_cons (vn 2) ea_nil) ⟨_, rfl, few_treeD (by omega), .inr ⟨n, rs, hB, rfl, hT, rfl⟩⟩) (ea_cons (vn 3) ea_nil)) ⟨_, rfl, .str _ _, rfl⟩))) fun _ => et_or1 (et_not (et_val (ev_call (ok_law_alike T 4) hK.symm (hr.mono (by decide)) rfl T.d_law_alike.m T.d_law_alike.F.kp T.d_law_alike.b pass0 (ds := [treeD n rs, treeD n rs]) (ea_cons (ev_callX (EE := fun _ _ _ => False) (ok_read T TE) hK.symm (hr.mono (by decide)) rfl T.d_read.m T.d_read.F.kp T.d_read.b passF (ds := [.str (S (textL n rs))]) (ea_cons (vn 3) ea_nil) ⟨_, rfl, .inr ⟨_, rfl, by omega, spl_few (by omega), ?_⟩⟩) (ea_cons (vn 2) ea_nil)) ⟨_, rfl, alk_treeD hB, rfl⟩))))) (fun h => by cases h) fun _ => sx_nil ?_)
  · have : (isTree (treeD (readP (textL n rs)).1 (readP (textL n rs)).2) && decide (textL (readP (textL n rs)).1 (readP (textL n rs)).2 = textL n rs)) = true := hok
    rw [this, hrp]
    rfl
  · exact seg5 T TE TM c Pt a TB hcode ne A outer s H E b hK hr R hR n rs (textL n rs) hl (fun e => by rw [e] at h58; cases h58) (by omega) h58 hok x0 x4 x5 x6 x7 x8 x9 x10 x11 x12 x14
theorem seg3 (T : Tx K mg) (TE : TxE T) (TM : TxM T) (c Pt a : Addr) (TB : TabB base mg c Pt) (hcode : T.d_law.fd.code = .ref c) (ne : Pt ≠ a) (A : Around) (outer : List Env) (s : Shared) (H : Hp) (E : XK) (b : Bs) (hK : b.K = K)
    (hr : Room 12 (XL P w K mg base T A outer s H E).A) (R : Row) (hR : R.Ok) (n : Nat) (rs : List Rd) (ht : TrN n rs) (x0 : DV) :
    SX (XL P w K mg base T A outer s H E) b ((defBody s_law).drop 3) (gL Pt a R [x0, .m a, .d (treeD n rs), .d (.str (S (headL n))), .no, .no, .no, .no, .no, .no, .no, .no, .no, .no, .no]) (lawDE Pt) := by
  have hT := isTree_treeD ht
  have hf := ht.few
  have hB := isTree_bound hT (by omega)
  have hhl : (headL n).length ≤ 5 := by
    have h2 : (nl (n : Int)).length ≤ 4 := nl_len (by have := hB.many; omega)
    unfold headL
    simp only [List.length_append, List.length_cons, List.length_nil]
    omega
  refine sx_cons (sy_forG (g := gTup K 2 (gList [gName 4, gName 5])) (ds := rs.map roadD) (S1 := gL Pt a R [x0, .m a, .d (treeD n rs), .d (.str (S (headL n))), .no, .no, .no, .no, .no, .no, .no, .no, .no, .no, .no]) PassesOwn.never rfl (ei_tup hK.symm (ev_ixT (ds := [.int (n : Int), .tuple (rs.map roadD)]) hK.symm (vn 2) ev_int rfl)) (pg_tup rfl (pgs_cons (pg_name (i := 4) sc_law.nd rfl (.inl rfl)) (pgs_cons (pg_name (i := 5) sc_law.nd rfl (.inl rfl)) pgs_nil)))
    (fun i S' => ∃ v4 v5, S' = gL Pt a R [x0, .m a, .d (treeD n rs), .d (.str (S (headL n ++ ((rs.take i).map partL).flatten))), v4, v5, .no, .no, .no, .no, .no, .no, .no, .no, .no]) ⟨.no, .no, by simp⟩ (fun i d S' hd hW => ?_) fun S' hW => ?_)
  · obtain ⟨v4, v5, rfl⟩ := hW
    rw [List.getElem?_map] at hd
    obtain ⟨p, hp, rfl⟩ := Option.map_eq_some_iff.mp hd
    have hpm := List.mem_of_getElem? hp
    have hacc : (headL n ++ ((rs.take i).map partL).flatten).length ≤ 300 := by
      have := flat_len (k := 60) ((rs.take i).map partL) fun x hx => by
        obtain ⟨p, hp, rfl⟩ := List.mem_map.mp hx
        exact partL_len hB (List.mem_of_mem_take hp)
      rw [List.length_map, List.length_take] at this
      rw [List.length_append]
      omega
    have hsucc : headL n ++ ((rs.take (i + 1)).map partL).flatten = headL n ++ ((rs.take i).map partL).flatten ++ partL p := by
      rw [map_take_succ' hp]
      simp
    rw [hsucc]
    generalize headL n ++ ((rs.take i).map partL).flatten = acc at hacc
    have hpl := partL_len hB hpm
    obtain ⟨l, t, lw⟩ := p
    have hl := hB.lot _ hpm
    have htt := hB.len _ hpm
    have hlo := ht.len _ hpm
    have ell := lotL_len hl.1 fun i hi => (hl.2 i hi).2
    have etl := nl_len htt.2.1
    simp only at ell etl
    refine ⟨gL Pt a R [x0, .m a, .d (treeD n rs), .d (.str (S acc)), .d (intsD l), .d (frD (t, lw)), .no, .no, .no, .no, .no, .no, .no, .no, .no], tg_tup (ds := [intsD l, frD (t, lw)]) hK.symm rfl (.cons (S := gL Pt a R [x0, .m a, .d (treeD n rs), .d (.str (S acc)), v4, v5, .no, .no, .no, .no, .no, .no, .no, .no, .no]) (tg_name (i := 4) li) rfl (.cons (tg_name (i := 5) li) rfl .nil)), rfl, ?_⟩
    have hjs : ((l.map nl).map (·.length)).sum ≤ 6 * 4 := by
      rw [sum_flat]
      have := flat_len (k := 4) (l.map nl) fun x hx => by
        obtain ⟨i, hi, rfl⟩ := List.mem_map.mp hx
        exact nl_len (by have := hl.2 i hi; omega)
      rw [List.length_map] at this
      have h6 := hl.1
      simp only at h6
      omega
    refine sx_cons (sy_asg (i := 3) (x := .d (.str (S (acc ++ [32] ++ lotL l ++ [32, 61, 32] ++ nl t)))) (S1 := gL Pt a R [x0, .m a, .d (treeD n rs), .d (.str (S acc)), .d (intsD l), .d (frD (t, lw)), .no, .no, .no, .no, .no, .no, .no, .no, .no]) (ev_addL (ev_addL (ev_addL (ev_addL (vn 3) (ev_lit [32]) (by simp only [List.length_cons, List.length_nil]; omega)) (ev_joinL (a := [32]) (ss := l.map nl) (S2 := gL Pt a R [x0, .m a, .d (treeD n rs), .d (.str (S acc)), .d (intsD l), .d (frD (t, lw)), .no, .no, .no, .no, .no, .no, .no, .no, .no]) hK.symm (ev_lit [32]) ?_ ?_) ?_) (ev_lit [32, 61, 32]) ?_) (ev_strL rfl T.n_str (ev_ixT (ds := [.int t, .int lw]) hK.symm (vn 5) ev_int rfl) htt.1 htt.2.1) ?_) sc_law.nd rfl (.inl rfl) li ?_)
    · refine ev_lcG0 (S1 := gL Pt a R [x0, .m a, .d (treeD n rs), .d (.str (S acc)), .d (intsD l), .d (frD (t, lw)), .no, .no, .no, .no, .no, .no, .no, .no, .no]) (g := gName 14) [("tip", 14)] (ds := l.map .int) (fun d => [x0, .m a, .d (treeD n rs), .d (.str (S acc)), .d (intsD l), .d (frD (t, lw)), .no, .no, .no, .no, .no, .no, .no, .no, .d d]) (fun d => .str (S (nl (i0 d)))) ?_ ?_ ?_ ?_ ?_ ?_ ?_ ?_ ?_
      · rfl
      · exact sc_law.nd
      · exact ei_tup hK.symm (vn 4)
      · rw [List.length_map]; have := hl.1; simp only at this; omega
      · exact blkOk_by (N := N_law) (sc := defScope s_law) (by decide +kernel)
      · exact fun _ _ _ _ _ => pg_name (i := 14) sc_law.nd rfl (.inl rfl)
      · exact fun i d hd => tgb_name (vs := [14]) (j := 14) (g0 := [x0, .m a, .d (treeD n rs), .d (.str (S acc)), .d (intsD l), .d (frD (t, lw)), .no, .no, .no, .no, .no, .no, .no, .no, .no]) (List.mem_singleton.mpr rfl) li
      · intro i d hd Dl acc s H C cl fp
        obtain ⟨j, hj, rfl⟩ := List.mem_map.mp (List.mem_of_getElem? hd)
        have hj6 := hl.2 j hj
        exact ev_strL rfl T.n_str (vn 14) hj6.1 (by show j ≤ 1000; omega)
      · rw [List.map_map, List.map_map]; rfl
    · rw [List.length_map]
      have h6 := hl.1
      simp only [List.length_cons, List.length_nil] at h6 ⊢
      omega
    · show (acc ++ [32]).length + (lotL l).length ≤ _
      simp only [List.length_append, List.length_cons, List.length_nil]; omega
    · show (acc ++ [32] ++ lotL l).length + 3 ≤ _
      simp only [List.length_append, List.length_cons, List.length_nil]; omega
    · simp only [List.length_append, List.length_cons, List.length_nil]; omega
    · show SX _ _ _ (gL Pt a R [x0, .m a, .d (treeD n rs), .d (.str (S (acc ++ [32] ++ lotL l ++ [32, 61, 32] ++ nl t))), .d (intsD l), .d (frD (t, lw)), .no, .no, .no, .no, .no, .no, .no, .no, .no]) _
      have el : lw = 1 ∨ lw = 2 := by
        have h1 := hlo.l0
        have h2 := hlo.l2
        simp only at h1 h2
        omega
      have key : acc ++ [32] ++ lotL l ++ [32, 61, 32] ++ nl t ++ (if lw = 2 then [47, 50, 59] else [59]) = acc ++ partL (l, t, lw) := by
        unfold partL
        rcases el with rfl | rfl
        · rw [show lenL (t, 1) = nl t from if_pos rfl]
          simp
        · rw [show lenL (t, 2) = nl t ++ [47] ++ nl 2 from if_neg (show ¬ ((2 : Int) = 1) by decide), show nl 2 = [50] by decide +kernel]
          simp
      refine sx_one (sy_asg (i := 3) (x := .d (.str (S (acc ++ partL (l, t, lw))))) (S1 := gL Pt a R [x0, .m a, .d (treeD n rs), .d (.str (S (acc ++ [32] ++ lotL l ++ [32, 61, 32] ++ nl t))), .d (intsD l), .d (frD (t, lw)), .no, .no, .no, .no, .no, .no, .no, .no, .no]) (ev_cast (ev_addL (t := if lw = 2 then [47, 50, 59] else [59]) (vn 3) (ev_ifS (t := decide (lw = 2)) (et_eqI (ev_ixT (ds := [.int t, .int lw]) hK.symm (vn 5) ev_int rfl) ev_int) (fun h => ?_) fun h => ?_) ?_) (by rw [key])) sc_law.nd rfl (.inl rfl) li ?_)
      · rw [if_pos (of_decide_eq_true h)]
        exact ev_lit _
      · rw [if_neg (of_decide_eq_false h)]
        exact ev_lit _
      · have := congrArg List.length key
        simp only [List.length_append, List.length_cons, List.length_nil] at this ⊢
        omega
      · exact ⟨.d (intsD l), .d (frD (t, lw)), rfl⟩
  · obtain ⟨v4, v5, rfl⟩ := hW
    rw [List.length_map, List.take_length]
    exact seg4 T TE TM c Pt a TB hcode ne A outer s H E b hK hr R hR n rs ht x0 v4 v5 .no .no .no .no .no .no .no .no
theorem ok_law (T : Tx K mg) (TE : TxE T) (TM : TxM T) (c Pt : Addr) (TB : TabB base mg c Pt) (hcode : T.d_law.fd.code = .ref c) :
    FnOk P w K mg base CX0 13 T.d_law.fa T.d_law.fd P_law (FT K Pt lawQ r_law) := by
  refine ft_ok T.d_law.F sc_law (fun ds d h => ?_) fun A outer s H E b hK hr ds d h => ?_
  · obtain ⟨sc, rfl, _⟩ := h
    rfl
  · obtain ⟨sc, rfl, rfl⟩ := h
    refine sx_cons (sy_newL (i := 1) (ds := [.list (sc.map .int), .int 0, .int 6012, .int 0]) (S1 := ⟨gStart N_law [.d (.list (sc.map .int))], [(Pt, .tab lawQ)]⟩) (ea_cons (vn 0) (ea_cons ev_int (ea_cons ev_int (ea_cons ev_int ea_nil)))) lq sc_law.nd rfl (.inr rfl) li fun a => ?_)
    by_cases ne : Pt = a
    · refine sx_vac ?_
      subst ne
      intro h
      have h2 : [Pt, Pt].Nodup := h
      simp at h2
    · have hR : (⟨sc, 0, 6012, 0⟩ : Row).Ok := ⟨show (0 : Int) ≤ 6012 by decide, show (6012 : Int) < 2147483647 by decide, show (0 : Int) ≤ 0 by decide⟩
      show SX (XL P w K mg base T A outer s H E) b ((defBody s_law).drop 1) (gL Pt a ⟨sc, 0, 6012, 0⟩ [.d (.list (sc.map .int)), .m a, .no, .no, .no, .no, .no, .no, .no, .no, .no, .no, .no, .no, .no]) (lawDE Pt)
      generalize (⟨sc, 0, 6012, 0⟩ : Row) = R at hR
      obtain ⟨k, R1, v1, q1, k0, k4, o1⟩ := step_some hR (m := 4) (by decide)
      have hm : Many (3 + k.toNat) := by
        unfold Many
        omega
      obtain ⟨o2, ht⟩ := treeRow_ok hm o1
      have ek : ((3 + k.toNat : Nat) : Int) = 3 + k := by omega
      refine sx_cons (sy_asg (i := 2) (x := .d (treeD (3 + k.toNat) (treeRow (3 + k.toNat) R1).1)) (S1 := gL Pt a (treeRow (3 + k.toNat) R1).2 [.d (.list (sc.map .int)), .m a, .no, .no, .no, .no, .no, .no, .no, .no, .no, .no, .no, .no, .no]) ?_ sc_law.nd rfl (.inr rfl) li ?_)
      · refine ev_eqS (ev_callM (ok_law_tree T) hK.symm (hr.mono (by decide)) rfl T.d_law_tree.m T.d_law_tree.F.kp T.d_law_tree.b pass0 (ds := [.int ((3 + k.toNat : Nat) : Int), .tuple []]) (ms := R1.ms) (ea_cons (vn 1) (ea_cons (x := .d (.int ((3 + k.toNat : Nat) : Int))) (ev_cast (ev_add ev_int (ev_taken4 T hK.symm (hr.mono (by decide)) ne hR (m := 4) (by decide) (by unfold Sz; decide) v1 q1 (vn 1) ev_int)) (by rw [ek])) (ea_cons (ev_tup (ds := []) ea_nil lq) ea_nil))) (List.mem_cons_of_mem _ (List.mem_singleton.mpr rfl)) ⟨_, R1, hm, o1, rfl, rfl, rfl, rfl⟩) (setm2 ne)
      · show SX (XL P w K mg base T A outer s H E) b ((defBody s_law).drop 2) (gL Pt a (treeRow (3 + k.toNat) R1).2 [.d (.list (sc.map .int)), .m a, .d (treeD (3 + k.toNat) (treeRow (3 + k.toNat) R1).1), .no, .no, .no, .no, .no, .no, .no, .no, .no, .no, .no, .no]) (lawDE Pt)
        generalize (treeRow (3 + k.toNat) R1).2 = R2 at o2
        generalize (treeRow (3 + k.toNat) R1).1 = rs at ht
        generalize hn : 3 + k.toNat = n at ht hm
        have hn6 : n ≤ 6 := by omega
        refine sx_cons (sy_asg (i := 3) (x := .d (.str (S (headL n)))) (S1 := gL Pt a R2 [.d (.list (sc.map .int)), .m a, .d (treeD n rs), .no, .no, .no, .no, .no, .no, .no, .no, .no, .no, .no, .no]) (ev_addL (a := nl (n : Int)) (t := [58]) (ev_strL rfl T.n_str (ev_ixT (ds := [.int (n : Int), .tuple (rs.map roadD)]) hK.symm (vn 2) ev_int rfl) (by omega) (by omega)) (ev_lit [58]) (by have := nl_len (i := (n : Int)) (by omega); show (nl (n : Int)).length + 1 ≤ _; omega)) sc_law.nd rfl (.inl rfl) li ?_)
        exact seg3 T TE TM c Pt a TB hcode ne A outer s H E b hK hr R2 o2 n rs ht (.d (.list (sc.map .int)))
end
end KC
end
section
set_option Elab.async false
set_option linter.all false
set_option maxRecDepth 100000
set_option maxHeartbeats 0
namespace KC
open PySem PySem.Spec PyProof.Rows L2 DX LamX
set_option autoImplicit false
/-! the head: facts by names -/
def dOf (x : Str) (st : Stmt) : He.FnD := ⟨(x, none), x, x, defArgs st, defBody st, defScope st⟩
def fnA : List He.FnD := [dOf "is_whole" s_is_whole, dOf "is_pair" s_is_pair, dOf "is_fraction" s_is_fraction, dOf "rises" s_rises, dOf "is_many" s_is_many, dOf "is_lot" s_is_lot, dOf "lots_fit" s_lots_fit, dOf "is_shape" s_is_shape, dOf "is_length" s_is_length, dOf "is_roads" s_is_roads, dOf "is_tree" s_is_tree, dOf "check_tree" s_check_tree, dOf "text_of" s_text_of, dOf "number_of" s_number_of]
def fnB : List He.FnD := [dOf "road_of" s_road_of, dOf "write" s_write, dOf "read" s_read, dOf "_law_taken" s_law_taken, dOf "_law_pick" s_law_pick, dOf "_law_alike" s_law_alike, dOf "_law_fr" s_law_fr, dOf "_law_fit" s_law_fit, dOf "_law_all_fit" s_law_all_fit, dOf "_law_lots" s_law_lots, dOf "_law_length" s_law_length, dOf "_law_shape" s_law_shape, dOf "_law_tree" s_law_tree, dOf "_law_told" s_law_told, dOf "law" s_law]
def fnL : List He.FnD := fnA ++ fnB
def defNames : List Str := fnL.map (·.name)
def faO : List He.Fa := [.glo "TreeError", .glo "BadTree", .glo "BadText", .exc "BadTree", .exc "BadText", .exm "BadText" "BadText" true, .exm "BadTree" "BadText" false, .exm "BadTree" "BadTree" true, .int "FEWEST_TIPS" (3), .int "MOST_TIPS" (6), .int "LONGEST" (500), .int "MOST_DIGITS" (3), .str "DIGITS" ("0123456789")]
def faF : List He.Fa := [.free "ValueError", .free "all", .free "bool", .free "int", .free "isinstance", .free "len", .free "list", .free "max", .free "range", .free "sorted", .free "str", .free "tuple", .free "zip"]
def faL : List He.Fa := defNames.map He.Fa.glo ++ defNames.map He.Fa.keep ++ (faO ++ faF)
def isTab (o : Obj) : Bool := match o.cls, o.data with
  | .none, .fields vs => vs.isEmpty
  | _, _ => false
def sysOk (K : PySem.W.Frag) : Bool := (K.lookup cStatics).isSome && ((K.lookup sysModules).isSome && ((K.lookup builtinsNs).isSome && (K.all (fun p => !isTab p.2) && (He.eqO (PySem.W.nsIn K mainGlobals "gcd") (some (some (.builtin "math.gcd")))))))
abbrev AlS : Type := Bool × He.Al
def obsK (K : PySem.W.Frag) : AlS := (sysOk K, He.obsE faL fnL K)
def obsS (g : Addr → Option Obj) : AlS := obsK (He.frG g (cStatics :: sysModules :: builtinsNs :: He.asG g 2))
def hkS : PySem.W.Hook where
  α := AlS
  obs := fun s => obsS s.heap.get?
  val := fun _ => (true, He.valE fnL)
  says := fun _ h => ∃ K : PySem.W.Frag, K.In h ∧ sysOk K = true ∧ He.SaysE faL fnL K
  of := fun _ _ e => ⟨_, He.frG_in, congrArg (fun z : AlS => z.1) e, congrArg (fun z : AlS => z.2) e⟩
  keeps := fun _ _ _ ⟨K, hK, c⟩ k => ⟨K, PySem.W.Frag.In.keeps hK k, c⟩
abbrev RR : PySem.W.OpenRow := PySem.W.OpenLaw.row PySem.Challenge.rw_treespace_k12_whole_texts
def obT (s : PySem.W.SharedT) : hkS.α := obsS (HandSHeadRun.getT s)
theorem obT_eq (s : PySem.W.SharedT) : obT s = hkS.obs s.abs := by
  show obsS (HandSHeadRun.getT s) = obsS s.abs.heap.get?
  rw [show HandSHeadRun.getT s = s.abs.heap.get? from funext (HandSHeadRun.getT_eq s)]
def looseA : List Str := ["__name__", "TreeError", "BadTree", "BadText", "is_whole", "is_pair", "is_fraction", "rises", "FEWEST_TIPS", "MOST_TIPS", "LONGEST", "is_many", "is_lot", "lots_fit", "is_shape", "is_length", "is_roads", "is_tree", "check_tree", "DIGITS", "MOST_DIGITS", "text_of", "number_of", "road_of", "write"]
def looseB : List Str := ["read", "_law_taken", "_law_pick", "_law_alike", "_law_fr", "_law_fit", "_law_all_fit", "_law_lots", "_law_length", "_law_shape", "_law_tree", "_law_told"]
theorem runK (w : World) : HandSHeadRun.RunEqI RR (PySem.W.view RR.prog [0, 43]) hkS obT 6000 (looseA ++ looseB) w := by
  unfold HandSHeadRun.RunEqI
  kernel_rfl
end KC
end
section
set_option Elab.async false
set_option linter.all false
set_option maxRecDepth 100000
set_option maxHeartbeats 4000000
namespace KC
open PySem PySem.Spec PyProof.Rows L2 DX LamX
set_option autoImplicit false
section
variable {K : PySem.W.Frag} {h : Heap} {mg : Str → Option Value}
def BindOk (x : Str) (st : Stmt) (ps : List Str) : Prop := ∀ (kV doc pm : Value) (an : Option Addr) (cdv ct : Value) (us : List Value), us.length = ps.length → bindArgs (PySem.W.fnOf x x (defArgs st) (defBody st) (defScope st) .none kV doc pm an cdv ct) ⟨us, []⟩ = pure (ps.zip us)
theorem mkDef (X : K.In h) (G : h.Ns mainGlobals mg) (c : He.SaysE faL fnL K) (i : Nat) {x : Str} {st : Stmt} {ps : List Str} (hb : BindOk x st ps) (hi : fnL[i]? = some (dOf x st) := by rfl) (hg : faL[i]? = some (.glo x) := by rfl) (hk : faL[29 + i]? = some (.keep x) := by rfl) : Nonempty (Def1 K mg x st ps) := by
  obtain ⟨oc, od, osl, kV, doc, pm, an, cdv, ct, l, hc⟩ := c.def_ i hi
  have kp := He.keep_ok (c.fact (29 + i) hk)
  have hm := He.glo_ok X G (c.fact i hg)
  have F : Fun K x x st (He.ga K x) _ := fun_mk l hc kp
  exact ⟨⟨He.ga K x, _, F, hm, F.binds hb⟩⟩
theorem law_binds {K : PySem.W.Frag} {x : Str} {st : Stmt} {ps : List Str} {f : Addr} {fd : FuncData} (F : Fun K x x st f fd) (hb : BindOk x st ps) (s : Shared) (us : List Value) (hl : us.length = ps.length) : BindsTo s fd ⟨us, []⟩ (ps.zip us) := by
  obtain ⟨oc, od, kV, doc, pm, an, cdv, ct, osl, rfl, lk, hcd⟩ := F.ex
  exact .of_eq (hb kV doc pm an cdv ct us hl)
theorem excK {x : Str} (c : (He.Fa.exc x).ok K = true) : ExcK K (He.ga K x) := by
  obtain ⟨a, b, d, e⟩ := He.exc_ok c
  exact ⟨a, b, d, e⟩
theorem b_is_whole : BindOk "is_whole" s_is_whole P_is_whole := fun _ _ _ _ _ _ us hl => match us, hl with
  | [_], _ => rfl
theorem b_is_pair : BindOk "is_pair" s_is_pair P_is_pair := fun _ _ _ _ _ _ us hl => match us, hl with
  | [_], _ => rfl
theorem b_is_fraction : BindOk "is_fraction" s_is_fraction P_is_fraction := fun _ _ _ _ _ _ us hl => match us, hl with
  | [_], _ => rfl
theorem b_rises : BindOk "rises" s_rises P_rises := fun _ _ _ _ _ _ us hl => match us, hl with
  | [_], _ => rfl
theorem b_is_many : BindOk "is_many" s_is_many P_is_many := fun _ _ _ _ _ _ us hl => match us, hl with
  | [_], _ => rfl
theorem b_is_lot : BindOk "is_lot" s_is_lot P_is_lot := fun _ _ _ _ _ _ us hl => match us, hl with
  | [_, _], _ => rfl
theorem b_lots_fit : BindOk "lots_fit" s_lots_fit P_lots_fit := fun _ _ _ _ _ _ us hl => match us, hl with
  | [_, _], _ => rfl
theorem b_is_shape : BindOk "is_shape" s_is_shape P_is_shape := fun _ _ _ _ _ _ us hl => match us, hl with
  | [_, _], _ => rfl
theorem b_is_length : BindOk "is_length" s_is_length P_is_length := fun _ _ _ _ _ _ us hl => match us, hl with
  | [_], _ => rfl
theorem b_is_roads : BindOk "is_roads" s_is_roads P_is_roads := fun _ _ _ _ _ _ us hl => match us, hl with
  | [_, _], _ => rfl
theorem b_is_tree : BindOk "is_tree" s_is_tree P_is_tree := fun _ _ _ _ _ _ us hl => match us, hl with
  | [_], _ => rfl
theorem b_check_tree : BindOk "check_tree" s_check_tree P_check_tree := fun _ _ _ _ _ _ us hl => match us, hl with
  | [_], _ => rfl
theorem b_text_of : BindOk "text_of" s_text_of P_text_of := fun _ _ _ _ _ _ us hl => match us, hl with
  | [_], _ => rfl
theorem b_number_of : BindOk "number_of" s_number_of P_number_of := fun _ _ _ _ _ _ us hl => match us, hl with
  | [_], _ => rfl
theorem b_road_of : BindOk "road_of" s_road_of P_road_of := fun _ _ _ _ _ _ us hl => match us, hl with
  | [_], _ => rfl
theorem b_write : BindOk "write" s_write P_write := fun _ _ _ _ _ _ us hl => match us, hl with
  | [_], _ => rfl
theorem b_read : BindOk "read" s_read P_read := fun _ _ _ _ _ _ us hl => match us, hl with
  | [_], _ => rfl
theorem b_law_taken : BindOk "_law_taken" s_law_taken P_law_taken := fun _ _ _ _ _ _ us hl => match us, hl with
  | [_, _], _ => rfl
theorem b_law_pick : BindOk "_law_pick" s_law_pick P_law_pick := fun _ _ _ _ _ _ us hl => match us, hl with
  | [_, _], _ => rfl
theorem b_law_alike : BindOk "_law_alike" s_law_alike P_law_alike := fun _ _ _ _ _ _ us hl => match us, hl with
  | [_, _], _ => rfl
theorem b_law_fr : BindOk "_law_fr" s_law_fr P_law_fr := fun _ _ _ _ _ _ us hl => match us, hl with
  | [_, _], _ => rfl
theorem b_law_fit : BindOk "_law_fit" s_law_fit P_law_fit := fun _ _ _ _ _ _ us hl => match us, hl with
  | [_, _], _ => rfl
theorem b_law_all_fit : BindOk "_law_all_fit" s_law_all_fit P_law_all_fit := fun _ _ _ _ _ _ us hl => match us, hl with
  | [_, _], _ => rfl
theorem b_law_lots : BindOk "_law_lots" s_law_lots P_law_lots := fun _ _ _ _ _ _ us hl => match us, hl with
  | [_], _ => rfl
theorem b_law_length : BindOk "_law_length" s_law_length P_law_length := fun _ _ _ _ _ _ us hl => match us, hl with
  | [_], _ => rfl
theorem b_law_shape : BindOk "_law_shape" s_law_shape P_law_shape := fun _ _ _ _ _ _ us hl => match us, hl with
  | [_, _, _, _], _ => rfl
theorem b_law_tree : BindOk "_law_tree" s_law_tree P_law_tree := fun _ _ _ _ _ _ us hl => match us, hl with
  | [_, _, _], _ => rfl
theorem b_law_told : BindOk "_law_told" s_law_told P_law_told := fun _ _ _ _ _ _ us hl => match us, hl with
  | [_], _ => rfl
theorem b_law : BindOk "law" s_law P_law := fun _ _ _ _ _ _ us hl => match us, hl with
  | [_], _ => rfl
theorem mkTx (X : K.In h) (G : h.Ns mainGlobals mg) (c : He.SaysE faL fnL K) (y : sysOk K = true) : ∃ T : Tx K mg, TxE T ∧ TxM T := by
  have y1 := (He.ba (He.ba (He.ba (He.ba y).2).2).2).2
  obtain ⟨d_is_whole⟩ := mkDef X G c 0 b_is_whole
  obtain ⟨d_is_pair⟩ := mkDef X G c 1 b_is_pair
  obtain ⟨d_is_fraction⟩ := mkDef X G c 2 b_is_fraction
  obtain ⟨d_rises⟩ := mkDef X G c 3 b_rises
  obtain ⟨d_is_many⟩ := mkDef X G c 4 b_is_many
  obtain ⟨d_is_lot⟩ := mkDef X G c 5 b_is_lot
  obtain ⟨d_lots_fit⟩ := mkDef X G c 6 b_lots_fit
  obtain ⟨d_is_shape⟩ := mkDef X G c 7 b_is_shape
  obtain ⟨d_is_length⟩ := mkDef X G c 8 b_is_length
  obtain ⟨d_is_roads⟩ := mkDef X G c 9 b_is_roads
  obtain ⟨d_is_tree⟩ := mkDef X G c 10 b_is_tree
  obtain ⟨d_check_tree⟩ := mkDef X G c 11 b_check_tree
  obtain ⟨d_text_of⟩ := mkDef X G c 12 b_text_of
  obtain ⟨d_number_of⟩ := mkDef X G c 13 b_number_of
  obtain ⟨d_road_of⟩ := mkDef X G c 14 b_road_of
  obtain ⟨d_write⟩ := mkDef X G c 15 b_write
  obtain ⟨d_read⟩ := mkDef X G c 16 b_read
  obtain ⟨d_law_taken⟩ := mkDef X G c 17 b_law_taken
  obtain ⟨d_law_pick⟩ := mkDef X G c 18 b_law_pick
  obtain ⟨d_law_alike⟩ := mkDef X G c 19 b_law_alike
  obtain ⟨d_law_fr⟩ := mkDef X G c 20 b_law_fr
  obtain ⟨d_law_fit⟩ := mkDef X G c 21 b_law_fit
  obtain ⟨d_law_all_fit⟩ := mkDef X G c 22 b_law_all_fit
  obtain ⟨d_law_lots⟩ := mkDef X G c 23 b_law_lots
  obtain ⟨d_law_length⟩ := mkDef X G c 24 b_law_length
  obtain ⟨d_law_shape⟩ := mkDef X G c 25 b_law_shape
  obtain ⟨d_law_tree⟩ := mkDef X G c 26 b_law_tree
  obtain ⟨d_law_told⟩ := mkDef X G c 27 b_law_told
  obtain ⟨d_law⟩ := mkDef X G c 28 b_law
  refine ⟨{ d_is_whole := d_is_whole, d_is_pair := d_is_pair, d_is_fraction := d_is_fraction, d_rises := d_rises, d_is_many := d_is_many, d_is_lot := d_is_lot, d_lots_fit := d_lots_fit, d_is_shape := d_is_shape, d_is_length := d_is_length, d_is_roads := d_is_roads, d_is_tree := d_is_tree, d_check_tree := d_check_tree, d_text_of := d_text_of, d_number_of := d_number_of, d_road_of := d_road_of, d_write := d_write, d_read := d_read, d_law_taken := d_law_taken, d_law_pick := d_law_pick, d_law_alike := d_law_alike, d_law_fr := d_law_fr, d_law_fit := d_law_fit, d_law_all_fit := d_law_all_fit, d_law_lots := d_law_lots, d_law_length := d_law_length, d_law_shape := d_law_shape, d_law_tree := d_law_tree, d_law_told := d_law_told, d_law := d_law, c_TreeError := He.ga K "TreeError", m_TreeError := He.glo_ok X G (c.fact 58 (f := .glo "TreeError") rfl), c_BadTree := He.ga K "BadTree", m_BadTree := He.glo_ok X G (c.fact 59 (f := .glo "BadTree") rfl), c_BadText := He.ga K "BadText", m_BadText := He.glo_ok X G (c.fact 60 (f := .glo "BadText") rfl), i_gcd := PySem.W.mg_of X G (He.eqO_ok y1), g_FEWEST_TIPS := He.int_ok X G (c.fact 66 (f := .int "FEWEST_TIPS" (3)) rfl), g_MOST_TIPS := He.int_ok X G (c.fact 67 (f := .int "MOST_TIPS" (6)) rfl), g_LONGEST := He.int_ok X G (c.fact 68 (f := .int "LONGEST" (500)) rfl), g_MOST_DIGITS := He.int_ok X G (c.fact 69 (f := .int "MOST_DIGITS" (3)) rfl), g_DIGITS := He.str_ok X G (c.fact 70 (f := .str "DIGITS" ("0123456789")) rfl), n_ValueError := He.free_ok X G (c.fact 71 (f := .free "ValueError") rfl), n_all := He.free_ok X G (c.fact 72 (f := .free "all") rfl), n_bool := He.free_ok X G (c.fact 73 (f := .free "bool") rfl), n_int := He.free_ok X G (c.fact 74 (f := .free "int") rfl), n_isinstance := He.free_ok X G (c.fact 75 (f := .free "isinstance") rfl), n_len := He.free_ok X G (c.fact 76 (f := .free "len") rfl), n_list := He.free_ok X G (c.fact 77 (f := .free "list") rfl), n_max := He.free_ok X G (c.fact 78 (f := .free "max") rfl), n_range := He.free_ok X G (c.fact 79 (f := .free "range") rfl), n_sorted := He.free_ok X G (c.fact 80 (f := .free "sorted") rfl), n_str := He.free_ok X G (c.fact 81 (f := .free "str") rfl), n_tuple := He.free_ok X G (c.fact 82 (f := .free "tuple") rfl), n_zip := He.free_ok X G (c.fact 83 (f := .free "zip") rfl) }, ⟨?_, ?_⟩, ⟨?_, ?_, ?_⟩⟩
  · exact excK (c.fact 61 (f := .exc "BadTree") rfl)
  · exact excK (c.fact 62 (f := .exc "BadText") rfl)
  · exact He.exm_ok (c.fact 63 (f := .exm "BadText" "BadText" true) rfl)
  · exact He.exm_ok (c.fact 64 (f := .exm "BadTree" "BadText" false) rfl)
  · exact He.exm_ok (c.fact 65 (f := .exm "BadTree" "BadTree" true) rfl)
end
end KC
end
section
set_option Elab.async false
set_option linter.all false
set_option maxRecDepth 100000
set_option maxHeartbeats 4000000
namespace KC
open PySem PySem.Spec PyProof.Rows L2 DX LamX
set_option autoImplicit false
theorem ns_to {K : PySem.W.Frag} {h base : Heap} {a : Addr} {m : Str → Option Value} (X : K.In h) (Xb : K.In base) (e : (K.lookup a).isSome = true) (n : h.Ns a m) : base.Ns a m := by
  obtain ⟨o, es, ep, ho, r⟩ := n
  cases q : K.lookup a with
  | none => rw [q] at e; cases e
  | some o' =>
    have h1 := X a o' q
    rw [ho] at h1
    cases h1
    exact ⟨o, es, ep, Xb a o q, r⟩
theorem seer_base {K : PySem.W.Frag} {h base : Heap} {mg : Str → Option Value} {c P : Addr} (X : K.In h) (Xb : K.In base) (N : h.NoSeer) (y : sysOk K = true) (G : base.Ns mainGlobals mg) (B : TabB base mg c P) : base.NoSeer := by
  obtain ⟨y1, z⟩ := He.ba y
  obtain ⟨y2, z⟩ := He.ba z
  obtain ⟨y3, _⟩ := He.ba z
  obtain ⟨bm, ob, b1, _, _, _, b3, b4, b5, _⟩ := B.bm
  exact ⟨let ⟨mc, n, r⟩ := N.statics; ⟨mc, ns_to X Xb y1 n, r⟩, let ⟨mc, n, r⟩ := N.mods; ⟨mc, ns_to X Xb y2 n, r⟩, let ⟨mc, n, r⟩ := N.imp; ⟨mc, ns_to X Xb y3 n, r⟩, ⟨mg, bm, ob, G, b1, b3, b4, b5⟩⟩
theorem lookup_all {f : Obj → Bool} {a : Addr} {o : Obj} : ∀ {K : PySem.W.Frag}, K.all (fun p => f p.2) = true → K.lookup a = some o → f o = true
  | [], _, e => by cases e
  | (b, u) :: r, h, e => by
    rw [List.all_cons] at h
    obtain ⟨h1, h2⟩ := He.ba h
    have e2 : (match a == b with | true => some u | false => List.lookup a r) = some o := e
    cases q : (a == b) with
    | true =>
      rw [q] at e2
      cases e2
      exact h1
    | false =>
      rw [q] at e2
      exact lookup_all h2 e2
theorem noTab {K : PySem.W.Frag} {h : Heap} {P : Addr} (X : K.In h) (y : sysOk K = true) (t : h.get? P = some { cls := .none, data := .fields #[] }) : K.lookup P = none := by
  obtain ⟨_, z⟩ := He.ba y
  obtain ⟨_, z⟩ := He.ba z
  obtain ⟨_, z⟩ := He.ba z
  obtain ⟨y4, _⟩ := He.ba z
  cases q : K.lookup P with
  | none => rfl
  | some o =>
    have h1 := X P o q
    rw [t] at h1
    cases h1
    have := lookup_all (f := fun o => !isTab o) y4 q
    cases this
theorem ft_start {K : PySem.W.Frag} {H : Hp} {P a : Addr} {ns : List Int} (hP : H P = some (.tbl #[])) (hS : SqL K H a (ns.map V.int)) : FT K P lawQ r_law [.ref a] H (fun v _ => v = .bl true) (fun _ _ _ => False) := by
  refine ⟨[], [.list (ns.map .int)], .bool true, by simp, by simp, ⟨#[], hP, by first | exact .nil | trivial | simp [TriplesOk], fun pos cv h => by cases h⟩, .cons (.lst (xs := ns.map V.int) ?_ (DpAll.ints ns)) .nil, ⟨ns, rfl, rfl⟩, fun v H' _ h => by cases h; rfl⟩
  rcases hS with h | h
  · refine .inl ?_
    have ne : a ≠ P := fun e => by
      subst e
      rcases h with h | ⟨ob, h⟩ <;> · rw [hP] at h; cases h
    have e : hide ([] ++ [P]) H a = H a := hide_out (by simpa using ne)
    rcases h with h | ⟨ob, h⟩
    · exact .inl (by rw [e]; exact h)
    · exact .inr ⟨ob, by rw [e]; exact h⟩
  · exact .inr h
abbrev QV : Program := PySem.W.view RR.prog [0, 43]
abbrev dLaw : DefRec := HandSHeadRun.topDef RR.prog 43
theorem law_rec : dLaw ∈ recsOf QV := by
  have e : recsOf QV = [dLaw] := by kernel_rfl
  rw [e]
  exact List.mem_singleton.mpr rfl
theorem walkK : PySem.W.WalkO QV (looseA ++ looseB) (PySem.W.XL QV []) hkS.says (PySem.W.OpenLaw.row PySem.Challenge.rw_treespace_k12_whole_texts).toRowW dLaw [] (fun f vs => PySem.call f vs) := by
  refine Att.attach_callB (l := PySem.Challenge.rw_treespace_k12_whole_texts) (n := 63) rfl (by kernel_rfl) fun w s₀ s₁ mg mb fa o pm cd doc a vs ns G Y ho hd hcd hmg hobj hints hlen hbits hg => ?_
  obtain ⟨K, KX, y, c⟩ := Y
  obtain ⟨T, TE, TM⟩ := mkTx KX G.T.g c y
  have hnm : dLaw.name = ("law" : Str) := by kernel_rfl
  obtain ⟨a1, o1, fd1, c1, P1, t1, t2, t3, t4, t5, t6⟩ := G.T.tab dLaw law_rec
  have hm : mg "law" = some (.ref fa) := by
    rw [← hnm]
    exact hmg
  have e1 : fa = a1 := by
    rw [hmg] at t1
    cases t1
    rfl
  have e2 : fa = T.d_law.fa := by
    have := hm.symm.trans T.d_law.m
    cases this
    rfl
  subst e1
  obtain ⟨oc, od, kV, doc', pm', an, cdv, ct, osl, efd, lk, hcd'⟩ := T.d_law.F.ex
  have hk := KX _ _ lk
  rw [← e2, t2] at hk
  cases hk
  cases t3
  have h6 := t6.2
  have mem : ∀ p ∈ [(c1, P1)], p = (c1, P1) := fun p hp => List.mem_singleton.mp hp
  refine law_callTs (cs := [(c1, P1)]) (k := 13) (fd := T.d_law.fd) (sp := FT K P1 lawQ r_law) (CX := L2.CX0) (x := "script") KX G.T.g G.T.b G.T.builtins G.T.nolimit hg (fun p hp => by rw [mem p hp]; exact h6) (fun p hp => by rw [mem p hp]; exact noTab KX y h6) (fun p hp => by rw [mem p hp]; exact PySem.W.CodeHd.of t5 t6) G.T.bmain hobj hints (Nat.le_trans hlen (by decide)) ⟨rfl, by decide, by decide⟩ (fun base Xb Gb tb => ?_) (fun s u => law_binds T.d_law.F b_law s [u] rfl) (fun H hH hS => ft_start (hH _ (List.mem_singleton.mpr rfl)) hS) fun _ _ _ z => z
  have B := tb _ (List.mem_singleton.mpr rfl)
  rw [e2]
  exact ok_law T TE TM c1 P1 B t4
end KC
open PySem PySem.W PySem.Calls PyProof.Rows in
theorem PySem.Challenge.cw_treespace_k12_whole_texts_holds : PySem.Challenge.rw_treespace_k12_whole_texts.Holds := by
  w_on; o_law
  refine HandSHeadRun.head_imp (r := OpenLaw.row PySem.Challenge.rw_treespace_k12_whole_texts) (q := KC.QV) (H := KC.hkS) (ob := KC.obT) (M := 6000) (loose := KC.looseA ++ KC.looseB) (d := KC.dLaw) (kwd := []) KC.obT_eq
    KC.runK (by kernel_rfl) (by kernel_rfl) (by kernel_rfl) (by rfl) (by first | assumption | decide +kernel) (by decide +kernel) ⟨rfl, rfl, rfl, rfl, rfl, by decide +kernel⟩ ?hw KC.walkK
  case hw => w_witness2
end
